import PyProof.Rows.All
import Wide.All
import OpenK.AllK
import Wide.FinOn
import Lean
import PyProof.EqAt
import PyProof.EqKinds
import PyProof.TupleCall
import PySem.Challenge.RW_dipmaps_k39_whole_plan_dipped
set_option Elab.async false
set_option linter.all false
set_option maxRecDepth 100000
/-! THE HAND LAYER,for ints,bools,texts,own classes,LISTS and tuples (index,slices,in,append,pop ..),calls,loops. Paste it whole ahead of your own text;what your proof does not reach may be deleted. -/
namespace L2
open PySem PySem.Spec PyProof.Rows

abbrev Key:=Sum Int Str
def iY:Key→Value→Bool
 | .inl k,v=>Value.isInt k v
 | .inr x,v=>Value.isStrOf x v
def w6 (w:World):Key→Int
 | .inl k=>hashInt k
 | .inr x=>hashStr w x
theorem b7:∀ {k:Key}{v:Value},iY k v=true→(∃ i t,k=Sum.inl i∧v=Value.int i t)∨(∃ x t,k=Sum.inr x∧v=Value.str x t)
 | .inl i,v,h=>by
   obtain⟨t,e⟩:=Value.isInt_shape (k:=i) (v:=v) h
   exact .inl ⟨i,t,rfl,e⟩
 | .inr x,v,h=>by
   obtain⟨t,e⟩:=Value.isStrOf_shape (x:=x) (v:=v) h
   exact .inr ⟨x,t,rfl,e⟩
theorem qF (i:Int)(t:Tok):iY (.inl i) (.int i t)=true:=by simp[iY,Value.isInt]
theorem qS (x:Str)(t:Tok):iY (.inr x) (.str x t)=true:=by simp[iY,Value.isStrOf]
theorem vT (a b:Int):decide ((Sum.inl a:Key)=Sum.inl b)=(a==b):=by
 by_cases e:a=b
 · subst e;simp
 · have h:¬(Sum.inl a:Key)=Sum.inl b:=fun q=>e (Sum.inl.inj q)
   rw[decide_eq_false h]
   exact(beq_eq_false_iff_ne.mpr e).symm
theorem vm (a b:Str):decide ((Sum.inr a:Key)=Sum.inr b)=decide (a=b):=by
 by_cases e:a=b
 · subst e;simp
 · have h:¬(Sum.inr a:Key)=Sum.inr b:=fun q=>e (Sum.inr.inj q)
   rw[decide_eq_false h,decide_eq_false e]
theorem vP (a:Int) (b:Str):decide ((Sum.inl a:Key)=Sum.inr b)=false:=decide_eq_false (fun q=>nomatch q)
theorem vN (a:Str) (b:Int):decide ((Sum.inr a:Key)=Sum.inl b)=false:=decide_eq_false (fun q=>nomatch q)

def bU (prog:Program)(w:World):PySem.KeyKind prog w Key where
 is:=iY
 hash:=w6 w
 inj:=fun v a b ha hb=>by
   rcases b7 ha with ⟨i,t,rfl,rfl⟩ | ⟨x,t,rfl,rfl⟩
   · rcases b7 hb with ⟨j,u,rfl,e⟩ | ⟨y,u,rfl,e⟩
     · injection e with e1 _;rw[e1]
     · exact nomatch e
   · rcases b7 hb with ⟨j,u,rfl,e⟩ | ⟨y,u,rfl,e⟩
     · exact nomatch e
     · injection e with e1 _;rw[e1]
 byValue:=fun k v h=>by
   rcases b7 h with ⟨i,t,rfl,rfl⟩ | ⟨x,t,rfl,rfl⟩<;>rfl
 pyHash:=fun hv h=>by
   rcases b7 hv with ⟨i,t,rfl,rfl⟩ | ⟨x,t,rfl,rfl⟩
   · exact wpAny_pyHash_int h
   · exact wpAny_pyHash_str h
 eqBool:=fun hu hv h=>by
   rcases b7 hu with ⟨i,t,rfl,rfl⟩ | ⟨x,t,rfl,rfl⟩
   · rcases b7 hv with ⟨j,u,rfl,rfl⟩ | ⟨y,u,rfl,rfl⟩
     · rw[vT] at h;exact wpAny_eqBool_int h
     · rw[vP] at h;exact SeqAt.EqAt.int_str i t y u _ _ _ _ h
   · rcases b7 hv with ⟨j,u,rfl,rfl⟩ | ⟨y,u,rfl,rfl⟩
     · rw[vN] at h;exact SeqAt.EqAt.str_int x t j u _ _ _ _ h
     · rw[vm] at h;exact wpAny_eqBool_str h
 «strs»:=fun k x t v h=>by
   rcases b7 h with ⟨i,u,rfl,e⟩ | ⟨y,u,rfl,e⟩
   · exact nomatch e
   · injection e with e1 _
     subst e1
     cases v<;>rfl

theorem nk (prog:Program)(w:World) (i:Int)(t:Tok):(bU prog w).is (.inl i) (.int i t)=true:=qF i t
theorem gm (prog:Program)(w:World) (x:Str)(t:Tok):(bU prog w).is (.inr x) (.str x t)=true:=qS x t
end L2

namespace L2
open PySem PySem.Spec PyProof.Rows

inductive V where
 | non | bl (b:Bool) | int (i:Int) | str (x:Str) | byt (b:Array UInt8) | flt (b:UInt64) | ref (a:Addr) | ty (n:String)
 deriving DecidableEq

def bF:V→Value→Prop
 | .non,u=>u=Value.none
 | .bl b,u=>u=Value.bool b
 | .int i,u=>∃ t,u=Value.int i t
 | .str x,u=>∃ t,u=Value.str x t
 | .byt b,u=>∃ t,u=Value.bytes b t
 | .flt b,u=>∃ t,u=Value.float b t
 | .ref a,u=>u=Value.ref a
 | .ty n,u=>u=Value.type n

abbrev Vals:List V→List Value→Prop:=Paired bF
theorem Vals.length {xs:List V}{us:List Value}(r:Vals xs us):xs.length=us.length:=Paired.length r
theorem Vals.get:∀ {xs:List V}{us:List Value}{i:Nat}{x:V},Vals xs us→xs[i]?=some x→∃ u,us[i]?=some u∧bF x u
 | _,_,_,_,.nil,e=>by simp at e
 | _,_,0,_,.cons r _,e=>by simp at e;subst e;exact⟨_,rfl,r⟩
 | _,_,i+1,x,.cons _ t,e=>by
   obtain⟨u,h1,h2⟩:=Vals.get (i:=i) (x:=x) t (by simpa using e)
   exact⟨u,by simpa using h1,h2⟩
theorem Vals.set {x:V}{u:Value}(r:bF x u):∀ {xs:List V}{us:List Value} (i:Nat),Vals xs us→Vals (xs.set i x) (us.set i u)
 | _,_,_,.nil=>.nil
 | _,_,0,.cons _ t=>.cons r t
 | _,_,i+1,.cons q t=>.cons q (Vals.set r i t)
theorem Vals.append:∀ {xs ys:List V}{us ws:List Value},Vals xs us→Vals ys ws→Vals (xs++ys) (us++ws)
 | _,_,_,_,.nil,s=>s
 | _,_,_,_,.cons r t,s=>.cons r (Vals.append t s)
theorem Vals.take:∀ {xs:List V}{us:List Value} (n:Nat),Vals xs us→Vals (xs.take n) (us.take n)
 | _,_,0,_=>.nil
 | _,_,_+1,.nil=>.nil
 | _,_,n+1,.cons r t=>.cons r (Vals.take n t)
theorem Vals.drop:∀ {xs:List V}{us:List Value} (n:Nat),Vals xs us→Vals (xs.drop n) (us.drop n)
 | _,_,0,r=>r
 | _,_,_+1,.nil=>.nil
 | _,_,n+1,.cons _ t=>Vals.drop n t
def gO:Option V→Option Value→Prop
 | some v,some u=>bF v u
 | none,none=>True
 | _,_=>False
def KV {κ:Type}:List (κ×V)→List (κ×Value)→Prop:=Paired fun(p:κ×V)(q:κ×Value)=>p.1=q.1∧bF p.2 q.2

def kV:Key→V
 | .inl i=>.int i
 | .inr x=>.str x

inductive HO where
 | lst (xs:List V)
 | tup (xs:List V)
 | dK (kvs:List (Key×V)) | dT (kvs:List (List Key×V))
 | set (S:Int→Bool) (n:Nat)
 | ins (C dx:Addr)(fs:List (Str×V))
 | own (x:Addr)
 | xd (fs:List (Str×V))
 | met (f x:Addr)
 | rng (lo hi:Int)
 | frz (o:Obj)(u:HO)
 | tbl (ps:Array Value)
 | ext (φ:Heap→Prop)

abbrev Hp:=Addr→Option HO
def upd (H:Hp)(a:Addr)(o:HO):Hp:=fun b=>if b=a then some o else H b
theorem ad {H:Hp}{a:Addr}{o:HO}:upd H a o a=some o:=by unfold upd;rw[if_pos rfl]
theorem ag {H:Hp}{a b:Addr}{o:HO}(h:b≠a):upd H a o b=H b:=by unfold upd;rw[if_neg h]
theorem gE {H:Hp}{a:Addr}{o u:HO}:upd (upd H a o) a u=upd H a u:=by
 funext b;unfold upd;split<;>rfl
theorem wx {H:Hp}{a b:Addr}{o u:HO}(h:H a=some o)(h':H b=some u)(d:o≠u):a≠b:=by
 intro e;subst e;rw[h] at h';exact d (Option.some.inj h')
theorem aw {H:Hp}{a b:Addr}{o:HO}(h:H a=some o)(h':H b=none):a≠b:=by
 intro e;subst e;rw[h] at h';cases h'

section
variable (P:Program)(w:World)
def cg (H:Hp)(h:Heap)(a:Addr):HO→Prop
 | .lst xs=>xs.length≤sizeLine∧∃ (its:List Value) (n:Nat),Vals xs its∧h.get? a=some { cls:=.type "list",data:=.seq its.toArray n }
 | .tup xs=>xs.length≤sizeLine∧∃ its:List Value,Vals xs its∧IsTup h a its.toArray
 | .dK kvs=>kvs.length≤sizeLine∧(a==sysModules)=false∧∃ vs,KV kvs vs∧h.DictOf (bU P w) a vs
 | .dT kvs=>kvs.length≤sizeLine∧(a==sysModules)=false∧∃ xs:List (List Key×Addr×Value),
     Paired (fun(p:List Key×V)(q:List Key×Addr×Value)=>p.1=q.1∧H q.2.1=some (.tup (p.1.map kV))∧bF p.2 q.2.2) kvs xs ∧
     ∃ o es ep,h.get? a=some o∧o.ExactDict∧o.data=.dict es ep∧es.toList=xs.map (entryOfKey (tupleKind (bU P w)))∧(xs.map (·.1)).Nodup
 | .set S n=>h.SetOf (intKind P w) a S n
 | .ins C dx fs=>H dx=some (.own a)∧fs.length≤1000∧dx≠a∧h.get? a=some (PySem.W.instObj C dx) ∧
     ∃ mA,h.Ns1 dx mA∧(∀ f,gO (fs.lookup f) (mA f))∧PySem.Within mA (fs.map (·.1))
 | .own _=>∃ o,h.get? a=some o
 | .xd fs=>∃ mA,h.Ns1 a mA∧∀ f,gO (fs.lookup f) (mA f)
 | .rng lo hi=>∃ t u v,h.get? a=some { cls:=.type "range",data:=.fields #[.int lo t,.int hi u,.int 1 v] }
 | .frz o u=>h.get? a=some o∧cg H h a u
 | .tbl ps=>h.get? a=some { cls:=.none,data:=.fields ps }
 | .met f x=>h.get? a=some (PySem.W.methodObj (.ref f) (.ref x))
 | .ext φ=>φ h∧(∃ o,h.get? a=some o)∧∀ h1 h2:Heap,φ h1→(∀ o,h1.get? a=some o→h2.get? a=some o)→φ h2
def HOk (H:Hp)(h:Heap):Prop:=∀ a o,H a=some o→cg P w H h a o
end

section
variable {P:Program}{w:World}{H H':Hp}{h h':Heap}{a:Addr}{o:HO}
theorem cg.lt (x:cg P w H h a o):a < h.objs.size:=by
 cases o with
 | lst xs=>obtain⟨_,_,_,_,e⟩:=x;exact Heap.lt_size e
 | tup xs=>obtain⟨_,_,_,p⟩:=x;exact p.lt
 | dK kvs=>obtain⟨_,_,_,_,o,_,_,e,_⟩:=x;exact Heap.lt_size e
 | dT kvs=>obtain⟨_,_,_,_,o,_,_,e,_⟩:=x;exact Heap.lt_size e
 | set S n=>obtain⟨o,_,_,_,e,_⟩:=x;exact Heap.lt_size e
 | ins C dx fs=>obtain⟨_,_,_,e,_⟩:=x;exact Heap.lt_size e
 | own y=>obtain⟨_,e⟩:=x;exact Heap.lt_size e
 | xd fs=>obtain⟨_,⟨_,_,_,e,_⟩,_⟩:=x;exact Heap.lt_size e
 | rng lo hi=>obtain⟨_,_,_,e⟩:=x;exact Heap.lt_size e
 | frz ob u=>obtain⟨e,_⟩:=x;exact Heap.lt_size e
 | tbl ps=>exact Heap.lt_size (show h.get? a=some _ from x)
 | met f y=>exact Heap.lt_size (show h.get? a=some _ from x)
 | ext φ=>obtain⟨_,⟨_,e⟩,_⟩:=x;exact Heap.lt_size e
theorem Paired.mapP {α β:Type}{F G:α→β→Prop}:∀ {l₁:List α}{l₂:List β},Paired F l₁ l₂→(∀ a b,F a b→G a b)→Paired G l₁ l₂
 | _,_,.nil,_=>.nil
 | _,_,.cons r t,f=>.cons (f _ _ r) (Paired.mapP t f)
theorem cg.stay (x:cg P w H h a o)(k:∀ b u,(b=a∨H b=some (.own a))→h.get? b=some u→h'.get? b=some u)
   (ho:∀ b,H b=some (.own a)→H' b=some (.own a))(ht:∀ b xs,H b=some (.tup xs)→H' b=some (.tup xs)):cg P w H' h' a o:=by
 induction o with
 | lst xs=>obtain⟨z,its,n,r,e⟩:=x;exact⟨z,its,n,r,k _ _ (.inl rfl) e⟩
 | tup xs=>obtain⟨z,its,r,ob,e,c⟩:=x;exact⟨z,its,r,ob,k _ _ (.inl rfl) e,c⟩
 | dK kvs=>obtain⟨z,y,vs,r,ob,es,ep,e,c⟩:=x;exact⟨z,y,vs,r,ob,es,ep,k _ _ (.inl rfl) e,c⟩
 | dT kvs =>
   obtain⟨z,y,xs,r,ob,es,ep,e,c⟩:=x
   exact⟨z,y,xs,Paired.mapP r fun p q z=>⟨z.1,ht _ _ z.2.1,z.2.2⟩,ob,es,ep,k _ _ (.inl rfl) e,c⟩
 | set S n=>obtain⟨ob,es,ep,t,e,c⟩:=x;exact⟨ob,es,ep,t,k _ _ (.inl rfl) e,c⟩
 | ins C dx fs =>
   obtain⟨d,z,ne,e,mA,⟨od,es,ep,e2,c⟩,r⟩:=x
   exact⟨ho _ d,z,ne,k _ _ (.inl rfl) e,mA,⟨od,es,ep,k _ _ (.inr d) e2,c⟩,r⟩
 | own y=>obtain⟨ob,e⟩:=x;exact⟨ob,k _ _ (.inl rfl) e⟩
 | xd fs=>obtain⟨mA,⟨od,es,ep,e,c⟩,r⟩:=x;exact⟨mA,⟨od,es,ep,k _ _ (.inl rfl) e,c⟩,r⟩
 | rng lo hi=>obtain⟨t,u,v,e⟩:=x;exact⟨t,u,v,k _ _ (.inl rfl) e⟩
 | frz ob u ih=>obtain⟨e,q⟩:=x;exact⟨k _ _ (.inl rfl) e,ih q⟩
 | tbl ps =>
   have e:h.get? a=some { cls:=.none,data:=.fields ps }:=x
   show h'.get? a=some { cls:=.none,data:=.fields ps }
   exact k a _ (.inl rfl) e
 | met f y =>
   have e:h.get? a=some (PySem.W.methodObj (.ref f) (.ref y)):=x
   show h'.get? a=some (PySem.W.methodObj (.ref f) (.ref y))
   exact k a _ (.inl rfl) e
 | ext φ=>obtain⟨p,⟨o,e⟩,st⟩:=x;exact⟨st _ _ p fun o q=>k _ _ (.inl rfl) q,⟨o,k _ _ (.inl rfl) e⟩,st⟩
theorem HOk.lt (x:HOk P w H h)(e:H a=some o):a < h.objs.size:=(x a o e).lt
theorem HOk.fresh (x:HOk P w H h)(e:h.objs.size≤a):H a=none:=by
 cases q:H a with
 | none=>rfl
 | some u=>exact absurd (Nat.lt_of_lt_of_le (x.lt q) e) (Nat.lt_irrefl _)
theorem HOk.kept (x:HOk P w H h)(k:∀ b u,h.get? b=some u→h'.get? b=some u):HOk P w H h':=fun a o e =>
 (x a o e).stay (fun b u _ q=>k b u q) (fun _ q=>q) fun _ _ q=>q
theorem HOk.laid (x:HOk P w H h)(k:∀ b u,h.get? b=some u→h'.get? b=some u)(hp:h.objs.size≤a)(new:cg P w (upd H a o) h' a o):HOk P w (upd H a o) h':=fun b u e=>by
 have hn:=x.fresh hp
 by_cases hb:b=a
 · subst hb;rw[ad] at e;cases e;exact new
 · rw[ag hb] at e
   exact(x b u e).stay (fun c v _ q=>k c v q) (fun c q=>by rw[ag (aw q hn)];exact q) fun c xs q=>by rw[ag (aw q hn)];exact q
end

def Rd (H:Hp)(a:Addr)(u:HO):Prop:=H a=some u∨∃ o,H a=some (.frz o u)
theorem Rd.ok {P:Program}{w:World}{H:Hp}{h:Heap}{a:Addr}{u:HO}(r:Rd H a u)(x:HOk P w H h):cg P w H h a u:=by
 rcases r with r | ⟨o,r⟩
 · exact x a u r
 · obtain⟨_,q⟩:=x a _ r
   exact q
def Mut:Option HO→Prop
 | some (.lst _)=>True
 | some (.dK _)=>True
 | some (.dT _)=>True
 | some (.set _ _)=>True
 | some (.ins _ _ _)=>True
 | some (.ext _)=>True
 | _=>False
section
variable {P:Program}{w:World}{H:Hp}{h h':Heap}{x e:Addr}{o':HO}
theorem HOk.write (ok:HOk P w H h)(mu:Mut (H x))(he:e=x∨H e=some (.own x))(k:∀ b u,b≠e→h.get? b=some u→h'.get? b=some u)(heo:∃ u,h'.get? e=some u)
   (new:cg P w (upd H x o') h' x o'):HOk P w (upd H x o') h':=fun b u q=>by
 have nown:∀ c y,H c=some (.own y)→c≠x:=fun c y r z=>by subst z;rw[r] at mu;exact mu
 have ntup:∀ c xs,H c=some (.tup xs)→c≠x:=fun c xs r z=>by subst z;rw[r] at mu;exact mu
 by_cases hb:b=x
 · subst hb;rw[ad] at q;cases q;exact new
 · rw[ag hb] at q
   by_cases hbe:b=e
   · have q':H b=some (.own x):=by
       rcases he with z | z
       · exact absurd (hbe.trans z) hb
       · rw[hbe];exact z
     rw[q] at q';cases q'
     obtain⟨v,hv⟩:=heo
     exact⟨v,by rw[hbe];exact hv⟩
   · refine(ok b u q).stay (fun c v hc r=>k c v ?_ r) (fun c r=>by rw[ag (nown c b r)];exact r) fun c xs r=>by rw[ag (ntup c xs r)];exact r
     rcases hc with rfl | hc
     · exact hbe
     · rintro rfl
       rcases he with z | z
       · exact nown c b hc z
       · rw[hc] at z;cases z;exact hb rfl
end

/-! ### kept unless tracked;of the frames at fs (the callers') the slots may change (an exception that passes writes there);of the records at ex (iterators) nothing is said -/
structure Un (fs ex:List Addr)(H H':Hp)(h h':Heap):Prop where
 keep:∀ b o,h.get? b=some o→H b=none→b∉fs→b∉ex→h'.get? b=some o
 slot:∀ b o,h.get? b=some o→H b=none→b∈fs→b∉ex→∃ sl,h'.get? b=some { o with slots:=sl }
 free:∀ b o,h.get? b=some o→H b=none→b∉ex→H' b=none
 there:∀ b o,h.get? b=some o→b∉ex→∃ o',h'.get? b=some o'
 tups:∀ b xs,H b=some (.tup xs)→H' b=some (.tup xs)
 frzs:∀ b o u,H b=some (.frz o u)→H' b=some (.frz o u)
 tbls:∀ b ps,H b=some (.tbl ps)→∃ more,H' b=some (.tbl (ps++more))
section
variable {fs fs' ex ex':List Addr}{H H1 H2:Hp}{h h1 h2 h':Heap}{a x e:Addr}{o:HO}
theorem Un.any (u:Un fs ex H H1 h h1){b:Addr}{ob:Obj}(q:h.get? b=some ob)(n:H b=none)(hx:b∉ex):∃ sl,h1.get? b=some { ob with slots:=sl }:=by
 by_cases hb:b∈fs
 · exact u.slot b ob q n hb hx
 · exact⟨ob.slots,u.keep b ob q n hb hx⟩
theorem Un.kept (k:∀ b u,h.get? b=some u→h'.get? b=some u):Un fs ex H H h h' :=
 ⟨fun b ob q _ _ _=>k b ob q,fun b ob q _ _ _=>⟨ob.slots,k b ob q⟩,fun _ _ _ n _=>n,fun b ob q _=>⟨ob,k b ob q⟩,fun _ _ q=>q,fun _ _ _ q=>q,fun _ ps q=>⟨#[],by rw[q];simp⟩⟩
theorem Un.refl:Un fs ex H H h h:=Un.kept fun _ _ q=>q
theorem Un.laid (k:∀ b u,h.get? b=some u→h'.get? b=some u)(hp:h.objs.size≤a)(hn:H a=none):Un fs ex H (upd H a o) h h' where
 keep:=fun b u q _ _ _=>k b u q
 slot:=fun b u q _ _ _=>⟨u.slots,k b u q⟩
 free:=fun b u q n _=>by rw[ag (Nat.ne_of_lt (Nat.lt_of_lt_of_le (Heap.lt_size q) hp))];exact n
 there:=fun b u q _=>⟨u,k b u q⟩
 tups:=fun b xs q=>by rw[ag (aw q hn)];exact q
 frzs:=fun b u xs q=>by rw[ag (aw q hn)];exact q
 tbls:=fun b ps q=>⟨#[],by rw[ag (aw q hn),q];simp⟩
theorem Un.write (mu:Mut (H x))(he:e=x∨H e=some (.own x))(k:∀ b u,b≠e→h.get? b=some u→h'.get? b=some u)(heo:∃ u,h'.get? e=some u):Un fs ex H (upd H x o) h h':=by
 have hx:∀ b,H b=none→b≠x:=fun b n z=>by subst z;rw[n] at mu;exact mu
 have hb:∀ b,H b=none→b≠e:=fun b n z=>by
   subst z
   rcases he with r | r
   · exact hx b n r
   · rw[n] at r;cases r
 have hm:∀ b u,H b=some u→¬Mut (some u)→b≠x:=fun b u q nm z=>by subst z;rw[q] at mu;exact nm mu
 refine⟨fun b u q n _ _=>k b u (hb b n) q,fun b u q n _ _=>⟨u.slots,k b u (hb b n) q⟩,fun b u q n _=>by rw[ag (hx b n)];exact n,fun b u q _=>?_,
   fun b xs q=>by rw[ag (hm b _ q fun z=>z)];exact q,fun b u xs q=>by rw[ag (hm b _ q fun z=>z)];exact q,fun b ps q=>⟨#[],by rw[ag (hm b _ q fun z=>z),q];simp⟩⟩
 by_cases hbe:b=e
 · subst hbe;exact heo
 · exact⟨u,k b u hbe q⟩
end

/-! ### the heap without what is tracked -/
def trk (h:Heap)(H:Hp):List Addr:=(List.range h.objs.size).filter fun a=>(H a).isSome
def ma (h:Heap)(H:Hp):Heap:=PySem.W.hideAll h (trk h H)
theorem qI (h:Heap)(H:Hp):(ma h H).objs.size=h.objs.size:=PySem.W.hideAll_size _ _
theorem rX {h:Heap}{H:Hp}{b:Addr}{o:Obj}(e:h.get? b=some o)(n:H b=none):(ma h H).get? b=some o :=
 PySem.W.hideAll_get _ e fun hm=>by
   have q:(H b).isSome=true:=(List.mem_filter.mp hm).2
   rw[n] at q;simp at q
theorem uy {h:Heap}{H:Hp}{b:Addr}{o:Obj}(e:(ma h H).get? b=some o):h.get? b=some o∧H b=none:=by
 have e':h.get? b=some o:=PySem.W.of_hideAll (trk h H) e
 refine⟨e',?_⟩
 cases q:H b with
 | none=>rfl
 | some x =>
   have hm:b∈trk h H:=List.mem_filter.mpr ⟨List.mem_range.mpr (Heap.lt_size e'),by simp[q]⟩
   have z:(ma h H).get? b=none:=PySem.W.hideAll_none (trk h H) hm
   rw[z] at e;cases e

/-! ### OpenK's ledger,filled with every new object but one -/
def ud (g h:Heap)(L:Addr):List (Addr×Obj):=(List.range h.objs.size).filterMap fun a=>if a=L∨(g.get? a).isSome=true then none else(h.get? a).map fun o=>(a,o)
def cY (g h:Heap)(L d:Addr):List (Addr×Obj):=(ud g h L).filter fun p=>decide (p.1≠d)
end L2

namespace L2
open PySem PySem.Spec PyProof.Rows

structure Mod (K:PySem.W.Frag)(mg:Str→Option Value)(base:Heap):Prop where
 kin:K.In base
 glob:base.Ns mainGlobals mg
 blt:∃ mb,base.Ns builtinsNs mb∧∀ x:Str,x≠"__name__"→mb x=bootBuiltins x
 nolimit:base.NoLimit

structure Cx where
 prog:Program
 w:World
 K:PySem.W.Frag
 mg:Str→Option Value
 base:Heap
 A:Around
 N:List Str
 s₀:Shared
 H₀:Hp
 env:Env
 outer:List Env
 stack:List Env
 ex:List Addr
 fn:Str→Bool
 calm:Bool
 pn:List (Addr×Obj)
 xe:Value→Shared→Prop
def frs (l:List Env):List Addr:=l.filterMap (·.frame)
abbrev Cx.fs (X:Cx):List Addr:=frs X.outer

def Vis (sc:Scope) (x:Str):Prop:=sc.names.lookup x=some .local∨sc.names.lookup x=some .cell∨sc.names.lookup x=some .free
def Loc (sc:Scope) (x:Str):Prop:=sc.names.lookup x=some .local∨sc.names.lookup x=some .cell
def xj (env:Env)(h:Heap)(m:Str→Option Value) (x:Str) (u:Value):Prop :=
 (env.kindOf x=some .local∧m x=some u)∨((env.kindOf x=some .cell∨env.kindOf x=some .free)∧∃ c,env.cells.lookup x=some c∧h.IsCell c (some u))

structure Cx.Ok (X:Cx):Prop where
 mod:Mod X.K X.mg X.base
 kind:X.env.scope.kind=.function
 glob:X.env.globals=mainGlobals
 blt:X.env.builtins=builtinsNs
 above:X.s₀.heap.objs.size≤X.env.locals
 inj:∀ x y c,X.env.cells.lookup x=some c→X.env.cells.lookup y=some c→x=y
 has:∀ x,(X.env.kindOf x=some .cell∨X.env.kindOf x=some .free)→∃ c,X.env.cells.lookup x=some c
 cab:∀ x c,X.fn x=true→X.env.cells.lookup x=some c→X.s₀.heap.objs.size≤c
 hd:X.calm=true→X.A.handled=none
 frames:X.A.frames=some X.stack
 stk:X.stack=X.outer∨(X.stack=X.env::X.outer∧X.env.frame=some X.env.locals)
 exf:∀ b∈X.ex,b≠X.env.locals∧∀ x c,X.env.cells.lookup x=some c→c≠b
 bs:∀ b o,X.base.get? b=some o→X.s₀.heap.get? b=some o∧X.H₀ b=none
 bsz:X.base.objs.size≤X.s₀.heap.objs.size
 noex:∀ b o,X.base.get? b=some o→b∉X.ex
 exfs:∀ b∈X.ex,b∉X.fs
 funs:X.s₀.heap.FunFrames X.base X.outer
 frf:∀ b∈X.fs,X.H₀ b=none

structure Inv (X:Cx)(pins:List (Addr×Obj))(σ:List (Option V))(H:Hp)(s:Shared):Prop where
 ok:X.Ok
 os:s.os=X.s₀.os
 bare:AllBare s.gens
 base:Un X.fs X.ex X.H₀ H X.s₀.heap s.heap
 loc:∃ m,s.heap.Ns X.env.locals m∧∀ (i:Nat) (x:Str) (v:V),X.N[i]?=some x→σ[i]?=some (some v)→Vis X.env.scope x→∃ u,bF v u∧xj X.env s.heap m x u
 cell:∀ x c,X.env.cells.lookup x=some c→∃ v,s.heap.IsCell c v
 free:H X.env.locals=none
 freeC:∀ x c,X.env.cells.lookup x=some c→H c=none
 pin:∀ p∈X.pn++pins,s.heap.get? p.1=some p.2∧H p.1=none∧p.1≠X.env.locals∧p.1∉X.fs∧∀ v,p.2.data≠.cell v
 hok:HOk X.prog X.w H s.heap
 len:σ.length=X.N.length

section
variable {X:Cx}{pins:List (Addr×Obj)}{σ:List (Option V)}{H H':Hp}{s:Shared}{h':Heap}

theorem Cx.Ok.nofr (ok:X.Ok){b:Addr}{o:Obj}(e:X.base.get? b=some o):b∉X.fs:=fun hb=>by
 have:=(ok.funs.mem hb).1
 rw[e] at this;cases this
theorem Inv.bs (I:Inv X pins σ H s):∀ b o,X.base.get? b=some o→s.heap.get? b=some o∧H b=none:=fun b o e =>
 ⟨I.base.keep b o (I.ok.bs b o e).1 (I.ok.bs b o e).2 (I.ok.nofr e) (I.ok.noex b o e),I.base.free b o (I.ok.bs b o e).1 (I.ok.bs b o e).2 (I.ok.noex b o e)⟩
theorem Inv.bk (I:Inv X pins σ H s):∀ b o,X.base.get? b=some o→s.heap.get? b=some o:=fun b o e=>(I.bs b o e).1
theorem Inv.mod (I:Inv X pins σ H s):Mod X.K X.mg X.base:=I.ok.mod
theorem Inv.kIn (I:Inv X pins σ H s):X.K.In s.heap:=I.ok.mod.kin.keeps I.bk
theorem Inv.lt (I:Inv X pins σ H s):X.env.locals < s.heap.objs.size:=let ⟨_,hn,_⟩:=I.loc;hn.lt
theorem Inv.sz (I:Inv X pins σ H s):X.s₀.heap.objs.size≤s.heap.objs.size:=Nat.le_trans I.ok.above (Nat.le_of_lt I.lt)
theorem Inv.nofs (I:Inv X pins σ H s){a:Addr}(h:s.heap.objs.size≤a):a∉X.fs:=fun hb=>by
 obtain⟨_,o,ho,_⟩:=I.ok.funs.mem hb
 exact absurd (Nat.lt_of_lt_of_le (Heap.lt_size ho) (Nat.le_trans I.sz h)) (Nat.lt_irrefl _)
theorem Inv.cne (I:Inv X pins σ H s):∀ x c,X.env.cells.lookup x=some c→c≠X.env.locals:=fun x c e z=>by
 obtain⟨v,o,ho,hd⟩:=I.cell x c e
 obtain⟨m,⟨o',es,ep,ho',hd',_⟩,_⟩:=I.loc
 rw[z,ho'] at ho;cases ho;rw[hd'] at hd;cases hd
theorem Inv.funs (I:Inv X pins σ H s):s.heap.FunFrames X.base X.outer:=by
 have all:∀ (l:List Env),(∀ b∈frs l,b∈X.fs)→X.s₀.heap.FunFrames X.base l→s.heap.FunFrames X.base l:=by
   intro l
   induction l with
   | nil=>intro _ _;trivial
   | cons env r ih =>
     intro hs hl
     obtain⟨hk,⟨L,o,hf,hn,ho,hd⟩,hr⟩:=hl
     have hL:L∈X.fs:=hs L (by unfold frs;rw[List.filterMap_cons,hf];exact List.mem_cons_self)
     obtain⟨sl,e⟩:=I.base.slot L o ho (I.ok.frf L hL) hL fun z=>I.ok.exfs L z hL
     exact⟨hk,⟨L,_,hf,hn,e,hd⟩,ih (fun b hb=>hs b (by unfold frs;rw[List.filterMap_cons,hf];exact List.mem_cons_of_mem _ hb)) hr⟩
 exact all X.outer (fun _ hb=>hb) I.ok.funs

theorem Inv.stack (I:Inv X pins σ H s):s.heap.FunFrames X.base X.stack:=by
 rcases I.ok.stk with e | ⟨e,hf⟩
 · rw[e];exact I.funs
 · rw[e]
   obtain⟨m,hn,_⟩:=I.loc
   refine .cons (by rw[I.ok.kind];decide) hf hn ?_ I.funs
   exact Heap.get?_none_of_le (Nat.le_trans I.ok.bsz I.ok.above)
theorem Inv.stkSub (I:Inv X pins σ H s):∀ b∈frs X.stack,b∈X.env.locals::X.fs:=fun b hb=>by
 rcases I.ok.stk with e | ⟨e,hf⟩
 · rw[e] at hb;exact List.mem_cons_of_mem _ hb
 · rw[e] at hb
   unfold frs at hb
   rw[List.filterMap_cons,hf] at hb
   exact hb
theorem Inv.stkFree (I:Inv X pins σ H s):∀ b∈frs X.stack,H b=none:=fun b hb=>by
 rcases List.mem_cons.mp (I.stkSub b hb) with e | hb
 · rw[e];exact I.free
 · obtain⟨_,o,ho,_⟩:=I.ok.funs.mem hb
   exact I.base.free b o ho (I.ok.frf b hb) fun z=>I.ok.exfs b z hb

theorem Inv.step {g':Array GenState}{t':Nat}{d':Drawn}{ch:List Addr}(I:Inv X pins σ H s)
   (hch:∀ b∈ch,(b∈X.ex∨X.s₀.heap.objs.size≤b)∧b≠X.env.locals∧(∀ x c,X.env.cells.lookup x=some c→c≠b)∧∀ p∈X.pn++pins,p.1≠b)
   (keep:∀ b o,b≠X.env.locals→b∉X.fs→b∉ch→s.heap.get? b=some o→H b=none→h'.get? b=some o)
   (slot:∀ b o,b≠X.env.locals→b∈X.fs→b∉ch→s.heap.get? b=some o→H b=none→∃ sl,h'.get? b=some { o with slots:=sl })(free:∀ b o,b∉ch→s.heap.get? b=some o→H b=none→H' b=none)
   (there:∀ b o,b∉ch→s.heap.get? b=some o→∃ o',h'.get? b=some o')
   (tups:∀ b xs,H b=some (.tup xs)→H' b=some (.tup xs))(frzs:∀ b o u,H b=some (.frz o u)→H' b=some (.frz o u))(tbls:∀ b ps,H b=some (.tbl ps)→∃ more,H' b=some (.tbl (ps++more)))
   (ns:∀ m,s.heap.Ns X.env.locals m→h'.Ns X.env.locals m)(hok:HOk X.prog X.w H' h')(hg:AllBare g') :
   Inv X pins σ H' { s with heap:=h',gens:=g',drawn:=d',toks:=t' }:=by
 have neL:∀ b o,X.s₀.heap.get? b=some o→b≠X.env.locals:=fun b o e=>Nat.ne_of_lt (Nat.lt_of_lt_of_le (Heap.lt_size e) I.ok.above)
 have neC:∀ b o,X.s₀.heap.get? b=some o→b∉X.ex→b∉ch:=fun b o e hx hb=>by
   rcases(hch b hb).1 with z | z
   · exact hx z
   · exact absurd (Nat.lt_of_lt_of_le (Heap.lt_size e) z) (Nat.lt_irrefl _)
 have cellK:∀ x c,X.env.cells.lookup x=some c→∀ v,s.heap.IsCell c v→h'.IsCell c v:=fun x c e v ⟨o,ho,hd⟩=>by
   have nch:c∉ch:=fun z=>(hch c z).2.2.1 x c e rfl
   by_cases hc:c∈X.fs
   · obtain⟨sl,q⟩:=slot c o (I.cne x c e) hc nch ho (I.freeC x c e)
     exact⟨_,q,hd⟩
   · exact⟨o,keep c o (I.cne x c e) hc nch ho (I.freeC x c e),hd⟩
 refine⟨I.ok,I.os,hg,⟨fun b o e n hb hx=>?_,fun b o e n hb hx=>?_,fun b o e n hx=>?_,fun b o e hx=>?_,fun b xs e=>tups b xs (I.base.tups b xs e),fun b o xs e=>frzs b o xs (I.base.frzs b o xs e),fun b ps e=>?_⟩,?_,fun x c e=>?_,?_,fun x c e=>?_,fun p hp=>?_,hok,I.len⟩
 · exact keep b o (neL b o e) hb (neC b o e hx) (I.base.keep b o e n hb hx) (I.base.free b o e n hx)
 · obtain⟨sl,e1⟩:=I.base.slot b o e n hb hx
   obtain⟨sl',e2⟩:=slot b _ (neL b o e) hb (neC b o e hx) e1 (I.base.free b o e n hx)
   exact⟨sl',e2⟩
 · obtain⟨o',e1⟩:=I.base.there b o e hx
   exact free b o' (neC b o e hx) e1 (I.base.free b o e n hx)
 · obtain⟨o',e1⟩:=I.base.there b o e hx
   exact there b o' (neC b o e hx) e1
 · obtain⟨m1,e1⟩:=I.base.tbls b ps e
   obtain⟨m2,e2⟩:=tbls b _ e1
   exact⟨m1++m2,by rw[e2,Array.append_assoc]⟩
 · obtain⟨m,hn,hl⟩:=I.loc
   refine⟨m,ns m hn,fun i x v e1 e2 e3=>?_⟩
   obtain⟨u,r,l⟩:=hl i x v e1 e2 e3
   refine⟨u,r,?_⟩
   rcases l with l | ⟨k,c,e,z⟩
   · exact .inl l
   · exact .inr ⟨k,c,e,cellK x c e _ z⟩
 · obtain⟨v,z⟩:=I.cell x c e
   exact⟨v,cellK x c e v z⟩
 · obtain⟨m,⟨o,_,_,ho,_⟩,_⟩:=I.loc
   exact free _ o (fun z=>(hch _ z).2.1 rfl) ho I.free
 · obtain⟨v,o,ho,hd⟩:=I.cell x c e
   exact free c o (fun z=>(hch c z).2.2.1 x c e rfl) ho (I.freeC x c e)
 · obtain⟨e,n,ne,nf,d⟩:=I.pin p hp
   have nch:p.1∉ch:=fun z=>(hch p.1 z).2.2.2 p hp rfl
   exact⟨keep p.1 p.2 ne nf nch e n,free p.1 p.2 nch e n,ne,nf,d⟩
theorem Inv.un {t':Nat}(I:Inv X pins σ H s)(u:Un X.fs [] H H' s.heap h')(hok:HOk X.prog X.w H' h'):Inv X pins σ H' { s with heap:=h',toks:=t' }:=by
 obtain⟨m,⟨o,es,ep,ho,r⟩,_⟩:=id I.loc
 obtain⟨sl,hL⟩:=u.any ho I.free (by simp)
 exact I.step (g':=s.gens) (d':=s.drawn) (ch:=[]) (fun _ z=>nomatch z) (fun b o _ hb _ e n=>u.keep b o e n hb (by simp)) (fun b o _ hb _ e n=>u.slot b o e n hb (by simp)) (fun b o _ e n=>u.free b o e n (by simp)) (fun b o _ e=>u.there b o e (by simp)) u.tups u.frzs u.tbls (fun m' hm=>by
   obtain⟨o',es',ep',ho',r'⟩:=hm
   rw[ho] at ho';cases ho'
   exact⟨_,es',ep',hL,r'⟩) hok I.bare
theorem Inv.call {g':Array GenState}{t':Nat}{d':Drawn}{ch:List Addr}(I:Inv X pins σ H s)(u:Un (frs X.stack) ch H H' s.heap h')(hok:HOk X.prog X.w H' h')(hg:AllBare g')
   (hch:∀ b∈ch,(b∈X.ex∨X.s₀.heap.objs.size≤b)∧b≠X.env.locals∧(∀ x c,X.env.cells.lookup x=some c→c≠b)∧∀ p∈X.pn++pins,p.1≠b) :
   Inv X pins σ H' { s with heap:=h',gens:=g',drawn:=d',toks:=t' }:=by
 obtain⟨m,⟨o,es,ep,ho,r⟩,_⟩:=id I.loc
 obtain⟨sl,hL⟩:=u.any ho I.free fun z=>(hch _ z).2.1 rfl
 exact I.step (ch:=ch) hch (fun b o hL hb hc e n=>u.keep b o e n (fun z=>(List.mem_cons.mp (I.stkSub b z)).elim hL hb) hc) (fun b o _ _ hc e n=>u.any e n hc) (fun b o hc e n=>u.free b o e n hc) (fun b o hc e=>u.there b o e hc) u.tups u.frzs u.tbls (fun m' hm=>by
   obtain⟨o',es',ep',ho',r'⟩:=hm
   rw[ho] at ho';cases ho'
   exact⟨_,es',ep',hL,r'⟩) hok hg
theorem Inv.turned {t':Nat}{it:Addr}(I:Inv X pins σ H s)(k:∀ b o,b≠it→s.heap.get? b=some o→h'.get? b=some o)(hn:H it=none)(hL:it≠X.env.locals)
   (h1:it∈X.ex∨X.s₀.heap.objs.size≤it)(h2:∀ x c,X.env.cells.lookup x=some c→c≠it)(h3:∀ p∈X.pn++pins,p.1≠it):Inv X pins σ H { s with heap:=h',toks:=t' }:=by
 have nit:∀ b u,H b=some u→b≠it:=fun b u e z=>by rw[z,hn] at e;cases e
 refine I.step (g':=s.gens) (d':=s.drawn) (ch:=[it]) (fun b hb=>?_) (fun b o _ _ hc e _=>k b o (fun z=>hc (by simp[z])) e) (fun b o _ _ hc e _=>⟨o.slots,k b o (fun z=>hc (by simp[z])) e⟩) (fun _ _ _ _ n=>n)
   (fun b o hc e=>⟨o,k b o (fun z=>hc (by simp[z])) e⟩) (fun _ _ e=>e) (fun _ _ _ e=>e) (fun b ps e=>⟨#[],by rw[e];simp⟩) (fun m hm=>?_) (fun b u e=>?_) I.bare
 · have e:b=it:=by simpa using hb
   subst e
   exact⟨h1,hL,h2,h3⟩
 · obtain⟨o,es,ep,ho,r⟩:=hm
   exact⟨o,es,ep,k _ o (Ne.symm hL) ho,r⟩
 · refine(I.hok b u e).stay (fun c v hc q=>k c v ?_ q) (fun _ q=>q) fun _ _ q=>q
   rcases hc with z | z
   · rw[z];exact nit b u e
   · exact nit c _ z
theorem Inv.tok (I:Inv X pins σ H s) (t:Nat):Inv X pins σ H { s with toks:=t }:=I.un (h':=s.heap) (t':=t) Un.refl I.hok
theorem Inv.kept {t':Nat}(I:Inv X pins σ H s)(k:∀ b u,s.heap.get? b=some u→h'.get? b=some u):Inv X pins σ H { s with heap:=h',toks:=t' }:=I.un (Un.kept k) (I.hok.kept k)
theorem Inv.laid {a:Addr}{o:HO}{t':Nat}(I:Inv X pins σ H s)(k:∀ b u,s.heap.get? b=some u→h'.get? b=some u)(hp:s.heap.objs.size≤a)(new:cg X.prog X.w (upd H a o) h' a o) :
 Inv X pins σ (upd H a o) { s with heap:=h',toks:=t' }:=I.un (Un.laid k hp (I.hok.fresh hp)) (I.hok.laid k hp new)
theorem Inv.write {x e:Addr}{o:HO}{t':Nat}(I:Inv X pins σ H s)(mu:Mut (H x))(he:e=x∨H e=some (.own x))(k:∀ b u,b≠e→s.heap.get? b=some u→h'.get? b=some u)(heo:∃ u,h'.get? e=some u)
 (new:cg X.prog X.w (upd H x o) h' x o):Inv X pins σ (upd H x o) { s with heap:=h',toks:=t' }:=I.un (Un.write mu he k heo) (I.hok.write mu he k heo new)
theorem Inv.pins_of {pins':List (Addr×Obj)}(I:Inv X pins σ H s)(h:∀ p∈pins',s.heap.get? p.1=some p.2∧H p.1=none∧p.1≠X.env.locals∧p.1∉X.fs∧∀ v,p.2.data≠.cell v):Inv X pins' σ H s :=
 ⟨I.ok,I.os,I.bare,I.base,I.loc,I.cell,I.free,I.freeC,fun p hp=>(List.mem_append.mp hp).elim (fun z=>I.pin p (List.mem_append_left _ z)) (h p),I.hok,I.len⟩

theorem nJ {N:List Str}(hN:N.Nodup){i j:Nat}{x:Str}(a:N[i]?=some x)(b:N[j]?=some x):i=j:=by
 obtain⟨h1,e1⟩:=List.getElem?_eq_some_iff.mp a
 obtain⟨h2,e2⟩:=List.getElem?_eq_some_iff.mp b
 exact(List.getElem_inj hN).mp (e1.trans e2.symm)

theorem lm {M:Model}{A:Around}{E:Value→Shared→Prop}{i:Nat}{x:Str}{v:V}{u:Value}{Q:Unit→Shared→Prop}(I:Inv X pins σ H s)(hN:X.N.Nodup)(hi:X.N[i]?=some x)(hx:Loc X.env.scope x)(r:bF v u)
   (h:∀ s',Inv X pins (σ.set i (some v)) H s'→(∃ a,Heap.SameBut a s.heap s'.heap∧(a=X.env.locals∨X.env.cells.lookup x=some a))→Q () s')(hf:X.fn x=true∨X.env.scope.names.lookup x=some .local:=by first | exact .inl rfl | exact .inr rfl | assumption):wpAny M A (storeName X.env x u) Q E s:=by
 obtain⟨m,hn,hl⟩:=id I.loc
 have hcls:(X.env.scope.kind==.class||(X.env.scope.kind==.module&&X.env.locals != X.env.globals))=false:=by rw[I.ok.kind];rfl
 have hiσ:i < σ.length:=by rw[I.len];exact(List.getElem?_eq_some_iff.mp hi).1
 have cne:=I.cne
 have tracked:∀ {a:Addr}{h':Heap},(∃ o,s.heap.get? a=some o∧H a=none)→Heap.SameBut a s.heap h'→HOk X.prog X.w H h':=fun {a h'} ha hs b ob e=>by
   obtain⟨_,_,hfree⟩:=ha
   refine(I.hok b ob e).stay (fun c w' hc q=>(hs.2 c ?_).trans q) (fun _ q=>q) fun _ _ q=>q
   rintro rfl
   rcases hc with rfl | hc
   · rw[hfree] at e;cases e
   · rw[hfree] at hc;cases hc
 rcases hx with hk | hk
 · refine wpAny_storeName_local hk hn (fun h' hn' hs=>?_) hcls
   obtain⟨oL,_,_,hoL,_⟩:=id hn
   refine h _ ⟨I.ok,I.os,I.bare,⟨fun b o e n hb hx=>?_,fun b o e n hb hx=>?_,I.base.free,fun b o e hx=>?_,I.base.tups,I.base.frzs,I.base.tbls⟩,⟨_,hn',fun j y v' e1 e2 e3=>?_⟩,fun y c e=>?_,I.free,I.freeC,fun p hp=>?_,tracked ⟨oL,hoL,I.free⟩ hs,by simpa using I.len⟩ ⟨_,hs,.inl rfl⟩
   · exact(hs.2 b (Nat.ne_of_lt (Nat.lt_of_lt_of_le (Heap.lt_size e) I.ok.above))).trans (I.base.keep b o e n hb hx)
   · obtain⟨sl,e1⟩:=I.base.slot b o e n hb hx
     exact⟨sl,(hs.2 b (Nat.ne_of_lt (Nat.lt_of_lt_of_le (Heap.lt_size e) I.ok.above))).trans e1⟩
   · obtain⟨o',e1⟩:=I.base.there b o e hx
     exact⟨o',(hs.2 b (Nat.ne_of_lt (Nat.lt_of_lt_of_le (Heap.lt_size e) I.ok.above))).trans e1⟩
   · by_cases hj:j=i
     · subst hj
       rw[hi] at e1;cases e1
       rw[List.getElem?_set_self hiσ] at e2
       cases e2
       exact⟨u,r,.inl ⟨hk,by simp⟩⟩
     · rw[List.getElem?_set_ne (Ne.symm hj)] at e2
       obtain⟨u',r',q⟩:=hl j y v' e1 e2 e3
       refine⟨u',r',?_⟩
       rcases q with ⟨k,e⟩ | ⟨k,c,e,z⟩
       · refine .inl ⟨k,?_⟩
         have:y≠x:=fun e=>hj (nJ hN e1 (e▸hi))
         simp[this,e]
       · exact .inr ⟨k,c,e,z.sameBut hs (cne y c e)⟩
   · obtain⟨w',z⟩:=I.cell y c e
     exact⟨w',z.sameBut hs (cne y c e)⟩
   · obtain⟨e,n,ne,nf,d⟩:=I.pin p hp
     exact⟨(hs.2 p.1 ne).trans e,n,ne,nf,d⟩
 · have hfn:X.fn x=true:=by
     rcases hf with z | z
     · exact z
     · rw[z] at hk;cases hk
   obtain⟨c,hc⟩:=I.ok.has x (.inl hk)
   obtain⟨w',z⟩:=I.cell x c hc
   refine wpAny_storeName_cell I.ok.kind hk hc z (fun h' hc' hs=>?_)
   obtain⟨oc,hoc,hocd⟩:=id z
   refine h { s with heap:=h' } ⟨I.ok,I.os,I.bare,⟨fun b o e n hb hx=>?_,fun b o e n hb hx=>?_,I.base.free,fun b o e hx=>?_,I.base.tups,I.base.frzs,I.base.tbls⟩,⟨m,hn.sameBut hs (Ne.symm (cne x c hc)),fun j y v' e1 e2 e3=>?_⟩,fun y c' e=>?_,I.free,I.freeC,fun p hp=>?_,tracked ⟨oc,hoc,I.freeC x c hc⟩ hs,by simpa using I.len⟩ ⟨c,hs,.inr hc⟩
   · exact(hs.2 b (Nat.ne_of_lt (Nat.lt_of_lt_of_le (Heap.lt_size e) (I.ok.cab x c hfn hc)))).trans (I.base.keep b o e n hb hx)
   · obtain⟨sl,e1⟩:=I.base.slot b o e n hb hx
     exact⟨sl,(hs.2 b (Nat.ne_of_lt (Nat.lt_of_lt_of_le (Heap.lt_size e) (I.ok.cab x c hfn hc)))).trans e1⟩
   · obtain⟨o',e1⟩:=I.base.there b o e hx
     exact⟨o',(hs.2 b (Nat.ne_of_lt (Nat.lt_of_lt_of_le (Heap.lt_size e) (I.ok.cab x c hfn hc)))).trans e1⟩
   · by_cases hj:j=i
     · subst hj
       rw[hi] at e1;cases e1
       rw[List.getElem?_set_self hiσ] at e2
       cases e2
       exact⟨u,r,.inr ⟨.inl hk,c,hc,hc'⟩⟩
     · rw[List.getElem?_set_ne (Ne.symm hj)] at e2
       obtain⟨u',r',q⟩:=hl j y v' e1 e2 e3
       refine⟨u',r',?_⟩
       rcases q with q | ⟨k,c',e,z'⟩
       · exact .inl q
       · refine .inr ⟨k,c',e,z'.sameBut hs ?_⟩
         rintro rfl
         exact hj (nJ hN e1 (I.ok.inj _ _ _ e hc▸hi))
   · by_cases hcc:c'=c
     · subst hcc;exact⟨_,hc'⟩
     · obtain⟨w2,z2⟩:=I.cell y c' e
       exact⟨w2,z2.sameBut hs hcc⟩
   · obtain⟨e,n,ne,nf,d⟩:=I.pin p hp
     refine⟨(hs.2 p.1 ?_).trans e,n,ne,nf,d⟩
     intro q
     rw[q,hoc] at e
     have q':oc=p.2:=Option.some.inj e
     exact d w' (by rw[←q'];exact hocd)
theorem nD {M:Model}{A:Around}{E:Value→Shared→Prop}{i:Nat}{x:Str}{v:V}{u:Value}{Q:Unit→Shared→Prop}(I:Inv X pins σ H s)(hN:X.N.Nodup)(hi:X.N[i]?=some x)(hx:Loc X.env.scope x)(r:bF v u)
   (h:∀ s',Inv X pins (σ.set i (some v)) H s'→Q () s')(hf:X.fn x=true∨X.env.scope.names.lookup x=some .local:=by first | exact .inl rfl | exact .inr rfl | assumption):wpAny M A (storeName X.env x u) Q E s :=
 lm I hN hi hx r (fun s' I' _=>h s' I') hf
theorem Inv.call' {s':Shared}{ch:List Addr}(I:Inv X pins σ H s)(ho:s'.os=s.os)(u:Un (frs X.stack) ch H H' s.heap s'.heap)(hok:HOk X.prog X.w H' s'.heap)(hg:AllBare s'.gens)
   (hch:∀ b∈ch,(b∈X.ex∨X.s₀.heap.objs.size≤b)∧b≠X.env.locals∧(∀ x c,X.env.cells.lookup x=some c→c≠b)∧∀ p∈X.pn++pins,p.1≠b):Inv X pins σ H' s':=by
 obtain⟨h',g',d',t',o'⟩:=s'
 have e:o'=s.os:=ho
 subst e
 exact I.call (g':=g') (t':=t') (d':=d') u hok hg hch
end

/-! ### the judgements -/
abbrev XK:=Value→Option Addr→Hp→Prop
abbrev St:=List (Option V)
abbrev VK:=V→Hp→Prop
abbrev TE:=St→Hp→VK→Prop
abbrev TT:=St→Hp→(Bool→Hp→Prop)→Prop
abbrev TA:=St→Hp→(List V→Hp→Prop)→Prop
structure jy where
 nx:St→Hp→Prop
 rt:VK
 bk:St→Hp→Prop:=fun _ _=>False
 ct:St→Hp→Prop:=fun _ _=>False
abbrev TS:=jy→St→Hp→Prop

def EP (X:Cx)(pins:List (Addr×Obj)) (σ:St)(Q:VK) (u:Value)(s':Shared):Prop:=∃ v H',Inv X pins σ H' s'∧bF v u∧Q v H'
def TP (X:Cx)(pins:List (Addr×Obj)) (σ:St)(Q:Bool→Hp→Prop)(b:Bool)(s':Shared):Prop:=∃ H',Inv X pins σ H' s'∧Q b H'
def AP (X:Cx)(pins:List (Addr×Obj)) (σ:St)(Q:List V→Hp→Prop)(us:List Value)(s':Shared):Prop:=∃ vs H',Inv X pins σ H' s'∧Vals vs us∧Q vs H'
def SP (X:Cx)(pins:List (Addr×Obj))(D:jy)(f:Flow)(s':Shared):Prop :=
 match f with
 | .next=>∃ σ' H',Inv X pins σ' H' s'∧D.nx σ' H'
 | .brk=>∃ σ' H',Inv X pins σ' H' s'∧D.bk σ' H'
 | .cont=>∃ σ' H',Inv X pins σ' H' s'∧D.ct σ' H'
 | .ret u=>∃ v σ' H',Inv X pins σ' H' s'∧bF v u∧D.rt v H'

def PE (X:Cx)(e:Expr)(t:TE):Prop :=
 ∀ ⦃pins:List (Addr×Obj)⦄ (s:Shared) (σ:St)(H:Hp)(Q:VK),Inv X pins σ H s→t σ H Q→wpAny (model X.prog X.w) X.A (eval e X.env) (EP X pins σ Q) X.xe s
def PT (X:Cx)(e:Expr)(t:TT):Prop :=
 ∀ ⦃pins:List (Addr×Obj)⦄ (s:Shared) (σ:St)(H:Hp)(Q:Bool→Hp→Prop),Inv X pins σ H s→t σ H Q→wpAny (model X.prog X.w) X.A (isTrue e X.env (eval e X.env)) (TP X pins σ Q) X.xe s
def PW (X:Cx)(e:Expr)(t:TT):Prop :=
 ∀ (whole:Sem Value)(pins:List (Addr×Obj))(s:Shared) (σ:St)(H:Hp)(Q:Bool→Hp→Prop),Inv X pins σ H s→t σ H Q→wpAny (model X.prog X.w) X.A (isTrue e X.env whole) (TP X pins σ Q) X.xe s
theorem PW.pt {X:Cx}{e:Expr}{t:TT}(h:PW X e t):PT X e t:=h _
def PA (X:Cx)(es:List Expr)(t:TA):Prop :=
 ∀ ⦃pins:List (Addr×Obj)⦄ (pos:Pos)(s:Shared) (σ:St)(H:Hp)(Q:List V→Hp→Prop),Inv X pins σ H s→t σ H Q→wpAny (model X.prog X.w) X.A (spliced (backTo pos (starEach es X.env))) (AP X pins σ Q) X.xe s
def PS (X:Cx)(st:Stmt)(t:TS):Prop :=
 ∀ ⦃pins:List (Addr×Obj)⦄ (s:Shared) (σ:St)(H:Hp)(D:jy),Inv X pins σ H s→t D σ H→wpAny (model X.prog X.w) X.A (exec st X.env) (SP X pins D) X.xe s
def PSs (X:Cx)(st:List Stmt)(t:TS):Prop :=
 ∀ ⦃pins:List (Addr×Obj)⦄ (s:Shared) (σ:St)(H:Hp)(D:jy),Inv X pins σ H s→t D σ H→wpAny (model X.prog X.w) X.A (execs st X.env) (SP X pins D) X.xe s
theorem thn {α:Type}{t:Sem α}{Q Q':α→Shared→Prop}{M:Model}{A:Around}{E:Value→Shared→Prop}{s:Shared}(h:wpAny M A t Q E s)(hQ:∀ a s,Q a s→Q' a s):wpAny M A t Q' E s:=wpAny_mono h hQ fun _ _ x=>x
end L2

namespace L2
open PySem PySem.Spec PyProof.Rows
section
variable {X:Cx}

theorem bin {a b:Expr}{ta tb:TE}(ha:PE X a ta)(hb:PE X b tb){pins:List (Addr×Obj)}{s:Shared}{σ:St}{H:Hp}{R:V→V→Hp→Prop}(I:Inv X pins σ H s)(h:ta σ H fun x H1=>tb σ H1 fun y H2=>R x y H2)
   {α:Type}{Q:α→Shared→Prop}{f:Value→Value→Sem α}
   (hf:∀ v u s2 x y H2,Inv X pins σ H2 s2→bF x v→bF y u→R x y H2→wpAny (model X.prog X.w) X.A (f v u) Q X.xe s2) :
   wpAny (model X.prog X.w) X.A (eval a X.env) (fun v s₁=>wpAny (model X.prog X.w) X.A (eval b X.env) (fun u s₂=>wpAny (model X.prog X.w) X.A (f v u) Q X.xe s₂) X.xe s₁) X.xe s:=by
 refine thn (ha s σ H _ I h) fun v s1 ⟨x,H1,I1,r1,q1⟩=>?_
 refine thn (hb s1 σ H1 _ I1 q1) fun u s2 ⟨y,H2,I2,r2,q2⟩=>?_
 exact hf v u s2 x y H2 I2 r1 r2 q2

/-! ### names and constants -/
def rn (i:Nat):TE:=fun σ H Q=>∃ v,σ[i]?=some (some v)∧Q v H
def tC (v:V):TE:=fun _ H Q=>Q v H
theorem v6 {i:Nat}{x:Str}{pos:Pos}(hN:X.N[i]?=some x)(hv:Vis X.env.scope x)(hd:(x==("__debug__":Str))=false:=by decide)(hcd:(x==("__classdict__":Str))=false:=by decide):PE X (.Name x pos) (rn i):=by
 intro pins s σ H Q I h
 obtain⟨v,e,h⟩:=h
 obtain⟨m,hn,hl⟩:=I.loc
 obtain⟨u,r,l⟩:=hl i x v hN e hv
 have fin:EP X pins σ Q u s:=⟨v,H,I,r,h⟩
 rcases l with ⟨hk,hm⟩ | ⟨hk,c,hc,hcell⟩
 · exact wpAny_Name (wpAny_loadName_local I.ok.kind hk hn hm fin) hd
 · rcases hk with hk | hk
   · exact wpAny_Name (wpAny_loadName_cell I.ok.kind hk hc hcell fin) hd
   · exact wpAny_Name (wpAny_loadName_free I.ok.kind hk hc hcell fin hcd) hd
theorem aj {i j pos}:PE X (.Constant (.int i) j pos) (tC (.int i)):=fun _ _ _ H _ I h=>wpAny_Constant_int ⟨.int i,H,I.tok _,⟨_,rfl⟩,h⟩
theorem cv {b j pos}:PE X (.Constant (.bool b) j pos) (tC (.bl b)):=fun _ _ _ H _ I h=>Constant_bool ⟨.bl b,H,I,rfl,h⟩
theorem rz {j pos}:PE X (.Constant .none j pos) (tC .non):=fun _ _ _ H _ I h=>Constant_none ⟨.non,H,I,rfl,h⟩
theorem bQ {x j pos}:PE X (.Constant (.str x) j pos) (tC (.str x)):=fun _ _ _ H _ I h=>Calls.Constant_str ⟨.str x,H,I.tok _,⟨_,rfl⟩,h⟩

def Gl (X:Cx) (x:Str):Prop:=X.env.kindOf x=some .globalImplicit
theorem jk {E:Value→Shared→Prop}{pins:List (Addr×Obj)}{s:Shared}{σ:St}{H:Hp}{x:Str}{u:Value}{pos:Pos}{Q:Value→Shared→Prop}(I:Inv X pins σ H s)(hg:Gl X x)(hm:X.mg x=some u)(h:Q u s)
   (hd:(x==("__debug__":Str))=false:=by decide):wpAny (model X.prog X.w) X.A (eval (.Name x pos) X.env) Q E s :=
 Calls.Name_function_global I.ok.kind hg (Calls.loadGlobal_global (by rw[I.ok.glob];exact I.mod.glob.keeps I.bk) hm h) hd
theorem g5 {E:Value→Shared→Prop}{pins:List (Addr×Obj)}{s:Shared}{σ:St}{H:Hp}{x:Str}{u:Value}{pos:Pos}{Q:Value→Shared→Prop}(I:Inv X pins σ H s)(hg:Gl X x)(hm:X.mg x=none)(hv:bootBuiltins x=some u)(h:Q u s)
   (hn:x≠"__name__":=by decide)(hd:(x==("__debug__":Str))=false:=by decide):wpAny (model X.prog X.w) X.A (eval (.Name x pos) X.env) Q E s:=by
 obtain⟨mb,h1,h2⟩:=I.mod.blt
 exact Calls.Name_function_global I.ok.kind hg (Calls.loadGlobal_builtin (by rw[I.ok.glob];exact I.mod.glob.keeps I.bk) hm (by rw[I.ok.blt];exact h1.keeps I.bk) ((h2 x hn).trans hv) h) hd
theorem df {x:Str}{v:V}{u:Value}{pos:Pos}(hg:Gl X x)(hm:X.mg x=some u)(r:bF v u)(hd:(x==("__debug__":Str))=false:=by decide):PE X (.Name x pos) (tC v) :=
 fun _ _ _ H _ I h=>jk I hg hm ⟨v,H,I,r,h⟩ hd
theorem dv {x:Str}{v:V}{u:Value}{pos:Pos}(hg:Gl X x)(hm:X.mg x=none)(hv:bootBuiltins x=some u)(r:bF v u)(hn:x≠"__name__":=by decide)(hd:(x==("__debug__":Str))=false:=by decide):PE X (.Name x pos) (tC v) :=
 fun _ _ _ H _ I h=>g5 I hg hm hv ⟨v,H,I,r,h⟩ hn hd

/-! ### arithmetic -/
variable {a b:Expr}{ta tb:TE}{pos:Pos}
/-! ### comparisons -/
def PC (X:Cx)(op:CmpOp)(a b:Expr)(t:TE):Prop :=
 ∀ (pins:List (Addr×Obj))(s:Shared) (σ:St)(H:Hp)(Q:VK),Inv X pins σ H s→t σ H Q →
   wpAny (model X.prog X.w) X.A (eval a X.env) (fun v s₁=>wpAny (model X.prog X.w) X.A (eval b X.env) (fun u s₂=>wpAny (model X.prog X.w) X.A (compareOp op v u) (EP X pins σ Q) X.xe s₂) X.xe s₁) X.xe s
def tB (t:TE):TT:=fun σ H Q=>t σ H fun x H1=>∃ c,x=.bl c∧Q c H1
theorem vE {op:CmpOp}{t:TE}(h:PC X op a b t)(h1:behindInMarks op b=false:=by first | exact nobehind _ (by decide) (by decide) | rfl):PE X (.Compare a [op] [b] pos) t:=fun pins s σ H Q I hw=>wpAny_Compare1 (h pins s σ H Q I hw) h1
theorem dL {op:CmpOp}{t:TE}(h:PC X op a b t)(h1:behindInMarks op b=false:=by first | exact nobehind _ (by decide) (by decide) | rfl):PT X (.Compare a [op] [b] pos) (tB t):=by
 intro pins s σ H Q I hw
 refine wpAny_isTrue_Compare1 (thn (h pins s σ H _ I hw) fun v s1 h1=>thn h1 fun u s2 h2=>thn h2 fun c s3 ⟨x,H1,I1,r1,q1⟩=>?_) h1
 obtain⟨d,rfl,q⟩:=q1
 cases r1
 exact wpAny_truthy_bool ⟨H1,I1,q⟩
theorem cE {e:Expr}{t:TE}(h:PE X e t)(he:∀ whole,isTrue e X.env whole=(do let v ←whole;standAt e.pos;holding [v] (truthy v)):=by intro _;rfl):PT X e (tB t):=by
 intro pins s σ H Q I hw
 refine isTrue_plain (thn (h s σ H _ I hw) fun v s1 ⟨x,H1,I1,r1,q1⟩=>?_) (he _)
 obtain⟨d,rfl,q⟩:=q1
 cases r1
 exact wpAny_truthy_bool ⟨H1,I1,q⟩

/-! ### and,or,not -/
variable {tA tB':TT}{cY:List Expr}
def wB (t u:TT):TT:=fun σ H Q=>t σ H fun c H1=>if c=true then u σ H1 Q else Q false H1
def tOr (t u:TT):TT:=fun σ H Q=>t σ H fun c H1=>if c=true then Q true H1 else u σ H1 Q
def wS (t:TT):TT:=fun σ H Q=>t σ H fun c H1=>Q (!c) H1
theorem lP (ha:PT X a tA):PW X (.BoolOp .And [a] pos) tA:=by
 intro wh pins s σ H Q I h
 refine isTrue_and (thn (ha s σ H Q I h) fun c s1 e=>?_)
 cases c with
 | true=>exact isTrue_and_nil e
 | false=>exact e
theorem dB (ha:PT X a tA):PW X (.BoolOp .Or [a] pos) tA:=by
 intro wh pins s σ H Q I h
 refine isTrue_or (thn (ha s σ H Q I h) fun c s1 e=>?_)
 cases c with
 | false=>exact isTrue_or_nil e
 | true=>exact e
theorem oM (ha:PT X a tA)(hb:PW X (.BoolOp .And (b::cY) pos) tB'):PW X (.BoolOp .And (a::b::cY) pos) (wB tA tB'):=by
 intro wh pins s σ H Q I h
 refine isTrue_and (thn (ha s σ H _ I h) fun c s1 ⟨H1,I1,q1⟩=>?_)
 cases c with
 | true=>exact hb wh pins s1 σ H1 Q I1 q1
 | false=>exact⟨H1,I1,q1⟩
theorem dC (ha:PT X a tA)(hb:PW X (.BoolOp .Or (b::cY) pos) tB'):PW X (.BoolOp .Or (a::b::cY) pos) (tOr tA tB'):=by
 intro wh pins s σ H Q I h
 refine isTrue_or (thn (ha s σ H _ I h) fun c s1 ⟨H1,I1,q1⟩=>?_)
 cases c with
 | true=>exact⟨H1,I1,q1⟩
 | false=>exact hb wh pins s1 σ H1 Q I1 q1
theorem cM (ha:PT X a tA):PT X (.UnaryOp .Not a pos) (wS tA):=by
 intro pins s σ H Q I h
 exact isTrue_not (ha s σ H (fun c H1=>Q (!c) H1) I h)
def uY (ta tb:TE):TE:=fun σ H Q=>ta σ H fun x H1=>∃ c,x=.bl c∧if c=true then tb σ H1 Q else Q (.bl false) H1
def xc (ta tb:TE):TE:=fun σ H Q=>ta σ H fun x H1=>∃ c,x=.bl c∧if c=true then Q (.bl true) H1 else tb σ H1 Q
def wI (ta:TE):TE:=fun σ H Q=>ta σ H fun x H1=>∃ c,x=.bl c∧Q (.bl (!c)) H1
theorem lV {op}{t:TE}(h:PE X a t):PE X (.BoolOp op [a] pos) t:=fun pins s σ H Q I hw=>BoolOp_one (h s σ H Q I hw)
theorem lW (ha:PE X a ta)(hb:PE X (.BoolOp .And (b::cY) pos) tb):PE X (.BoolOp .And (a::b::cY) pos) (uY ta tb):=by
 intro pins s σ H Q I h
 refine BoolOp_and (thn (ha s σ H _ I h) fun v s1 ⟨x,H1,I1,r1,q1⟩=>?_)
 obtain⟨c,rfl,q1⟩:=q1
 cases r1
 refine wpAny_truthy_bool ?_
 cases c with
 | true=>exact hb s1 σ H1 Q I1 q1
 | false=>exact⟨.bl false,H1,I1,rfl,q1⟩
def tIf (t:TT)(ta tb:TE):TE:=fun σ H Q=>t σ H fun c H1=>if c=true then ta σ H1 Q else tb σ H1 Q
theorem tJ {c:Expr}(hc:PT X c tA)(ha:PE X a ta)(hb:PE X b tb):PE X (.IfExp c a b pos) (tIf tA ta tb):=by
 intro pins s σ H Q I h
 refine wpAny_IfExp (thn (hc s σ H _ I h) fun d s1 ⟨H1,I1,q1⟩=>?_)
 cases d with
 | true=>exact ha s1 σ H1 Q I1 q1
 | false=>exact hb s1 σ H1 Q I1 q1
end
end L2

namespace L2
open PySem PySem.Spec PyProof.Rows

/-! ### a list,a tuple that is read: tracked,frozen,or an object of the module -/
def SqL (K:PySem.W.Frag)(H:Hp)(a:Addr)(xs:List V):Prop :=
 Rd H a (.lst xs) ∨
   ∃ (o:Obj)(its:Array Value) (n:Nat),K.lookup a=some o∧o.cls=.type "list"∧o.dict=none∧o.data=.seq its n∧its.size≤sizeLine∧Vals xs its.toList
def SqT (K:PySem.W.Frag)(H:Hp)(a:Addr)(xs:List V):Prop :=
 Rd H a (.tup xs) ∨
   ∃ (o:Obj)(its:Array Value) (n:Nat),K.lookup a=some o∧o.cls=.type "tuple"∧o.data=.seq its n∧its.size≤sizeLine∧Vals xs its.toList
def xa:Value→Option V
 | .none=>some .non
 | .bool b=>some (.bl b)
 | .int i _=>some (.int i)
 | .str x _=>some (.str x)
 | .bytes b _=>some (.byt b)
 | .float b _=>some (.flt b)
 | .ref a=>some (.ref a)
 | .type n=>some (.ty n)
 | _=>none
theorem bF.abs {x:V}{u:Value}(r:bF x u):xa u=some x:=by
 cases x with
 | non=>cases r;rfl
 | bl _=>cases r;rfl
 | int _=>obtain⟨t,rfl⟩:=r;rfl
 | str _=>obtain⟨t,rfl⟩:=r;rfl
 | byt _=>obtain⟨t,rfl⟩:=r;rfl
 | flt _=>obtain⟨t,rfl⟩:=r;rfl
 | ref _=>cases r;rfl
 | ty _=>cases r;rfl
theorem bF.inj {x y:V}{u:Value}(r:bF x u)(q:bF y u):x=y:=Option.some.inj (r.abs.symm.trans q.abs)
theorem Vals.inj:∀ {xs ys:List V}{us:List Value},Vals xs us→Vals ys us→xs=ys
 | _,_,_,.nil,.nil=>rfl
 | _,_,_,.cons r t,.cons r' t'=>by rw[r.inj r',Vals.inj t t']
section
variable {X:Cx}{pins:List (Addr×Obj)}{σ:St}{H:Hp}{s:Shared}{a:Addr}{xs ys:List V}
theorem SqL.of {K:PySem.W.Frag}(h:H a=some (.lst xs)):SqL K H a xs:=.inl (.inl h)
theorem SqT.of {K:PySem.W.Frag}(h:H a=some (.tup xs)):SqT K H a xs:=.inl (.inl h)
theorem Inv.list (I:Inv X pins σ H s)(h:SqL X.K H a xs):∃ its:List Value,Vals xs its∧PlainL s.heap a its.toArray∧xs.length≤sizeLine:=by
 rcases h with h | ⟨o,its,n,hk,hc,hd,hs,hz,r⟩
 · obtain⟨z,its,n,r,e⟩:=h.ok I.hok
   exact⟨its,r,⟨_,n,e,rfl,rfl,rfl⟩,z⟩
 · refine⟨its.toList,r,⟨o,n,I.kIn a o hk,hc,hd,by simpa using hs⟩,?_⟩
   have e:=r.length
   simp only[Array.length_toList] at e
   omega
theorem Inv.tuple (I:Inv X pins σ H s)(h:SqT X.K H a xs):∃ its:List Value,Vals xs its∧IsTup s.heap a its.toArray∧xs.length≤sizeLine:=by
 rcases h with h | ⟨o,its,n,hk,hc,hs,hz,r⟩
 · obtain⟨z,its,r,p⟩:=h.ok I.hok
   exact⟨its,r,p,z⟩
 · refine⟨its.toList,r,⟨o,I.kIn a o hk,hc,n,by simpa using hs⟩,?_⟩
   have e:=r.length
   simp only[Array.length_toList] at e
   omega
theorem Inv.list_inj (I:Inv X pins σ H s)(h:SqL X.K H a xs)(h':SqL X.K H a ys):xs=ys:=by
 obtain⟨its,r,⟨o,n,e,_,_,d⟩,_⟩:=I.list h
 obtain⟨its',r',⟨o',n',e',_,_,d'⟩,_⟩:=I.list h'
 rw[e] at e';cases e'
 rw[d] at d'
 injection d' with d1 _
 have:its=its':=by simpa using congrArg Array.toList d1
 subst this
 exact r.inj r'
theorem Inv.tuple_inj (I:Inv X pins σ H s)(h:SqT X.K H a xs)(h':SqT X.K H a ys):xs=ys:=by
 obtain⟨its,r,⟨o,e,_,n,d⟩,_⟩:=I.tuple h
 obtain⟨its',r',⟨o',e',_,n',d'⟩,_⟩:=I.tuple h'
 rw[e] at e';cases e'
 rw[d] at d'
 injection d' with d1 _
 have:its=its':=by simpa using congrArg Array.toList d1
 subst this
 exact r.inj r'
end

/-! ### another wish about exceptions -/
abbrev Cx.wish (X:Cx)(E:Value→Shared→Prop):Cx:={ X with xe:=E }
abbrev Cx.nox (X:Cx):Cx:=X.wish fun _ _=>False
theorem Cx.Ok.wish {X:Cx}(ok:X.Ok)(E:Value→Shared→Prop):(X.wish E).Ok :=
 ⟨ok.mod,ok.kind,ok.glob,ok.blt,ok.above,ok.inj,ok.has,ok.cab,ok.hd,ok.frames,ok.stk,ok.exf,ok.bs,ok.bsz,ok.noex,ok.exfs,ok.funs,ok.frf⟩
theorem Cx.Ok.unwish {X:Cx}{E:Value→Shared→Prop}(ok:(X.wish E).Ok):X.Ok :=
 ⟨ok.mod,ok.kind,ok.glob,ok.blt,ok.above,ok.inj,ok.has,ok.cab,ok.hd,ok.frames,ok.stk,ok.exf,ok.bs,ok.bsz,ok.noex,ok.exfs,ok.funs,ok.frf⟩
section
variable {X:Cx}{pins:List (Addr×Obj)}{σ:St}{H:Hp}{s:Shared}{E:Value→Shared→Prop}
theorem Inv.wish (I:Inv X pins σ H s)(E:Value→Shared→Prop):Inv (X.wish E) pins σ H s:=⟨I.ok.wish E,I.os,I.bare,I.base,I.loc,I.cell,I.free,I.freeC,I.pin,I.hok,I.len⟩
theorem Inv.unwish (I:Inv (X.wish E) pins σ H s):Inv X pins σ H s:=⟨I.ok.unwish,I.os,I.bare,I.base,I.loc,I.cell,I.free,I.freeC,I.pin,I.hok,I.len⟩
theorem SP.unwish {D:jy}{f:Flow}{s':Shared}(h:SP (X.wish E) pins D f s'):SP X pins D f s':=by
 cases f with
 | next=>obtain⟨σ',H',I,q⟩:=h;exact⟨σ',H',I.unwish,q⟩
 | brk=>obtain⟨σ',H',I,q⟩:=h;exact⟨σ',H',I.unwish,q⟩
 | cont=>obtain⟨σ',H',I,q⟩:=h;exact⟨σ',H',I.unwish,q⟩
 | ret u=>obtain⟨v,σ',H',I,r,q⟩:=h;exact⟨v,σ',H',I.unwish,r,q⟩
theorem PSs.nox {st:List Stmt}{t:TS}(h:PSs X.nox st t):PSs X st t:=fun pins s σ H D I hw =>
 wpAny_mono (h s σ H D (I.wish _) hw) (fun _ _ q=>q.unwish) fun _ _ z=>False.elim z
end

/-! ### blocks and small statements -/
section
variable {X:Cx}{st:Stmt}{cY:List Stmt}{t u:TS}{e:Expr}{te:TE}{pos:Pos}
def uO:TS:=fun D σ H=>D.nx σ H
def wH (t u:TS):TS:=fun D σ H=>t { D with nx:=u D } σ H
theorem ar:PSs X [] uO:=fun _ _ σ H _ I h=>wpAny_execs_nil ⟨σ,H,I,h⟩
theorem aq (h1:PS X st t)(h2:PSs X cY u):PSs X (st::cY) (wH t u):=by
 intro pins s σ H D I h
 refine wpAny_execs_cons (thn (h1 s σ H { D with nx:=u D } I h) fun f s1 q=>?_)
 cases f with
 | next =>
   obtain⟨σ',H',I',q⟩:=q
   exact h2 s1 σ' H' D I' q
 | ret v=>exact q
 | brk=>exact q
 | cont=>exact q
theorem ai (h1:PS X st t):PSs X [st] t:=by
 intro pins s σ H D I h
 refine wpAny_execs_cons (thn (h1 s σ H D I h) fun f s1 q=>?_)
 cases f with
 | next=>exact wpAny_execs_nil q
 | ret v=>exact q
 | brk=>exact q
 | cont=>exact q
theorem Inv.quiet {pins:List (Addr×Obj)}{σ:St}{H:Hp}{s:Shared}(I:Inv X pins σ H s):interactive X.env=false:=by simp[interactive,I.ok.kind]
def uV (te:TE):TS:=fun D σ H=>te σ H fun _ H1=>D.nx σ H1
theorem aW (he:PE X e te)(hs:swapsWith e none pos.line X.env=pure false:=by rfl):PS X (.Expr e pos) (uV te):=by
 intro pins s σ H D I h
 exact wpAny_Expr_any (thn (he s σ H _ I h) fun v s1 ⟨x,H1,I1,r1,q1⟩=>⟨σ,H1,I1,q1⟩) I.quiet hs
def wW (te:TE):TS:=fun D σ H=>te σ H D.rt
theorem az (he:PE X e te):PS X (.Return (some e) pos) (wW te):=by
 intro pins s σ H D I h
 exact wpAny_Return_some (thn (he s σ H _ I h) fun v s1 ⟨x,H1,I1,r1,q1⟩=>⟨x,σ,H1,I1,r1,q1⟩)
def wV (c:TT)(t u:TS):TS:=fun D σ H=>c σ H fun b H1=>if b=true then t D σ H1 else u D σ H1
theorem aV {c:Expr}{a b:List Stmt}{tc:TT}(hc:PT X c tc)(ha:PSs X a t)(hb:PSs X b u):PS X (.If c a b pos) (wV tc t u):=by
 intro pins s σ H D I h
 refine wpAny_If (thn (hc s σ H _ I h) fun d s1 ⟨H1,I1,q1⟩=>?_)
 cases d with
 | true=>exact ha s1 σ H1 D I1 q1
 | false=>exact hb s1 σ H1 D I1 q1
def vk:TS:=fun _ _ _=>False
theorem dh {sts:List Stmt}:PSs X sts vk:=fun _ _ _ _ _ _ h=>h.elim
end

/-! ### targets -/
abbrev TG:=V→St→Hp→(St→Hp→Prop)→Prop
abbrev TGs:=List V→St→Hp→(St→Hp→Prop)→Prop
def PG (X:Cx)(target:Expr)(t:TG):Prop :=
 ∀ ⦃pins:List (Addr×Obj)⦄ (s:Shared) (σ:St)(H:Hp) (v:V) (u:Value)(Q:St→Hp→Prop),Inv X pins σ H s→bF v u→t v σ H Q →
   wpAny (model X.prog X.w) X.A (assign target X.env u) (fun _ s'=>∃ σ' H',Inv X pins σ' H' s'∧Q σ' H') X.xe s
def PGs (X:Cx)(ts:List Expr)(t:TGs):Prop :=
 ∀ ⦃pins:List (Addr×Obj)⦄ (s:Shared) (σ:St)(H:Hp)(vs:List V)(us:List Value)(Q:St→Hp→Prop),Inv X pins σ H s→Vals vs us→t vs σ H Q →
   wpAny (model X.prog X.w) X.A (assignInOrder ((assignEach ts X.env).map (·.2)) us) (fun _ s'=>∃ σ' H',Inv X pins σ' H' s'∧Q σ' H') X.xe s
abbrev vJ:=V→V→V→Hp→(Hp→Prop)→Prop
def wK (X:Cx)(t:vJ):Prop :=
 ∀ (pins:List (Addr×Obj))(s:Shared) (σ:St)(H:Hp) (o i v:V) (ov iv u:Value)(Q:Hp→Prop),Inv X pins σ H s→bF o ov→bF i iv→bF v u→t o i v H Q →
   wpAny (model X.prog X.w) X.A (setItem ov iv u) (fun _ s'=>∃ H',Inv X pins σ H' s'∧Q H') X.xe s
abbrev TIp:=V→V→Hp→VK→Prop
section
variable {X:Cx}{pos:Pos}
def cP (i:Nat):TG:=fun v σ H Q=>Q (σ.set i (some v)) H
theorem ap {i:Nat}{x:Str}(hN:X.N.Nodup)(hi:X.N[i]?=some x)(hx:Loc X.env.scope x)(hf:X.fn x=true∨X.env.scope.names.lookup x=some .local:=by first | exact .inl rfl | exact .inr rfl | assumption):PG X (.Name x pos) (cP i):=by
 intro pins s σ H v u Q I r h
 exact wpAny_assign_Name (nD I hN hi hx r (fun s' I'=>⟨_,H,I',h⟩) hf)
def me:TGs:=fun vs σ H Q=>vs=[]∧Q σ H
def dq (t:TG)(u:TGs):TGs:=fun vs σ H Q=>∃ v r,vs=v::r∧t v σ H fun σ' H'=>u r σ' H' Q
theorem dm:PGs X [] me:=by
 intro pins s σ H vs us Q I r h
 obtain⟨e,h⟩:=h
 subst e
 cases r
 exact assignInOrder_nil ⟨σ,H,I,h⟩
theorem aX {e:Expr}{es:List Expr}{t:TG}{u:TGs}(h1:PG X e t)(h2:PGs X es u)
   (hs:(assignEach (e::es) X.env).map (·.2)=assign e X.env::(assignEach es X.env).map (·.2):=by rfl):PGs X (e::es) (dq t u):=by
 intro pins s σ H vs us Q I r h
 obtain⟨v,vr,e1,h⟩:=h
 subst e1
 cases r with
 | cons r rr =>
   rw[hs]
   refine assignInOrder_cons (thn (h1 s σ H _ _ _ I r h) fun _ s1 ⟨σ1,H1,I1,q1⟩=>?_)
   exact h2 s1 σ1 H1 _ _ Q I1 rr q1
def ng (K:PySem.W.Frag) (n:Nat)(t:TGs):TG:=fun v σ H Q=>∃ a xs,v=.ref a∧SqT K H a xs∧xs.length=n∧t xs σ H Q
theorem dS {es:List Expr}{k:Nat}{t:TGs}{n:Nat}(hc:X.calm=true)(h:PGs X es t)
   (hn:(assignEach es X.env).length=n:=by rfl)(hst:(assignEach es X.env).findIdx? (·.1)=none:=by rfl):PG X (.Tuple es k pos) (ng X.K n t):=by
 intro pins s σ H v u Q I r hw
 obtain⟨a,xs,e1,hq,hl,hw⟩:=hw
 subst e1
 cases r
 obtain⟨its,rv,ht,hz⟩:=I.tuple hq
 refine assign_Tuple_tuple (I.ok.hd hc) ht (by simp[hn,←hl,rv.length]) hst fun h' hx=>?_
 have I1:Inv X pins σ H { s with heap:=h' }:=I.kept (t':=s.toks) fun b o e=>hx b o (Nat.ne_of_lt (Heap.lt_size e)) e
 exact h _ σ H xs _ Q I1 (by simpa using rv) hw
def wo (to ti:TE)(t:vJ):TG:=fun v σ H Q=>to σ H fun o H1=>ti σ H1 fun i H2=>t o i v H2 fun H3=>Q σ H3
theorem v5 {o i:Expr}{to ti:TE}{t:vJ}(ho:PE X o to)(hi:PE X i ti)(hs:wK X t)
   (ha:∀ v,assign (.Subscript o i pos) X.env v=(do
     let ov ←holding [v] (eval o X.env)
     let iv ←holding [v,ov] (eval i X.env)
     standAt pos
     holding [v,ov,iv] (setItem ov iv v)
     release [v,ov,iv] []):=by intro _;rfl):PG X (.Subscript o i pos) (wo to ti t):=by
 intro pins s σ H v u Q I r h
 rw[ha]
 refine wpAny_bind (wpAny_holding (thn (ho s σ H _ I h) fun ov s1 ⟨x,H1,I1,r1,q1⟩=>?_))
 refine wpAny_bind (wpAny_holding (thn (hi s1 σ H1 _ I1 q1) fun iv s2 ⟨y,H2,I2,r2,q2⟩=>?_))
 refine wpAny_bind (wpAny_standAt (wpAny_bind (wpAny_holding (thn (hs pins s2 σ H2 x y v ov iv u _ I2 r1 r2 r q2) fun _ s3 ⟨H3,I3,q3⟩=>?_))))
 exact wpAny_release ⟨σ,H3,I3,q3⟩
def tX (te:TE)(g:TG):TS:=fun D σ H=>te σ H fun x H1=>g x σ H1 D.nx
theorem lY {tg e:Expr}{te:TE}{g:TG}(he:PE X e te)(hg:PG X tg g)(hs:swapsWithSole [tg] e pos.line X.env=pure false:=by rfl)(hw:swappedStores [tg] e X.env=pure none:=by rfl)
   (h1:(assignEach [tg] X.env).map (·.2)=[assign tg X.env]:=by rfl):PS X (.Assign [tg] e pos) (tX te g):=by
 intro pins s σ H D I h
 refine wpAny_Assign_stores (thn (he s σ H _ I h) fun v s1 ⟨x,H1,I1,r1,q1⟩=>?_) hs hw
 rw[h1]
 exact thn (hg s1 σ H1 x v _ I1 r1 q1) fun _ s2 q=>q
theorem aB {i:Nat}{x:Str}{e:Expr}{te:TE}{pos':Pos}(hN:X.N.Nodup)(hi:X.N[i]?=some x)(hx:Loc X.env.scope x)(he:PE X e te)(hs:swapsWith e (some (.Name x pos')) pos.line X.env=pure false:=by rfl)(hf:X.fn x=true∨X.env.scope.names.lookup x=some .local:=by first | exact .inl rfl | exact .inr rfl | assumption) :
   PS X (.Assign [.Name x pos'] e pos) (tX te (cP i)):=by
 intro pins s σ H D I h
 refine wpAny_Assign_Name (thn (he s σ H _ I h) fun v s1 ⟨y,H1,I1,r1,q1⟩=>?_) hs
 exact nD I1 hN hi hx r1 (fun s2 I2=>⟨_,H1,I2,q1⟩) hf
def xh (i:Nat)(te:TE)(ti:TIp):TS:=fun D σ H=>∃ x,σ[i]?=some (some x)∧te σ H fun y H1=>ti x y H1 fun z H2=>D.nx (σ.set i (some z)) H2
def ipI (f:Int→Int→Int):TIp:=fun x y H Q=>∃ i j,x=.int i∧y=.int j∧Q (.int (f i j)) H
end

/-! ### while -/
section
variable {X:Cx}{pos:Pos}
def si (c:TT)(tb:TS):TS:=fun D σ H=>∃ W:Nat→St→Hp→Prop,(∃ m,W m σ H)∧∀ m σ H,W m σ H →
 c σ H fun b H1=>if b=true then ∃ N:St→Hp→Prop,(∀ σ' H',N σ' H'→∃ m',m' < m∧W m' σ' H')∧tb { D with nx:=N,ct:=N,bk:=D.nx } σ H1 else D.nx σ H1
theorem m3 {c:Expr}{body:List Stmt}{tc:TT}{tb:TS}(hp:PassesOwn (model X.prog X.w) X.A X.env X.xe)(hc:PT X c tc)(hb:PSs X body tb):PS X (.While c body [] pos) (si tc tb):=by
 intro pins s σ H D I h
 obtain⟨W,⟨m0,w0⟩,turn⟩:=h
 refine wpAny_While (codeAny_whileLoop (fun n s'=>∃ σ' H',Inv X pins σ' H' s'∧W n σ' H') ?_ m0 ⟨σ,H,I,w0⟩)
 rintro n s1 ⟨σ1,H1,I1,w1⟩
 refine wpAny_passesOwn hp (thn (hc s1 σ1 H1 _ I1 (turn n σ1 H1 w1)) fun b s2 ⟨H2,I2,q2⟩=>?_)
 cases b with
 | true =>
   obtain⟨N,hN,q2⟩:=q2
   rw[if_pos rfl]
   refine wpAny_passesOwn hp (thn (hb s2 σ1 H2 _ I2 q2) fun f s3 q3=>?_)
   cases f with
   | next =>
     obtain⟨σ3,H3,I3,n3⟩:=q3
     obtain⟨m',hm,w3⟩:=hN σ3 H3 n3
     exact⟨m',hm,σ3,H3,I3,w3⟩
   | cont =>
     obtain⟨σ3,H3,I3,n3⟩:=q3
     obtain⟨m',hm,w3⟩:=hN σ3 H3 n3
     exact⟨m',hm,σ3,H3,I3,w3⟩
   | brk=>exact q3
   | ret v=>exact q3
 | false =>
   rw[if_neg Bool.false_ne_true]
   exact wpAny_execs_nil ⟨σ1,H2,I2,q2⟩
end

/-! ### what a loop or a comprehension walks -/
structure It where
 go:Nat→Hp→Prop
 yld:Nat→Hp→V→Hp→Prop
 stop:Nat→Hp→Prop
def fJ (X:Cx)(pins:List (Addr×Obj))(H:Hp)(b:Addr):Prop :=
 H b=none∧b≠X.env.locals∧b∉X.fs∧(b∈X.ex∨X.s₀.heap.objs.size≤b)∧(∀ x c,X.env.cells.lookup x=some c→c≠b)∧∀ p∈X.pn++pins,p.1≠b
theorem Inv.fpOk {X:Cx}{pins:List (Addr×Obj)}{σ:St}{H H':Hp}{s:Shared}{b:Addr}(I:Inv X pins σ H s)(hb:s.heap.objs.size≤b)(hn:H' b=none):fJ X pins H' b:=by
 refine⟨hn,Nat.ne_of_gt (Nat.lt_of_lt_of_le I.lt hb),I.nofs hb,.inr (Nat.le_trans I.sz hb),fun x c e z=>?_,fun p hp z=>?_⟩
 · obtain⟨v,q⟩:=I.cell x c e
   exact absurd (Nat.lt_of_lt_of_le q.lt (by rw[z];exact hb)) (Nat.lt_irrefl _)
 · exact absurd (Nat.lt_of_lt_of_le (Heap.lt_size (I.pin p hp).1) (by rw[z];exact hb)) (Nat.lt_irrefl _)
structure my (P:Program)(w:World)(K:PySem.W.Frag)(tg:Expr)(J:It)(fp:List Addr)(it:Addr)(tn:Nat→Heap→Prop):Prop where
 mem:it∈fp
 obj:∀ i h,tn i h→∀ b∈fp,∃ o,h.get? b=some o∧∀ v,o.data≠.cell v
 keep:∀ i h h',tn i h→(∀ b∈fp,∀ o,h.get? b=some o→h'.get? b=some o)→tn i h'
 item:∀ (X:Cx),X.prog=P→X.w=w→X.K=K→X.calm=true→∀ (i:Nat)(pins:List (Addr×Obj))(s:Shared) (σ:St)(H:Hp)(E:Value→Shared→Prop),Inv X pins σ H s→(∀ b∈fp,fJ X pins H b)→tn i s.heap→J.go i H →
   wpAny (model P w) X.A (pyNext (.ref it)) (fun r s1=>∃ u,r=some u ∧
     wpAny (model P w) X.A (letOwnedTupleGo tg (.ref it) u) (fun _ s2=>∃ x H',Inv X pins σ H' s2∧bF x u∧J.yld i H x H'∧tn (i+1) s2.heap∧∀ b∈fp,H' b=none) E s1) E s
 done:∀ (X:Cx),X.prog=P→X.w=w→X.K=K→X.calm=true→∀ (i:Nat)(pins:List (Addr×Obj))(s:Shared) (σ:St)(H:Hp)(E:Value→Shared→Prop),Inv X pins σ H s→(∀ b∈fp,fJ X pins H b)→tn i s.heap→J.stop i H →
   wpAny (model P w) X.A (pyNext (.ref it)) (fun r s1=>r=none∧Inv X pins σ H s1) E s
 self:∀ (A:Around) (i:Nat)(s:Shared)(Q:Value→Shared→Prop)(E:Value→Shared→Prop),tn i s.heap→Q (.ref it) s→wpAny (model P w) A (pyIter (.ref it)) Q E s
abbrev TI:=St→Hp→(It→Hp→Prop)→Prop
def PIE (X:Cx)(pins:List (Addr×Obj)) (σ:St)(tg:Expr)(R:It→Hp→Prop) (itv:Value)(s2:Shared):Prop :=
 ∃ (it:Addr)(fp:List Addr)(tn:Nat→Heap→Prop)(J:It)(H':Hp),itv=.ref it∧Inv X pins σ H' s2∧my X.prog X.w X.K tg J fp it tn∧tn 0 s2.heap∧(∀ b∈fp,fJ X pins H' b)∧R J H'
def PI (X:Cx)(tg iter:Expr)(wi:TI):Prop :=
 ∀ ⦃pins:List (Addr×Obj)⦄ (s:Shared) (σ:St)(H:Hp)(R:It→Hp→Prop),Inv X pins σ H s→wi σ H R →
   wpAny (model X.prog X.w) X.A (eval iter X.env) (fun v s1=>wpAny (model X.prog X.w) X.A (pyIter v) (PIE X pins σ tg R) X.xe s1) X.xe s

theorem nN {M:Model}{A:Around}{E:Value→Shared→Prop}{s:Shared}{tg:Expr}{it:Addr}{u:Value}{o:Obj}{n:String}{vs:Array Value}{Q:Unit→Shared→Prop}(ho:s.heap.get? it=some o)(hc:o.cls=.type n)(hd:o.data=.fields vs)
   (hn:["enumerate", "zip", "dict_itemiterator", "dict_reverseitemiterator", "odict_iterator", "itertools.zip_longest", "itertools.pairwise"].contains n=false)(hQ:Q () s):wpAny M A (letOwnedTupleGo tg (.ref it) u) Q E s:=by
 unfold letOwnedTupleGo
 cases tg<;>first
   | exact wpAny_pure hQ
   | (cases u<;>first
       | exact wpAny_pure hQ
       | (refine wpAny_bind (wpAny_load ho ?_)
          rw[hc,hd]
          show wpAny M A (if(["enumerate", "zip", "dict_itemiterator", "dict_reverseitemiterator", "odict_iterator", "itertools.zip_longest", "itertools.pairwise"].contains n&&vs[0]?==some (rawInt _))=true then _ else _) Q E s
          rw[if_neg (by intro h;rw[hn,Bool.false_and] at h;cases h)]
          exact wpAny_pure hQ))

def Itl (K:PySem.W.Frag)(a:Addr):It :=
 ⟨fun i H=>∃ xs x,SqL K H a xs∧xs[i]?=some x,fun i H x H'=>H'=H∧∀ xs,SqL K H a xs→xs[i]?=some x,fun i H=>∃ xs,SqL K H a xs∧xs.length≤i⟩
def Itt (K:PySem.W.Frag)(a:Addr):It :=
 ⟨fun i H=>∃ xs x,SqT K H a xs∧xs[i]?=some x,fun i H x H'=>H'=H∧∀ xs,SqT K H a xs→xs[i]?=some x,fun i H=>∃ xs,SqT K H a xs∧xs.length≤i⟩
def Itr (lo:Int) (n:Nat):It:=⟨fun i _=>i < n,fun i H x H'=>H'=H∧x=.int (lo+i),fun i _=>n≤i⟩
theorem qD {P:Program}{w:World}{K:PySem.W.Frag}{tg:Expr}(a it:Addr):my P w K tg (Itl K a) [it] it (fun i h=>h.IsListIter it a i) where
 mem:=by simp
 obj:=fun i h st b hb=>by
   have e:b=it:=by simpa using hb
   subst e
   obtain⟨o,e,c,d⟩:=st
   exact⟨o,e,fun v z=>by rw[d] at z;cases z⟩
 keep:=fun i h h' st k=>st.at fun o e=>k it (by simp) o e
 item:=by
   intro X hP hw hK hc i pins s σ H E I hf st hg
   subst hP hw hK
   obtain⟨xs,x,hq,hx⟩:=hg
   obtain⟨its,rv,p,hz⟩:=I.list hq
   obtain⟨u,hu,ru⟩:=rv.get hx
   obtain⟨f0,f1,f2,f3,f4,f5⟩:=hf it (by simp)
   refine wpAny_pyNext_list_item st p.isList (x:=u) (by simpa using hu) fun h' st' sb=>?_
   have I1:Inv X pins σ H { s with heap:=h' }:=I.turned (t':=s.toks) (fun b o hb e=>(sb.2 b hb).trans e) f0 f1 f3 f4 f5
   obtain⟨o,e,c,d⟩:=id st'
   exact⟨u,rfl,nN (s:={ s with heap:=h' }) e c d (by decide) ⟨x,H,I1,ru,⟨rfl,fun ys hy=>by rw[I.list_inj hy hq];exact hx⟩,st',fun b hb=>(hf b hb).1⟩⟩
 done:=by
   intro X hP hw hK hc i pins s σ H E I hf st hg
   subst hP hw hK
   obtain⟨xs,hq,hx⟩:=hg
   obtain⟨its,rv,p,hz⟩:=I.list hq
   obtain⟨f0,f1,f2,f3,f4,f5⟩:=hf it (by simp)
   have hl:=rv.length
   exact wpAny_pyNext_list_end (I.ok.hd hc) st p.isList (by simp;omega) fun h' eb=>⟨rfl,I.turned (t':=s.toks) (fun b o hb e=>eb b o hb e) f0 f1 f3 f4 f5⟩
 self:=fun _ _ _ _ _ st h=>wpAny_pyIter_listiter st h
theorem oQ {P:Program}{w:World}{K:PySem.W.Frag}{tg:Expr}(a it:Addr):my P w K tg (Itt K a) [it] it (fun i h=>h.IsTupleIter it a i) where
 mem:=by simp
 obj:=fun i h st b hb=>by
   have e:b=it:=by simpa using hb
   subst e
   obtain⟨o,e,c,d⟩:=st
   exact⟨o,e,fun v z=>by rw[d] at z;cases z⟩
 keep:=fun i h h' st k=>st.at fun o e=>k it (by simp) o e
 item:=by
   intro X hP hw hK hc i pins s σ H E I hf st hg
   subst hP hw hK
   obtain⟨xs,x,hq,hx⟩:=hg
   obtain⟨its,rv,p,hz⟩:=I.tuple hq
   obtain⟨u,hu,ru⟩:=rv.get hx
   obtain⟨f0,f1,f2,f3,f4,f5⟩:=hf it (by simp)
   refine wpAny_pyNext_tuple_item st (show s.heap.IsTuple a its.toArray from p) (x:=u) (by simpa using hu) fun h' st' sb=>?_
   have I1:Inv X pins σ H { s with heap:=h' }:=I.turned (t':=s.toks) (fun b o hb e=>(sb.2 b hb).trans e) f0 f1 f3 f4 f5
   obtain⟨o,e,c,d⟩:=id st'
   exact⟨u,rfl,nN (s:={ s with heap:=h' }) e c d (by decide) ⟨x,H,I1,ru,⟨rfl,fun ys hy=>by rw[I.tuple_inj hy hq];exact hx⟩,st',fun b hb=>(hf b hb).1⟩⟩
 done:=by
   intro X hP hw hK hc i pins s σ H E I hf st hg
   subst hP hw hK
   obtain⟨xs,hq,hx⟩:=hg
   obtain⟨its,rv,p,hz⟩:=I.tuple hq
   obtain⟨f0,f1,f2,f3,f4,f5⟩:=hf it (by simp)
   have hl:=rv.length
   exact wpAny_pyNext_tuple_end (I.ok.hd hc) st (show s.heap.IsTuple a its.toArray from p) (by simp;omega) fun h' eb=>⟨rfl,I.turned (t':=s.toks) (fun b o hb e=>eb b o hb e) f0 f1 f3 f4 f5⟩
 self:=fun _ _ _ _ _ st h=>wpAny_pyIter_tupleiter st h
theorem nY {P:Program}{w:World}{K:PySem.W.Frag}{tg:Expr}(it:Addr) (lo:Int) (n:Nat):my P w K tg (Itr lo n) [it] it (fun i h=>IsRangeIter h it (lo+(i:Nat)*1) ((n:Int) - (i:Nat)) 1) where
 mem:=by simp
 obj:=fun i h st b hb=>by
   have e:b=it:=by simpa using hb
   subst e
   exact⟨_,st,fun v z=>by
     have z':Data.fields _=Data.cell v:=z
     cases z'⟩
 keep:=fun i h h' st k=>k it (by simp) _ st
 item:=by
   intro X hP hw hK hc i pins s σ H E I hf st hg
   subst hP hw hK
   obtain⟨f0,f1,f2,f3,f4,f5⟩:=hf it (by simp)
   have W:=Walks.range (prog:=X.prog) (w:=X.w) (I.ok.hd hc) it lo 1 n
   refine W.item i s _ _ hg st fun v h' tk hv st' kk=>?_
   obtain⟨t,rfl⟩:=hv
   have I1:Inv X pins σ H { s with heap:=h',toks:=tk }:=I.turned (fun b o hb e=>kk b o (by simpa using hb) e) f0 f1 f3 f4 f5
   refine⟨_,rfl,nN (s:={ s with heap:=h',toks:=tk }) (n:="range_iterator") st' rfl rfl (by decide) ⟨.int (lo+i),H,I1,⟨t,?_⟩,⟨rfl,rfl⟩,st',fun b hb=>(hf b hb).1⟩⟩
   rw[Int.mul_one]
 done:=by
   intro X hP hw hK hc i pins s σ H E I hf st hg
   subst hP hw hK
   obtain⟨f0,f1,f2,f3,f4,f5⟩:=hf it (by simp)
   exact wpAny_pyNext_range_end (I.ok.hd hc) st (by have:n≤i:=hg;omega) fun h' eb=>⟨rfl,I.turned (t':=s.toks) (fun b o hb e=>eb b o hb e) f0 f1 f3 f4 f5⟩
 self:=fun _ _ _ _ _ st h=>wpAny_pyIter_rangeiter st h
end L2

namespace L2
open PySem PySem.Spec PyProof.Rows
section
variable {X:Cx}{tg:Expr}
def uQ (K:PySem.W.Frag)(tl:TE):TI:=fun σ H R=>tl σ H fun x H1=>∃ a,x=.ref a∧(∃ xs,SqL K H1 a xs)∧R (Itl K a) H1
def wv (K:PySem.W.Frag)(tl:TE):TI:=fun σ H R=>tl σ H fun x H1=>∃ a,x=.ref a∧(∃ xs,SqT K H1 a xs)∧R (Itt K a) H1
theorem br {l:Expr}{tl:TE}(hl:PE X l tl):PI X tg l (uQ X.K tl):=by
 intro pins s σ H R I h
 refine thn (hl s σ H _ I h) fun v s1 ⟨x,H1,I1,r1,q1⟩=>?_
 obtain⟨a,e,⟨xs,hq⟩,q⟩:=q1
 subst e
 cases r1
 obtain⟨its,rv,p,hz⟩:=I1.list hq
 refine wpAny_pyIter_list p.isList ?_
 refine⟨s1.heap.objs.size,[s1.heap.objs.size],_,_,H1,rfl,I1.kept (t':=s1.toks) fun b o e=>Heap.get?_push_of_some _ e,qD a _,⟨_,Heap.get?_push_size _ rfl,rfl,rfl⟩,fun b hb=>?_,q⟩
 have e:b=s1.heap.objs.size:=by simpa using hb
 subst e
 exact I1.fpOk (Nat.le_refl _) (I1.hok.fresh (Nat.le_refl _))
theorem vz {l:Expr}{tl:TE}(hl:PE X l tl):PI X tg l (wv X.K tl):=by
 intro pins s σ H R I h
 refine thn (hl s σ H _ I h) fun v s1 ⟨x,H1,I1,r1,q1⟩=>?_
 obtain⟨a,e,⟨xs,hq⟩,q⟩:=q1
 subst e
 cases r1
 obtain⟨its,rv,p,hz⟩:=I1.tuple hq
 refine wpAny_pyIter_tuple (show s1.heap.IsTuple a its.toArray from p) ?_
 refine⟨s1.heap.objs.size,[s1.heap.objs.size],_,_,H1,rfl,I1.kept (t':=s1.toks) fun b o e=>Heap.get?_push_of_some _ e,oQ a _,⟨_,Heap.get?_push_size _ rfl,rfl,rfl⟩,fun b hb=>?_,q⟩
 have e:b=s1.heap.objs.size:=by simpa using hb
 subst e
 exact I1.fpOk (Nat.le_refl _) (I1.hok.fresh (Nat.le_refl _))
theorem mJ {pins:List (Addr×Obj)}{σ:St}{H:Hp}{s:Shared}{R:It→Hp→Prop}{E:Value→Shared→Prop}{lo hi:Int}{t u v:Tok}{tk:Nat}(I:Inv X pins σ H s)(h1:-(2 ^ 62)≤lo)(h2:lo < 2 ^ 62)(h3:-(2 ^ 62)≤hi)(h4:hi < 2 ^ 62)
   (q:R (Itr lo (hi - lo).toNat) H):wpAny (model X.prog X.w) X.A (pyIter (.ref s.heap.objs.size)) (PIE X pins σ tg R) E { s with heap:=s.heap.push { cls:=.type "range",data:=.fields #[.int lo t,.int hi u,.int 1 v] },toks:=tk }:=by
 refine wpAny_pyIter_range (IsRange.new ..) (small_one h1 h2 h3 h4) ?_
 have I1:Inv X pins σ H { s with heap:=s.heap.push { cls:=.type "range",data:=.fields #[.int lo t,.int hi u,.int 1 v] },toks:=tk }:=I.kept fun b o e=>Heap.get?_push_of_some _ e
 refine⟨(s.heap.push { cls:=.type "range",data:=.fields #[.int lo t,.int hi u,.int 1 v] }).objs.size,[(s.heap.push { cls:=.type "range",data:=.fields #[.int lo t,.int hi u,.int 1 v] }).objs.size],_,_,H,rfl,
   I1.kept (t':=tk) fun b o e=>Heap.get?_push_of_some _ e,nY _ lo (hi - lo).toNat,?_,fun b hb=>?_,q⟩
 · have e1:lo+((0:Nat):Int)*1=lo:=by simp
   have e2:(((hi - lo).toNat:Nat):Int) - ((0:Nat):Int)=Builtin.Range.rangeSize lo hi 1:=by rw[rangeSize_one];split<;>omega
   show IsRangeIter _ _ (lo+((0:Nat):Int)*1) ((((hi - lo).toNat:Nat):Int) - ((0:Nat):Int)) 1
   rw[e1,e2]
   exact Heap.get?_push_size _ rfl
 · have e:b=(s.heap.push { cls:=.type "range",data:=.fields #[.int lo t,.int hi u,.int 1 v] }).objs.size:=by simpa using hb
   subst e
   exact I1.fpOk (Nat.le_refl _) (I1.hok.fresh (Nat.le_refl _))
def vf (ta:TA):TI:=fun σ H R=>ta σ H fun vs H1=>∃ j:Int,vs=[.int j]∧-(2 ^ 62)≤j∧j < 2 ^ 62∧R (Itr 0 j.toNat) H1
def vi (ta:TA):TI:=fun σ H R=>ta σ H fun vs H1=>∃ i j:Int,vs=[.int i,.int j]∧(-(2 ^ 62)≤i∧i < 2 ^ 62∧-(2 ^ 62)≤j∧j < 2 ^ 62)∧R (Itr i (j - i).toNat) H1
theorem cu {a:Expr}{ta:TA}{p pos:Pos}(hg:Gl X "range")(hm:X.mg "range"=none)(ha:PA X [a] ta)(hs:starEach [a] X.env=[(false,eval a X.env)]:=by rfl):PI X tg (.Call (.Name "range" p) [a] [] pos) (vf ta):=by
 intro pins s σ H R I h
 refine Call_ (g5 I hg hm boot_range (PyProof.Rows.callWith_type1 (thn (ha pos s σ H _ I h) fun us s1 ⟨vs,H1,I1,r1,q1⟩=>?_) hs rfl))
 obtain⟨j,e,q1,q2,q⟩:=q1
 subst e
 cases r1 with
 | cons r rr =>
   cases rr
   obtain⟨t,rfl⟩:=r
   exact call_range_1 (mJ I1 (by omega) (by omega) q1 q2 (by simpa using q))
theorem qN {a b:Expr}{ta:TA}{p pos:Pos}(hg:Gl X "range")(hm:X.mg "range"=none)(ha:PA X [a,b] ta)(hs:starEach [a,b] X.env=[(false,eval a X.env),(false,eval b X.env)]:=by rfl)(hs2:starEach [b] X.env=[(false,eval b X.env)]:=by rfl) :
   PI X tg (.Call (.Name "range" p) [a,b] [] pos) (vi ta):=by
 intro pins s σ H R I h
 refine Call_ (g5 I hg hm boot_range (PyProof.Rows.callWith_type1 (thn (ha pos s σ H _ I h) fun us s1 ⟨vs,H1,I1,r1,q1⟩=>?_) (by rw[hs,hs2]) (by rw[hs2];rfl)))
 obtain⟨i,j,e,⟨q1,q2,q3,q4⟩,q⟩:=q1
 subst e
 cases r1 with
 | cons r rr =>
   cases rr with
   | cons r' rr =>
     cases rr
     obtain⟨t,rfl⟩:=r
     obtain⟨t',rfl⟩:=r'
     exact call_range_2 (mJ I1 q1 q2 q3 q4 q)

/-! ### for -/
def wN (wi:TI)(g:TG)(tb:TS):TS:=fun D σ H=>wi σ H fun J H1=>∃ W:Nat→Nat→St→Hp→Prop,(∃ m,W 0 m σ H1)∧∀ i m σ H,W i m σ H →
 (J.stop i H∧D.nx σ H)∨(J.go i H∧∃ N:St→Hp→Prop,(∀ σ' H',N σ' H'→∃ m',m' < m∧W (i+1) m' σ' H')∧∀ x H',J.yld i H x H'→g x σ H' fun σ2 H2=>tb { D with nx:=N,ct:=N,bk:=D.nx } σ2 H2)
def jX (fp:List Addr)(h:Heap):List (Addr×Obj):=fp.filterMap fun b=>(h.get? b).map fun o=>(b,o)
theorem dR {fp:List Addr}{h:Heap}{b:Addr}{o:Obj}(hb:b∈fp)(e:h.get? b=some o):(b,o)∈jX fp h:=List.mem_filterMap.mpr ⟨b,hb,by rw[e];rfl⟩
theorem qU {fp:List Addr}{h:Heap}{p:Addr×Obj}(hp:p∈jX fp h):p.1∈fp∧h.get? p.1=some p.2:=by
 obtain⟨b,hb,e⟩:=List.mem_filterMap.mp hp
 cases q:h.get? b with
 | none=>rw[q] at e;cases e
 | some o =>
   rw[q] at e
   have e':(b,o)=p:=Option.some.inj e
   subst e'
   exact⟨hb,q⟩
theorem Inv.pinned {pins:List (Addr×Obj)}{σ:St}{H:Hp}{s:Shared}{fp:List Addr}(I:Inv X pins σ H s)(hf:∀ b∈fp,fJ X pins H b)(ho:∀ b∈fp,∃ o,s.heap.get? b=some o∧∀ v,o.data≠.cell v):Inv X (pins++jX fp s.heap) σ H s :=
 I.pins_of fun p hp=>(List.mem_append.mp hp).elim (fun z=>I.pin p (List.mem_append_right _ z)) fun z=>by
   obtain⟨hb,e⟩:=qU z
   obtain⟨f0,f1,f2,_⟩:=hf p.1 hb
   obtain⟨o,e',d⟩:=ho p.1 hb
   rw[e] at e';cases e'
   exact⟨e,f0,f1,f2,d⟩
theorem Inv.unpinned {pins pl:List (Addr×Obj)}{σ:St}{H:Hp}{s:Shared}(I:Inv X (pins++pl) σ H s):Inv X pins σ H s:=I.pins_of fun p hp=>I.pin p (List.mem_append_right _ (List.mem_append_left _ hp))
theorem bu {iter:Expr}{body:List Stmt}{wi:TI}{g:TG}{tb:TS}{pos:Pos}(hp:PassesOwn (model X.prog X.w) X.A X.env X.xe)(hc:X.calm=true)(hi:PI X tg iter wi)(hg:PG X tg g)(hb:PSs X body tb)
   (hs:∀ x,foldedSetIterable iter X.env x=pure x:=by intro _;rfl):PS X (.For tg iter body [] pos) (wN wi g tb):=by
 intro pins s σ H D I h
 refine wpAny_For (thn (hi s σ H _ I h) fun v s1 h1=>thn h1 fun itv s2 h2=>?_) hs
 obtain⟨it,fp,tn,J,H2,e,I2,T,st2,f2,W,⟨m0,w0⟩,turn⟩:=h2
 subst e
 have stat:∀ {H':Hp},(∀ b∈fp,H' b=none)→∀ b∈fp,fJ X pins H' b:=fun hn b hb=>⟨hn b hb,(f2 b hb).2⟩
 refine codeAny_forLoop_any (fun n s'=>∃ i σ' H',Inv X pins σ' H' s'∧tn i s'.heap∧(∀ b∈fp,H' b=none)∧W i n σ' H') ?_ m0 ⟨0,σ,H2,I2,st2,fun b hb=>(f2 b hb).1,w0⟩
 rintro n s3 ⟨i,σ3,H3,I3,st3,fr3,w3⟩
 rcases turn i n σ3 H3 w3 with ⟨stop,qn⟩ | ⟨go,N,hN,step⟩
 · refine wpAny_passesOwn hp (thn (T.done X rfl rfl rfl hc i pins s3 σ3 H3 X.xe I3 (stat fr3) st3 stop) fun r s4 ⟨hr,I4⟩=>?_)
   subst hr
   exact wpAny_execs_nil ⟨σ3,H3,I4,qn⟩
 · refine wpAny_passesOwn hp (thn (T.item X rfl rfl rfl hc i pins s3 σ3 H3 X.xe I3 (stat fr3) st3 go) fun r s4 ⟨u,hr,h4⟩=>?_)
   subst hr
   refine wpAny_passesOwn hp (thn h4 fun _ s5 ⟨x,H5,I5,r5,y5,st5,fr5⟩=>?_)
   have I5':=I5.pinned (stat fr5) (T.obj _ _ st5)
   refine wpAny_passesOwn hp (thn (hg s5 σ3 H5 x u _ I5' r5 (step x H5 y5)) fun _ s6 ⟨σ6,H6,I6,q6⟩=>?_)
   refine wpAny_passesOwn hp (thn (hb s6 σ6 H6 _ I6 q6) fun f s7 q7=>?_)
   have again:∀ {σ7:St}{H7:Hp},Inv X (pins++jX fp s5.heap) σ7 H7 s7→N σ7 H7→∃ m,m < n∧∃ i σ' H',Inv X pins σ' H' s7∧tn i s7.heap∧(∀ b∈fp,H' b=none)∧W i m σ' H':=fun {σ7 H7} I7 n7=>by
     obtain⟨m',hm,w7⟩:=hN σ7 H7 n7
     refine⟨m',hm,i+1,σ7,H7,I7.unpinned,T.keep _ _ _ st5 fun b hb o e=>(I7.pin (b,o) (List.mem_append_right _ (List.mem_append_right _ (dR hb e)))).1,fun b hb=>?_,w7⟩
     obtain⟨o,e,d⟩:=T.obj _ _ st5 b hb
     exact(I7.pin (b,o) (List.mem_append_right _ (List.mem_append_right _ (dR hb e)))).2.1
   cases f with
   | next=>obtain⟨σ7,H7,I7,n7⟩:=q7;exact again I7 n7
   | cont=>obtain⟨σ7,H7,I7,n7⟩:=q7;exact again I7 n7
   | brk=>obtain⟨σ7,H7,I7,q7⟩:=q7;exact⟨σ7,H7,I7.unpinned,q7⟩
   | ret v=>obtain⟨x7,σ7,H7,I7,r7,q7⟩:=q7;exact⟨x7,σ7,H7,I7.unpinned,r7,q7⟩
end

/-! ### the forms one uses -/
end L2

namespace L2
open PySem PySem.Spec PyProof.Rows

abbrev R2:=V→V→Hp→VK→Prop
def OpR (X:Cx)(f:Value→Value→Sem Value)(r:R2):Prop :=
 ∀ (pins:List (Addr×Obj))(s:Shared) (σ:St)(H:Hp) (x y:V) (v u:Value)(Q:VK),Inv X pins σ H s→bF x v→bF y u→r x y H Q →
   wpAny (model X.prog X.w) X.A (f v u) (EP X pins σ Q) X.xe s
def UnR (X:Cx)(f:Value→Sem Value)(r:V→Hp→VK→Prop):Prop :=
 ∀ (pins:List (Addr×Obj))(s:Shared) (σ:St)(H:Hp) (x:V) (v:Value)(Q:VK),Inv X pins σ H s→bF x v→r x H Q →
   wpAny (model X.prog X.w) X.A (f v) (EP X pins σ Q) X.xe s
def cX (X:Cx) (f:Value)(r:List V→Hp→VK→Prop):Prop :=
 ∀ (pins:List (Addr×Obj))(s:Shared) (σ:St)(H:Hp)(xs:List V)(us:List Value)(Q:VK),Inv X pins σ H s→Vals xs us→r xs H Q →
   wpAny (model X.prog X.w) X.A (call f us) (EP X pins σ Q) X.xe s
def tOp (r:R2)(ta tb:TE):TE:=fun σ H Q=>ta σ H fun x H1=>tb σ H1 fun y H2=>r x y H2 Q
def tUn (r:V→Hp→VK→Prop)(ta:TE):TE:=fun σ H Q=>ta σ H fun x H1=>r x H1 Q
def rI (C:Int→Int→Prop)(g:Int→Int→V):R2:=fun x y H Q=>∃ i j,x=.int i∧y=.int j∧C i j∧Q (g i j) H
def rI0 (g:Int→Int→V):R2:=fun x y H Q=>∃ i j,x=.int i∧y=.int j∧Q (g i j) H
def rU (g:Int→V):V→Hp→VK→Prop:=fun x H Q=>∃ i,x=.int i∧Q (g i) H

section
variable {X:Cx}{a b c:Expr}{ta tb tc:TE}{pos:Pos}

theorem vB (ha:PE X a ta)(hb:PE X b tb){pins:List (Addr×Obj)}{s:Shared}{σ:St}{H:Hp}{R:V→V→Hp→Prop}(I:Inv X pins σ H s)
   (h:ta σ H fun x H1=>tb σ H1 fun y H2=>R x y H2){Q:Value→Shared→Prop}{f:Value→Value→Sem Value}
   (hf:∀ v u s2 x y H2,Inv X pins σ H2 s2→bF x v→bF y u→R x y H2→wpAny (model X.prog X.w) X.A (f v u) Q X.xe s2) :
   wpAny (model X.prog X.w) X.A (eval a X.env) (fun v s₁=>wpAny (model X.prog X.w) X.A (eval b X.env) (fun u s₂=>wpAny (model X.prog X.w) X.A (f v u) Q X.xe s₂) X.xe s₁) X.xe s:=by
 refine thn (ha s σ H _ I h) fun v s1 ⟨x,H1,I1,r1,q1⟩=>?_
 refine thn (hb s1 σ H1 _ I1 q1) fun u s2 ⟨y,H2,I2,r2,q2⟩=>?_
 exact hf v u s2 x y H2 I2 r1 r2 q2

theorem aH {op:Operator}{r:R2}(ho:OpR X (binaryOp op) r)(ha:PE X a ta)(hb:PE X b tb):PE X (.BinOp a op b pos) (tOp r ta tb):=by
 intro pins s σ H Q I h
 exact wpAny_BinOp (vB ha hb I h fun v u s2 x y H2 I2 rx ry q=>ho pins s2 σ H2 x y v u Q I2 rx ry q)
theorem m9 {op:UnaryOp}{r:V→Hp→VK→Prop}(ho:UnR X (unaryOp op) r)(ha:PE X a ta):PE X (.UnaryOp op a pos) (tUn r ta):=by
 intro pins s σ H Q I h
 exact UnaryOp_ (thn (ha s σ H _ I h) fun v s1 ⟨x,H1,I1,r1,q1⟩=>ho pins s1 σ H1 x v Q I1 r1 q1)
/-! ### ints -/
theorem opI {f:Value→Value→Sem Value}{C:Int→Int→Prop}{g:Int→Int→Int}
   (rule:∀ (i j:Int)(t u:Tok)(s:Shared)(Q:Value→Shared→Prop)(E:Value→Shared→Prop),C i j→Q (.int (g i j) s.toks) { s with toks:=s.toks+1 }→wpAny (model X.prog X.w) X.A (f (.int i t) (.int j u)) Q E s) :
   OpR X f (rI C fun i j=>.int (g i j)):=by
 intro pins s σ H x y v u Q I rx ry h
 obtain⟨i,j,rfl,rfl,hc,q⟩:=h
 obtain⟨t,rfl⟩:=rx
 obtain⟨t',rfl⟩:=ry
 exact rule i j t t' s _ _ hc ⟨.int (g i j),H,I.tok _,⟨_,rfl⟩,q⟩
theorem wD {f:Value→Value→Sem Value}{g:Int→Int→Int}
   (rule:∀ (i j:Int)(t u:Tok)(s:Shared)(Q:Value→Shared→Prop)(E:Value→Shared→Prop),Q (.int (g i j) s.toks) { s with toks:=s.toks+1 }→wpAny (model X.prog X.w) X.A (f (.int i t) (.int j u)) Q E s) :
   OpR X f (rI0 fun i j=>.int (g i j)):=by
 intro pins s σ H x y v u Q I rx ry h
 obtain⟨i,j,rfl,rfl,q⟩:=h
 obtain⟨t,rfl⟩:=rx
 obtain⟨t',rfl⟩:=ry
 exact rule i j t t' s _ _ ⟨.int (g i j),H,I.tok _,⟨_,rfl⟩,q⟩
theorem tU {f:Value→Value→Sem Value}{g:Int→Int→Bool}
   (rule:∀ (i j:Int)(t u:Tok)(s:Shared)(Q:Value→Shared→Prop)(E:Value→Shared→Prop),Q (.bool (g i j)) s→wpAny (model X.prog X.w) X.A (f (.int i t) (.int j u)) Q E s) :
   OpR X f (rI0 fun i j=>.bl (g i j)):=by
 intro pins s σ H x y v u Q I rx ry h
 obtain⟨i,j,rfl,rfl,q⟩:=h
 obtain⟨t,rfl⟩:=rx
 obtain⟨t',rfl⟩:=ry
 exact rule i j t t' s _ _ ⟨.bl (g i j),H,I,rfl,q⟩

def w5 (i j:Int):Prop:=0 < j∧j < 1073741824
def xg (i j:Int):Prop:=0≤j∧j≤1000000∧i.natAbs < 2 ^ 64
def uD (i j:Int):Prop:=(-(2 ^ 64) < i∧i < 2 ^ 64)∨(-(2 ^ 64) < j∧j < 2 ^ 64)
theorem uD.ok {i j:Int}(h:uD i j):IntMulOk i j:=by
 rcases h with ⟨h1,h2⟩ | ⟨h1,h2⟩
 · exact .of_left (intBits_le_64 h1 h2)
 · exact .of_right (intBits_le_64 h1 h2)
theorem b9:OpR X (binaryOp .Add) (rI0 fun i j=>.int (i+j)):=wD fun _ _ _ _ _ _ _ q=>add_int q
theorem jK:OpR X (binaryOp .Sub) (rI0 fun i j=>.int (i - j)):=wD fun _ _ _ _ _ _ _ q=>sub_int q
theorem fr:OpR X (binaryOp .Mult) (rI uD fun i j=>.int (i*j)):=opI fun _ _ _ _ _ _ _ hc q=>mul_int q hc.ok
theorem bK:OpR X (binaryOp .Mod) (rI (fun _ j=>0 < j) fun i j=>.int (i % j)):=opI fun i j _ _ _ _ _ hc q=>by
 have h1:(0:Int) < j:=hc
 exact mod_int' (by omega) (by rw[Int.fmod_eq_emod_of_nonneg i (by omega)];exact q)
theorem vS:OpR X (binaryOp .Pow) (rI xg fun i j=>.int (i ^ j.toNat)):=opI fun _ _ _ _ _ _ _ hc q=>pow_int_small hc.1 hc.2.1 hc.2.2 q
theorem unI {f:Value→Sem Value}{g:Int→Int}
   (rule:∀ (i:Int)(t:Tok)(s:Shared)(Q:Value→Shared→Prop)(E:Value→Shared→Prop),Q (.int (g i) s.toks) { s with toks:=s.toks+1 }→wpAny (model X.prog X.w) X.A (f (.int i t)) Q E s) :
   UnR X f (rU fun i=>.int (g i)):=by
 intro pins s σ H x v Q I rx h
 obtain⟨i,rfl,q⟩:=h
 obtain⟨t,rfl⟩:=rx
 exact rule i t s _ _ ⟨.int (g i),H,I.tok _,⟨_,rfl⟩,q⟩
theorem jR:UnR X (unaryOp .USub) (rU fun i=>.int (-i)):=unI fun _ _ _ _ _ q=>neg_int q
/-! ### bools among ints: n += (a < b) -/
end

/-! ### comparisons -/
def wq:V→V→Bool
 | .non,.non=>true | .non,.int _=>true | .int _,.non=>true | .non,.bl _=>true | .bl _,.non=>true | .non,.str _=>true | .str _,.non=>true
 | .int _,.int _=>true | .bl _,.bl _=>true | .str _,.str _=>true | .byt _,.byt _=>true
 | .int _,.str _=>true | .str _,.int _=>true | .bl _,.str _=>true | .str _,.bl _=>true
 | _,_=>false
def rEq:R2:=fun x y H Q=>wq x y=true∧Q (.bl (decide (x=y))) H
def rNe:R2:=fun x y H Q=>wq x y=true∧Q (.bl (!decide (x=y))) H

theorem p8 {i j:Int}:decide (V.int i=V.int j)=(i==j):=by
 rw[Bool.eq_iff_iff]
 simp
theorem sw {i j:Bool}:decide (V.bl i=V.bl j)=(i==j):=by
 rw[Bool.eq_iff_iff]
 simp
theorem pE {i j:Str}:decide (V.str i=V.str j)=(i==j):=by
 rw[Bool.eq_iff_iff]
 simp
theorem pN {i j:Array UInt8}:decide (V.byt i=V.byt j)=(i.toList==j.toList):=by
 rw[Bool.eq_iff_iff]
 cases i
 cases j
 simp

section
variable {X:Cx}{a b c:Expr}{ta tb tc:TE}{pos:Pos}
theorem bx {pins:List (Addr×Obj)}{σ:St}{H:Hp}{s:Shared}{Q:VK}{k k':Bool}(I:Inv X pins σ H s)(q:Q (.bl k) H)(e:k=k'):EP X pins σ Q (.bool k') s:=by
 subst e
 exact⟨.bl k,H,I,rfl,q⟩
theorem dt:OpR X (compareOp .Eq) rEq:=by
 intro pins s σ H x y v u Q I rx ry h
 obtain⟨hs,q⟩:=h
 cases x with
 | non =>
   cases rx
   cases y with
   | non=>cases ry;exact PySem.EqNone.eq_none_none (bx I q (by simp))
   | bl j=>cases ry;exact PySem.EqNone.eq_none_bool (bx I q (by simp))
   | int j=>obtain⟨t',rfl⟩:=ry;exact PySem.EqNone.eq_none_int (bx I q (by simp))
   | str j=>obtain⟨t',rfl⟩:=ry;exact PySem.EqNone.eq_none_str (bx I q (by simp))
   | _=>exact absurd (show false=true from hs) Bool.false_ne_true
 | bl i =>
   cases rx
   cases y with
   | non=>cases ry;exact PySem.EqNone.eq_bool_none (bx I q (by simp))
   | bl j=>cases ry;exact eq_bool (bx I q sw)
   | str j=>obtain⟨t',rfl⟩:=ry;exact PySem.EqMixed.eq_bool_str (bx I q (by simp))
   | _=>exact absurd (show false=true from hs) Bool.false_ne_true
 | int i =>
   obtain⟨t,rfl⟩:=rx
   cases y with
   | non=>cases ry;exact PySem.EqNone.eq_int_none (bx I q (by simp))
   | int j=>obtain⟨t',rfl⟩:=ry;exact eq_int (bx I q p8)
   | str j=>obtain⟨t',rfl⟩:=ry;exact PySem.EqMixed.eq_int_str (bx I q (by simp))
   | _=>exact absurd (show false=true from hs) Bool.false_ne_true
 | str i =>
   obtain⟨t,rfl⟩:=rx
   cases y with
   | non=>cases ry;exact PySem.EqNone.eq_str_none (bx I q (by simp))
   | bl j=>cases ry;exact PySem.EqMixed.eq_str_bool (bx I q (by simp))
   | int j=>obtain⟨t',rfl⟩:=ry;exact PySem.EqMixed.eq_str_int (bx I q (by simp))
   | str j=>obtain⟨t',rfl⟩:=ry;exact eq_str (bx I q pE)
   | _=>exact absurd (show false=true from hs) Bool.false_ne_true
 | byt i =>
   obtain⟨t,rfl⟩:=rx
   cases y with
   | byt j=>obtain⟨t',rfl⟩:=ry;exact PySem.W.eq_bytes (bx I q pN)
   | _=>exact absurd (show false=true from hs) Bool.false_ne_true
 | _=>cases y<;>exact absurd (show false=true from hs) Bool.false_ne_true
theorem lg:OpR X (compareOp .NotEq) rNe:=by
 intro pins s σ H x y v u Q I rx ry h
 obtain⟨hs,q⟩:=h
 cases x with
 | non =>
   cases rx
   cases y with
   | non=>cases ry;exact PySem.EqNone.ne_none_none (bx I q (by simp))
   | bl j=>cases ry;exact PySem.EqNone.ne_none_bool (bx I q (by simp))
   | int j=>obtain⟨t',rfl⟩:=ry;exact PySem.EqNone.ne_none_int (bx I q (by simp))
   | str j=>obtain⟨t',rfl⟩:=ry;exact PySem.EqNone.ne_none_str (bx I q (by simp))
   | _=>exact absurd (show false=true from hs) Bool.false_ne_true
 | bl i =>
   cases rx
   cases y with
   | non=>cases ry;exact PySem.EqNone.ne_bool_none (bx I q (by simp))
   | bl j=>cases ry;exact ne_bool (bx I q (congrArg not sw))
   | str j=>obtain⟨t',rfl⟩:=ry;exact PySem.EqMixed.ne_bool_str (bx I q (by simp))
   | _=>exact absurd (show false=true from hs) Bool.false_ne_true
 | int i =>
   obtain⟨t,rfl⟩:=rx
   cases y with
   | non=>cases ry;exact PySem.EqNone.ne_int_none (bx I q (by simp))
   | int j=>obtain⟨t',rfl⟩:=ry;exact ne_int (bx I q (congrArg not p8))
   | str j=>obtain⟨t',rfl⟩:=ry;exact PySem.EqMixed.ne_int_str (bx I q (by simp))
   | _=>exact absurd (show false=true from hs) Bool.false_ne_true
 | str i =>
   obtain⟨t,rfl⟩:=rx
   cases y with
   | non=>cases ry;exact PySem.EqNone.ne_str_none (bx I q (by simp))
   | bl j=>cases ry;exact PySem.EqMixed.ne_str_bool (bx I q (by simp))
   | int j=>obtain⟨t',rfl⟩:=ry;exact PySem.EqMixed.ne_str_int (bx I q (by simp))
   | str j=>obtain⟨t',rfl⟩:=ry;exact ne_str (bx I q (congrArg not pE))
   | _=>exact absurd (show false=true from hs) Bool.false_ne_true
 | byt i =>
   obtain⟨t,rfl⟩:=rx
   cases y with
   | byt j=>obtain⟨t',rfl⟩:=ry;exact PySem.W.ne_bytes (bx I q (congrArg not pN))
   | _=>exact absurd (show false=true from hs) Bool.false_ne_true
 | _=>cases y<;>exact absurd (show false=true from hs) Bool.false_ne_true

theorem iV:OpR X (compareOp .Lt) (rI0 fun i j=>.bl (decide (i < j))):=tU fun _ _ _ _ _ _ _ q=>lt_int q
theorem uN:OpR X (compareOp .LtE) (rI0 fun i j=>.bl (decide (i≤j))):=tU fun _ _ _ _ _ _ _ q=>le_int q
theorem gh:OpR X (compareOp .Gt) (rI0 fun i j=>.bl (decide (j < i))):=tU fun _ _ _ _ _ _ _ q=>gt_int q
theorem i5:OpR X (compareOp .GtE) (rI0 fun i j=>.bl (decide (j≤i))):=tU fun _ _ _ _ _ _ _ q=>ge_int q
theorem qy:OpR X (compareOp .Lt) (fun x y H Q=>∃ i j,x=.str i∧y=.str j∧Q (.bl (decide (i.cps.toList < j.cps.toList))) H):=by
 intro pins s σ H x y v u Q I rx ry h
 obtain⟨i,j,rfl,rfl,q⟩:=h
 obtain⟨t,rfl⟩:=rx
 obtain⟨t',rfl⟩:=ry
 exact lt_str (bx I q rfl)
theorem rc:OpR X (compareOp .In) (fun x y H Q=>∃ i j,x=.str i∧y=.str j∧Q (.bl (!(Builtin.Str.occurrences j i 0 j.length 1).isEmpty)) H):=by
 intro pins s σ H x y v u Q I rx ry h
 obtain⟨i,j,rfl,rfl,q⟩:=h
 obtain⟨t,rfl⟩:=rx
 obtain⟨t',rfl⟩:=ry
 exact in_str (bx I q rfl)

theorem vy:OpR X (compareOp .Is) (fun x y H Q=>y=.non∧Q (.bl (decide (x=.non))) H):=by
 intro pins s σ H x y v u Q I rx ry h
 obtain⟨rfl,q⟩:=h
 cases ry
 refine is_none_gen (bx I q ?_)
 cases x<;>first
   | (cases rx;rfl)
   | (obtain⟨t,rfl⟩:=rx;rfl)
theorem aK (b:Expr){op:CmpOp}(h:op≠.In:=by decide)(h2:op≠.NotIn:=by decide):behindInMarks op b=false:=by
 have e1:(op==CmpOp.In)=false:=by cases op<;>first | rfl | exact absurd rfl h
 have e2:(op==CmpOp.NotIn)=false:=by cases op<;>first | rfl | exact absurd rfl h2
 cases b<;>simp[behindInMarks,e1,e2]
theorem dw {op:CmpOp}{r:R2}(ho:OpR X (compareOp op) r)(ha:PE X a ta)(hb:PE X b tb)(hm:behindInMarks op b=false):PE X (.Compare a [op] [b] pos) (tOp r ta tb):=by
 intro pins s σ H Q I h
 exact wpAny_Compare1 (vB ha hb I h fun v u s2 x y H2 I2 rx ry q=>ho pins s2 σ H2 x y v u Q I2 rx ry q) hm
def uP (t:TE):TT:=fun σ H Q=>t σ H fun x H'=>∃ k,x=.bl k∧Q k H'
theorem ax {op:CmpOp}{r:R2}(ho:OpR X (compareOp op) r)(ha:PE X a ta)(hb:PE X b tb)(hm:behindInMarks op b=false):PT X (.Compare a [op] [b] pos) (uP (tOp r ta tb)):=by
 intro pins s σ H Q I h
 refine wpAny_isTrue_Compare1 (thn (ha s σ H _ I h) fun v s1 ⟨x,H1,I1,r1,q1⟩=>thn (hb s1 σ H1 _ I1 q1) fun u s2 ⟨y,H2,I2,r2,q2⟩ =>
   thn (ho pins s2 σ H2 x y v u _ I2 r1 r2 q2) fun c s3 ⟨z,H3,I3,r3,k,e,q3⟩=>?_) hm
 subst e
 cases r3
 exact wpAny_truthy_bool ⟨H3,I3,q3⟩
/-! ### truth -/
theorem iG:(sizeLine:Nat) < 2 ^ 63:=by rw[sizeLine_eq];decide
/-! ### strs and bytes -/
theorem fM:OpR X (binaryOp .Add) (fun x y H Q=>∃ i j,x=.str i∧y=.str j∧i.length+j.length≤sizeLine∧Q (.str (i++j)) H):=by
 intro pins s σ H x y v u Q I rx ry h
 obtain⟨i,j,rfl,rfl,hz,q⟩:=h
 obtain⟨t,rfl⟩:=rx
 obtain⟨t',rfl⟩:=ry
 exact add_str (fun t' tk=>⟨.str (i++j),H,I.tok _,⟨_,rfl⟩,q⟩) hz
/-! ### scalar builtins,by cX -/
theorem ef {x:V}{us:List Value}(r:Vals [x] us):∃ u,us=[u]∧bF x u:=by
 cases r with
 | cons r1 r2=>cases r2;exact⟨_,rfl,r1⟩
theorem sx {x y:V}{us:List Value}(r:Vals [x,y] us):∃ u w',us=[u,w']∧bF x u∧bF y w':=by
 cases r with
 | cons r1 r2 =>
   cases r2 with
   | cons r3 r4=>cases r4;exact⟨_,_,rfl,r1,r3⟩
theorem qo (hc:X.calm=true):cX X (.builtin "max") (fun xs H Q=>∃ i j,xs=[.int i,.int j]∧Q (.int (if j > i then j else i)) H):=by
 intro pins s σ H xs us Q I r h
 obtain⟨i,j,rfl,q⟩:=h
 obtain⟨u,w',rfl,⟨t,rfl⟩,⟨t',rfl⟩⟩:=sx r
 refine max_two_ints (I.ok.hd hc) fun h' tk k=>⟨_,H,I.kept k,?_,q⟩
 by_cases hj:j > i
 · rw[if_pos hj,if_pos hj];exact⟨_,rfl⟩
 · rw[if_neg hj,if_neg hj];exact⟨_,rfl⟩
theorem fk (hc:X.calm=true):cX X (.builtin "min") (fun xs H Q=>∃ i j,xs=[.int i,.int j]∧Q (.int (if j < i then j else i)) H):=by
 intro pins s σ H xs us Q I r h
 obtain⟨i,j,rfl,q⟩:=h
 obtain⟨u,w',rfl,⟨t,rfl⟩,⟨t',rfl⟩⟩:=sx r
 refine min_two_ints (I.ok.hd hc) fun h' tk k=>⟨_,H,I.kept k,?_,q⟩
 by_cases hj:j < i
 · rw[if_pos hj,if_pos hj];exact⟨_,rfl⟩
 · rw[if_neg hj,if_neg hj];exact⟨_,rfl⟩
theorem dX:cX X (.type "int") (fun xs H Q=>(∃ i,xs=[.int i]∧Q (.int i) H)∨∃ k,xs=[.bl k]∧Q (.int (if k then 1 else 0)) H):=by
 intro pins s σ H xs us Q I r h
 rcases h with ⟨i,rfl,q⟩ | ⟨k,rfl,q⟩
 · obtain⟨u,rfl,t,rfl⟩:=ef r
   exact call_int_int ⟨.int i,H,I,⟨_,rfl⟩,q⟩
 · obtain⟨u,rfl,r1⟩:=ef r
   cases r1
   exact call_int_bool ⟨.int (if k then 1 else 0),H,I.tok _,⟨_,rfl⟩,q⟩
end
end L2

namespace L2
open PySem PySem.Spec PyProof.Rows

/-! ### an instance,its attributes a map -/
structure oj (h:Heap)(x dx C:Addr)(mA:Str→Option Value):Prop where
 obj:h.get? x=some (PySem.W.instObj C dx)
 ns:h.Ns1 dx mA
 ne:dx≠x

theorem qR {h:Heap}{dx:Addr}{mA:Str→Option Value}(n:h.Ns1 dx mA):∃ od,h.get? dx=some od∧∀ name,PySem.W.lookIn name od=some (mA name):=by
 obtain⟨o,es,ep,ho,hd,hk,_,hm⟩:=n
 refine⟨o,ho,fun name=>?_⟩
 have e:=hm name
 unfold nsFind findBy at e
 rw[←Array.find?_toList] at e
 unfold PySem.W.lookIn
 rw[hd]
 dsimp only
 split
 · rename_i y q
   rw[q] at e
   exact congrArg some e
 · rename_i q
   rw[q] at e
   have a:es.toList.any (·.refKey)=false:=by
     rw[List.any_eq_false]
     intro y hy
     obtain⟨z,t,hkey⟩:=hk y (Array.mem_toList_iff.mp hy)
     simp[DictEntry.refKey,hkey]
   have a':¬es.toList.any (·.refKey)=true:=by rw[a];exact Bool.false_ne_true
   rw[if_neg a']
   exact congrArg some e

theorem oj.look {h:Heap}{x dx C:Addr}{mA:Str→Option Value}(I:oj h x dx C mA):∃ od,PySem.W.InstAt h x (PySem.W.instObj C dx) C (some od)∧∀ name,PySem.W.lookIn name od=some (mA name) :=
 let ⟨od,ho,hl⟩:=qR I.ns
 ⟨od,⟨I.obj,rfl,rfl,ho⟩,hl⟩

section
variable {prog:Program}{w:World}{A:Around}{E:Value→Shared→Prop}{s:Shared}{K:PySem.W.Frag}{x dx C f:Addr}{mA:Str→Option Value}{name:Str}{v:Value}

theorem tW {expr:Bool}{Q:Value→Shared→Prop}(X:K.In s.heap)(I:oj s.heap x dx C mA)(hg:PySem.W.plainGet K C name=true)(hh:PySem.W.hasDictIn K C=true)
   (ha:PySem.W.findIn K (.ref C) name=some none)(hv:mA name=some v)(hv':PySem.W.handedIn v=true)(h:Q v { s with toks:=s.toks+1 }) :
   wpAny (model prog w) A (getAttr (.ref x) name expr) Q E s:=by
 obtain⟨od,J,hl⟩:=I.look
 exact PySem.W.get_value X J (PySem.W.plainGet_of hg).1 (PySem.W.findObj_own hh ha rfl (by rw[hl,hv])) hv' h

theorem sj {pl:Sem Bool}{Q:Value×List Value→Shared→Prop}(X:K.In s.heap)(I:oj s.heap x dx C mA)(hg:PySem.W.plainGet K C name=true)
   (hf:PySem.W.findIn K (.ref C) name=some (some (.ref f)))(ht:PySem.W.isFn K (.ref f)=true)(hv:mA name=none)(h:Q (.ref f,[.ref x]) s) :
   wpAny (model prog w) A (getMethod (.ref x) name pl) Q E s:=by
 obtain⟨od,J,hl⟩:=I.look
 exact PySem.W.method_fn X J (PySem.W.plainGet_of hg).1 (PySem.W.plainGet_of hg).2 hf (beq_iff_eq.mp ht) (by show(PySem.W.lookIn name od).map (·.isSome)=some false;rw[hl,hv];rfl) h

theorem t6 {ns:List Str}{Q:Unit→Shared→Prop}(X:K.In s.heap)(I:oj s.heap x dx C mA)
   (hs:PySem.W.findIn K (.ref C) "__setattr__"=some (some (.builtin "object.__setattr__")))(hp:PySem.W.plainOver K C=true)(ht:PySem.W.takerIn K C name=some none)(hh:PySem.W.hasDictIn K C=true)
   (hw:PySem.Within mA ns)(hsz:ns.length≤sizeLine)
   (h:∀ h',oj h' x dx C (fun y=>if y=name then some v else mA y)→Heap.SameBut dx s.heap h'→Q () { s with heap:=h',toks:=s.toks+2 }) :
   wpAny (model prog w) A (setAttr (.ref x) name v) Q E s:=by
 obtain⟨od,J,hl⟩:=I.look
 refine PySem.W.set_plain X J hs (PySem.W.osa_open (s:={ s with toks:=s.toks+1 }) (r:=none) X J hp ht fun b=>?_)
 obtain⟨cd,hc,hd'⟩:=PySem.W.any_some hh
 have hx:s.heap.get? x=some ⟨.ref C,some dx,.plain,#[]⟩:=I.obj
 refine wpAny_bind (wpAny_pure (wpAny_bind (wpAny_bind (wpAny_loadPart hx (wpAny_bind (PySem.W.Looks.here (s:={ s with toks:=s.toks+1 }) (PySem.W.looks_clsIn X hc) ?_))))))
 rw[hd']
 refine wpAny_pure (a:=some dx) (wpAny_bind (wpAny_pure (wpAny_bind ?_)))
 refine wpAny_nsSet1 (s:={ s with toks:=s.toks+1 }) I.ns fun h' hn2 hs2=>?_
 obtain⟨oD,esD,epD,hoD,hdD,hcD⟩:=hn2.count (PySem.Within.cons name v hw)
 refine wpAny_bind (wpAny_lookBehind hoD (by rw[hdD];exact pastItsLine_dict (Nat.le_trans hcD (by rw[List.length_cons];omega))) ?_)
 exact wpAny_pure (h _ ⟨(hs2.2 _ (Ne.symm I.ne)).trans I.obj,hn2,I.ne⟩ hs2)

theorem rJ {R:Result→Shared→Prop}{vs:List Value}{kw:List (Str×Value)}(X:K.In s.heap)(hm:PySem.W.makesIn K C=true)
   (hi:PySem.W.findIn K (.ref C) "__init__"=some (some (.ref f)))(hf:PySem.W.typeIn K (.ref f)=some (.type "function"))
   (h:codeAny (model prog w) (A.under (.builtin "type.__call__" ⟨.ref C::vs,kw⟩)) (.call (.ref f) ⟨.ref (s.heap.objs.size+1)::vs,kw⟩) (PySem.W.InitBack (s.heap.objs.size+1) R)
     { s with heap:=(s.heap.push PySem.W.emptyDict).push (PySem.W.instObj C s.heap.objs.size) }) :
   codeAny (model prog w) A (.call (.ref C) ⟨vs,kw⟩) R s:=by
 obtain⟨hh,g,d,t,os⟩:=s
 exact PySem.W.make_core (PySem.W.makes_of X hm) (PySem.W.looks_findIn X hi) (fun self=>PySem.W.bind_fn X self hf) (.inl rfl) h
end

/-! ### the attributes as a list of pairs -/
def dz (f:Str) (v:V):List (Str×V)→List (Str×V)
 | []=>[(f,v)]
 | (g,x)::r=>if g=f then(g,v)::r else(g,x)::dz f v r
theorem i4 (f g:Str) (v:V):∀ fs:List (Str×V),(dz f v fs).lookup g=if g=f then some v else fs.lookup g
 | []=>by
   show List.lookup g [(f,v)]=_
   by_cases h:g=f
   · have hb:(g==f)=true:=beq_iff_eq.mpr h
     simp only[List.lookup,hb,if_pos h]
   · have hb:(g==f)=false:=beq_eq_false_iff_ne.mpr h
     simp only[List.lookup,hb,if_neg h]
 | (k,x)::r=>by
   have ih:=i4 f g v r
   rw[show dz f v ((k,x)::r)=(if k=f then(k,v)::r else(k,x)::dz f v r) from rfl]
   by_cases hk:k=f
   · rw[if_pos hk]
     by_cases h:g=k
     · have hb:(g==k)=true:=beq_iff_eq.mpr h
       simp only[List.lookup,hb,if_pos (h.trans hk)]
     · have hb:(g==k)=false:=beq_eq_false_iff_ne.mpr h
       simp only[List.lookup,hb,if_neg (fun e:g=f=>h (e.trans hk.symm))]
   · rw[if_neg hk]
     by_cases h:g=k
     · have hb:(g==k)=true:=beq_iff_eq.mpr h
       simp only[List.lookup,hb,if_neg (fun e:g=f=>hk (h.symm.trans e))]
     · have hb:(g==k)=false:=beq_eq_false_iff_ne.mpr h
       simp only[List.lookup,hb]
       exact ih
theorem iu (f:Str) (v:V):∀ fs:List (Str×V),f∈(dz f v fs).map (·.1)∧∀ g,g∈fs.map (·.1)→g∈(dz f v fs).map (·.1)
 | []=>⟨by simp[dz],fun g h=>by simp at h⟩
 | (k,x)::r=>by
   obtain⟨i1,i2⟩:=iu f v r
   rw[show dz f v ((k,x)::r)=(if k=f then(k,v)::r else(k,x)::dz f v r) from rfl]
   by_cases hk:k=f
   · rw[if_pos hk]
     subst hk
     exact⟨by simp,fun g h=>by simpa using h⟩
   · rw[if_neg hk]
     refine⟨?_,fun g h=>?_⟩
     · rw[List.map_cons]
       exact List.mem_cons_of_mem _ i1
     · rw[List.map_cons] at h ⊢
       rcases List.mem_cons.mp h with e | e
       · exact List.mem_cons.mpr (.inl e)
       · exact List.mem_cons_of_mem _ (i2 g e)
theorem iX (f:Str) (v:V):∀ fs:List (Str×V),(dz f v fs).length≤fs.length+1
 | []=>by simp[dz]
 | (k,x)::r=>by
   have ih:=iX f v r
   rw[show dz f v ((k,x)::r)=(if k=f then(k,v)::r else(k,x)::dz f v r) from rfl]
   by_cases hk:k=f
   · rw[if_pos hk,List.length_cons,List.length_cons];omega
   · rw[if_neg hk,List.length_cons,List.length_cons];omega

theorem gO.some_of {v:V}{o:Option Value}(r:gO (some v) o):∃ u,o=some u∧bF v u:=by
 cases o with
 | none=>exact(show False from r).elim
 | some u=>exact⟨u,rfl,r⟩
theorem gO.none_of {o:Option Value}(r:gO none o):o=none:=by
 cases o with
 | none=>rfl
 | some u=>exact(show False from r).elim
theorem qG {v:V}{u:Value}(r:bF v u):PySem.W.handedIn u=true:=by
 cases v with
 | non=>cases (show u=Value.none from r);rfl
 | bl b=>cases (show u=Value.bool b from r);rfl
 | int i=>obtain⟨t,e⟩:=(show ∃ t,u=Value.int i t from r);cases e;rfl
 | str x=>obtain⟨t,e⟩:=(show ∃ t,u=Value.str x t from r);cases e;rfl
 | byt b=>obtain⟨t,e⟩:=(show ∃ t,u=Value.bytes b t from r);cases e;rfl
 | flt b=>obtain⟨t,e⟩:=(show ∃ t,u=Value.float b t from r);cases e;rfl
 | ref a=>cases (show u=Value.ref a from r);rfl
 | ty n=>cases (show u=Value.type n from r);rfl

section
variable {P:Program}{w:World}{H H':Hp}{h h':Heap}{a C dx:Addr}{fs fs':List (Str×V)}
theorem jg (hok:HOk P w H h)(e:H a=some (.ins C dx fs)):∃ mA,oj h a dx C mA∧(∀ f,gO (fs.lookup f) (mA f))∧PySem.Within mA (fs.map (·.1))∧fs.length≤1000∧H dx=some (.own a):=by
 obtain⟨d,z,ne,ob,mA,n,r,q⟩:=(show cg P w H h a (.ins C dx fs) from hok a _ e)
 exact⟨mA,⟨ob,n,ne⟩,r,q,z,d⟩
end

/-! ### what of the text a class must have -/
structure Cls (K:PySem.W.Frag)(C:Addr):Prop where
 pg:PySem.W.plainGet K C Str.empty=true
 hd:PySem.W.hasDictIn K C=true
 po:PySem.W.plainOver K C=true
 sa:PySem.W.findIn K (.ref C) "__setattr__"=some (some (.builtin "object.__setattr__"))
theorem Cls.get {K:PySem.W.Frag}{C:Addr}(c:Cls K C) (f:Str):PySem.W.plainGet K C f=true:=c.pg
def ca (K:PySem.W.Frag)(C:Addr) (f:Str):Prop:=PySem.W.findIn K (.ref C) f=some none
theorem ca.taker {K:PySem.W.Frag}{C:Addr}{f:Str}(n:ca K C f):PySem.W.takerIn K C f=some none:=by
 unfold PySem.W.takerIn
 rw[show PySem.W.findIn K (.ref C) f=some none from n]
 rfl
structure bW (K:PySem.W.Frag)(C:Addr) (m:Str)(f:Addr):Prop where
 at_:PySem.W.findIn K (.ref C) m=some (some (.ref f))
 fn:PySem.W.isFn K (.ref f)=true
 kp:PySem.W.keepIn K (.ref f)=true

section
variable {X:Cx}{pins:List (Addr×Obj)}{σ:St}{H:Hp}{s:Shared}{a C dx:Addr}{fs:List (Str×V)}{f:Str}{v:V}{A:Around}{E:Value→Shared→Prop}

theorem oA {b:Bool}{Q:Value→Shared→Prop}(I:Inv X pins σ H s)(e:H a=some (.ins C dx fs))(c:Cls X.K C)(n:ca X.K C f)(l:fs.lookup f=some v)
   (h:∀ u s',Inv X pins σ H s'→bF v u→Q u s'):wpAny (model X.prog X.w) A (getAttr (.ref a) f b) Q E s:=by
 obtain⟨mA,O,r,_,_,_⟩:=jg I.hok e
 obtain⟨u,hu,ru⟩:=gO.some_of (v:=v) (o:=mA f) (by rw[←l];exact r f)
 exact tW I.kIn O (c.get f) c.hd n hu (qG ru) (h u _ (I.tok _) ru)

theorem gZ {m:Str}{g:Addr}{pl:Sem Bool}{Q:Value×List Value→Shared→Prop}(I:Inv X pins σ H s)(e:H a=some (.ins C dx fs))(c:Cls X.K C)(k:bW X.K C m g)(l:fs.lookup m=none)
   (h:Q (.ref g,[.ref a]) s):wpAny (model X.prog X.w) A (getMethod (.ref a) m pl) Q E s:=by
 obtain⟨mA,O,r,_,_,_⟩:=jg I.hok e
 have hn:mA m=none:=gO.none_of (by rw[←l];exact r m)
 exact sj I.kIn O (c.get m) k.at_ k.fn hn h

theorem ox {y:V}{u:Value}{Q:Unit→Shared→Prop}(I:Inv X pins σ H s)(e:H a=some (.ins C dx fs))(c:Cls X.K C)(n:ca X.K C f)(hl:fs.length < 1000)(ry:bF y u)
   (h:∀ s',Inv X pins σ (upd H a (.ins C dx (dz f y fs))) s'→Q () s'):wpAny (model X.prog X.w) A (setAttr (.ref a) f u) Q E s:=by
 obtain⟨mA,O,r,wi,_,ho⟩:=jg I.hok e
 have hz:(fs.map (·.1)).length≤sizeLine:=by rw[List.length_map,sizeLine_eq];omega
 refine t6 I.kIn O c.sa c.po n.taker c.hd wi hz fun h' O' sb=>h _ ?_
 have hd:∃ o,h'.get? dx=some o:=let ⟨o,_,_,e',_⟩:=O'.ns;⟨o,e'⟩
 refine I.write (x:=a) (e:=dx) (by rw[e];exact True.intro) (.inr ho) (fun b q hb z=>(sb.2 b hb).trans z) hd ?_
 refine⟨by rw[ag O.ne];exact ho,?_,O.ne,O'.obj,_,O'.ns,fun g=>?_,fun g hg=>?_⟩
 · have:=iX f y fs;omega
 · show gO ((dz f y fs).lookup g) (if g=f then some u else mA g)
   rw[i4]
   by_cases q:g=f
   · rw[if_pos q,if_pos q];exact ry
   · rw[if_neg q,if_neg q];exact r g
 · by_cases q:g=f
   · rw[q];exact(iu f y fs).1
   · refine(iu f y fs).2 g (wi g fun z=>hg ?_)
     show(if g=f then some u else mA g)=none
     rw[if_neg q];exact z

theorem Inv.made (I:Inv X pins σ H s):Inv X pins σ (upd (upd H s.heap.objs.size (.own (s.heap.objs.size+1))) (s.heap.objs.size+1) (.ins C s.heap.objs.size []))
   { s with heap:=(s.heap.push PySem.W.emptyDict).push (PySem.W.instObj C s.heap.objs.size) }:=by
 have e1:(s.heap.push PySem.W.emptyDict).get? s.heap.objs.size=some PySem.W.emptyDict:=Heap.get?_push_size s.heap rfl
 have e2:((s.heap.push PySem.W.emptyDict).push (PySem.W.instObj C s.heap.objs.size)).get? (s.heap.objs.size+1)=some (PySem.W.instObj C s.heap.objs.size):=by
   have:=Heap.get?_push_size (s.heap.push PySem.W.emptyDict) (o:=PySem.W.instObj C s.heap.objs.size) rfl
   rwa [Heap.size_push] at this
 have e3:(s.heap.push PySem.W.emptyDict).Ns s.heap.objs.size (fun _=>none):=⟨PySem.W.emptyDict,#[],_,e1,rfl,(fun e he=>absurd he (by simp)),fun _=>rfl⟩
 have I1:=I.laid (a:=s.heap.objs.size) (o:=.own (s.heap.objs.size+1)) (h':=s.heap.push PySem.W.emptyDict) (t':=s.toks) (fun b u q=>Heap.get?_push_of_some _ q) (Nat.le_refl _) ⟨_,e1⟩
 refine I1.laid (a:=s.heap.objs.size+1) (o:=.ins C s.heap.objs.size []) (t':=s.toks) (fun b u q=>Heap.get?_push_of_some _ q) (Nat.le_of_eq (Heap.size_push _ _)) ?_
 have ne:s.heap.objs.size≠s.heap.objs.size+1:=Nat.ne_of_lt (Nat.lt_succ_self _)
 refine⟨by rw[ag ne,ad],Nat.zero_le _,ne,e2,fun _=>none,(Heap.Ns1.of_empty e3).at fun o q=>Heap.get?_push_of_some _ q,fun _=>True.intro,fun y hy=>absurd rfl hy⟩

theorem tV {prog:Program}{w:World}{env:Env}{e:Expr}{f:Str}{pos:Pos}{s:Shared}{Q:Value→Shared→Prop}(hb:attributeBase e f env (eval e env)=eval e env)
   (h:wpAny (model prog w) A (eval e env) (fun o s₁=>wpAny (model prog w) A (getAttr o f true) Q E s₁) E s):wpAny (model prog w) A (eval (.Attribute e f pos) env) Q E s :=
 Attribute_any_ h (by rw[arm_eval_Attribute,hb])
end

/-! ### readings and rules -/
def vV (K:PySem.W.Frag)(ta:TE) (f:Str):TE:=fun σ H Q=>ta σ H fun x H1=>∃ a C dx fs v,x=.ref a∧H1 a=some (.ins C dx fs)∧Cls K C∧ca K C f∧fs.lookup f=some v∧Q v H1
def wt (K:PySem.W.Frag)(ta tv:TE) (f:Str):TS:=fun D σ H=>tv σ H fun y H1=>ta σ H1 fun x H2=>∃ a C dx fs,x=.ref a∧H2 a=some (.ins C dx fs)∧Cls K C∧ca K C f∧fs.length < 1000 ∧
 D.nx σ (upd H2 a (.ins C dx (dz f y fs)))
section
variable {X:Cx}{o e value:Expr}{f:Str}{pos pos' tpos:Pos}{ta tv:TE}
theorem cc (he:PE X e ta)(hb:attributeBase e f X.env (eval e X.env)=eval e X.env):PE X (.Attribute e f pos) (vV X.K ta f):=by
 intro pins s σ H Q I h
 refine tV hb (thn (he s σ H _ I h) fun u s1 ⟨x,H1,I1,rx,a,C,dx,fs,v,ex,ea,c,n,l,q⟩=>?_)
 subst ex
 obtain rfl:u=Value.ref a:=rx
 exact oA I1 ea c n l fun u' s2 I2 ru=>⟨v,H1,I2,ru,q⟩
theorem eZ (ha:PE X o ta)(hv:PE X value tv)(hs:swapsWith value (some (.Attribute o f pos')) pos.line X.env=pure false):PS X (.Assign [.Attribute o f pos'] value pos) (wt X.K ta tv f):=by
 intro pins s σ H D I h
 refine plainObj_wpAny_Assign_Attribute (thn (hv s σ H _ I h) fun u s1 ⟨y,H1,I1,ry,q⟩=>thn (ha s1 σ H1 _ I1 q) fun ov s2 ⟨x,H2,I2,rx,a,C,dx,fs,ex,ea,c,n,l,q2⟩=>?_) hs
 subst ex
 obtain rfl:ov=Value.ref a:=rx
 exact ox I2 ea c n l ry fun s3 I3=>⟨σ,_,I3,q2⟩
theorem u8 {pl:Sem Bool}{m:Str}{apos:Pos}{args:List Expr}{pins:List (Addr×Obj)}{s:Shared}{σ:St}{H:Hp}{Q:Value→Shared→Prop}{te:TE}(he:PE X e te)(I:Inv X pins σ H s)
   (h:te σ H fun x H1=>∃ a C dx fs g,x=.ref a∧H1 a=some (.ins C dx fs)∧Cls X.K C∧bW X.K C m g∧fs.lookup m=none ∧
     ∀ s1,Inv X pins σ H1 s1→wpAny (model X.prog X.w) X.A (callWith pos (.ref g) [.ref a] (backTo pos (starEach args X.env)) (backToKw pos (keywordEach [] X.env))) Q X.xe s1)
   (ht:eval (.Call (.Attribute e m apos) args [] pos) X.env=(do
     let ov ←eval e X.env
     standAt apos.atName
     let (f,first) ←holding [ov] (getMethod ov m pl)
     callWith pos f first (backTo pos (starEach args X.env)) (backToKw pos (keywordEach [] X.env)))) :
   wpAny (model X.prog X.w) X.A (eval (.Call (.Attribute e m apos) args [] pos) X.env) Q X.xe s:=by
 refine PySem.W.methodCall_KW (pl:=pl) (thn (he s σ H _ I h) fun u s1 ⟨x,H1,I1,rx,a,C,dx,fs,g,ex,ea,c,k,l,q⟩=>?_) ht
 subst ex
 obtain rfl:u=Value.ref a:=rx
 exact gZ I1 ea c k l (q s1 I1)
end

/-! ### isinstance -/
section
variable {X:Cx}{pins:List (Addr×Obj)}{σ:St}{H:Hp}{s:Shared}{A:Around}{E:Value→Shared→Prop}{Q:Value→Shared→Prop}{c:Value}{b:Bool}
inductive eC (K:PySem.W.Frag)(H:Hp):V→Value→Prop where
 | non:eC K H .non (.type "NoneType")
 | bl (x:Bool):eC K H (.bl x) (.type "bool")
 | int (i:Int):eC K H (.int i) (.type "int")
 | str (x:Str):eC K H (.str x) (.type "str")
 | flt (x:UInt64):eC K H (.flt x) (.type "float")
 | lst {a:Addr}{xs:List V}(e:H a=some (.lst xs)):eC K H (.ref a) (.type "list")
 | frz {a:Addr}{o:Obj}{xs:List V}(e:H a=some (.frz o (.lst xs))):eC K H (.ref a) (.type "list")
 | tup {a:Addr}{xs:List V}(e:H a=some (.tup xs)):eC K H (.ref a) (.type "tuple")
 | dK {a:Addr}{kvs:List (Key×V)}(e:H a=some (.dK kvs)):eC K H (.ref a) (.type "dict")
 | dT {a:Addr}{kvs:List (List Key×V)}(e:H a=some (.dT kvs)):eC K H (.ref a) (.type "dict")
 | ins {a C dx:Addr}{fs:List (Str×V)}(e:H a=some (.ins C dx fs))(cl:Cls K C)(ha:PySem.W.findIn K (.ref C) "__class__"=some (some (.builtin "object.__class__")))
     (hn:PySem.W.specialIn K (.builtin "object.__class__") "__get__"=some (some (.builtin "getset_descriptor.__get__")))(htk:PySem.W.takesIn K (.builtin "object.__class__")=some true)
     (hm:PySem.W.mroIn K C (.type "object")=some true):eC K H (.ref a) (.ref C)
theorem ra {x:V}{u t:Value}(I:Inv X pins σ H s)(rx:bF x u)(ty:eC X.K H x t)(e:PySem.W.kitOne X.K t c=some b)(h:∀ tk,Q (.bool b) { s with toks:=tk }) :
   wpAny (model X.prog X.w) A (call (.builtin "isinstance") [u,c]) Q E s:=by
 cases ty with
 | non=>cases (show u=Value.none from rx);exact PySem.W.kia_one PySem.W.kitx_none I.kIn True.intro e (fun z=>nomatch z) h
 | bl y=>cases (show u=Value.bool y from rx);exact PySem.W.kia_one PySem.W.kitx_bool I.kIn True.intro e (fun z=>nomatch z) h
 | int i=>obtain⟨t,q⟩:=(show ∃ t,u=Value.int i t from rx);cases q;exact PySem.W.kia_one PySem.W.kitx_int I.kIn True.intro e (fun z=>nomatch z) h
 | str y=>obtain⟨t,q⟩:=(show ∃ t,u=Value.str y t from rx);cases q;exact PySem.W.kia_one PySem.W.kitx_str I.kIn True.intro e (fun z=>nomatch z) h
 | flt y=>obtain⟨t,q⟩:=(show ∃ t,u=Value.float y t from rx);cases q;exact PySem.W.kia_one PySem.W.kitx_float I.kIn True.intro e (fun z=>nomatch z) h
 | @lst a xs ea =>
   cases (show u=Value.ref a from rx)
   obtain⟨_,_,n,_,h1⟩:=(show cg X.prog X.w H s.heap a (.lst xs) from I.hok a _ ea)
   exact PySem.W.kia_one PySem.W.kitx_list I.kIn ⟨_,h1,rfl⟩ e (fun z=>nomatch z) h
 | @frz a ob xs ea =>
   cases (show u=Value.ref a from rx)
   obtain⟨_,_,_,n,_,h1⟩:=(show cg X.prog X.w H s.heap a (.frz ob (.lst xs)) from I.hok a _ ea)
   exact PySem.W.kia_one PySem.W.kitx_list I.kIn ⟨_,h1,rfl⟩ e (fun z=>nomatch z) h
 | @tup a xs ea =>
   cases (show u=Value.ref a from rx)
   obtain⟨_,_,_,p⟩:=(show cg X.prog X.w H s.heap a (.tup xs) from I.hok a _ ea)
   obtain⟨o,h1,h2,_⟩:=p
   exact PySem.W.kia_one PySem.W.kitx_tuple I.kIn ⟨o,h1,h2⟩ e (fun z=>nomatch z) h
 | @dK a kvs ea =>
   cases (show u=Value.ref a from rx)
   obtain⟨_,_,vs,_,p⟩:=(show cg X.prog X.w H s.heap a (.dK kvs) from I.hok a _ ea)
   obtain⟨o,es,ep,h1,h2,_⟩:=p
   exact PySem.W.kia_one PySem.W.kitx_dict I.kIn ⟨o,h1,h2.1⟩ e (fun z=>nomatch z) h
 | @dT a kvs ea =>
   cases (show u=Value.ref a from rx)
   obtain⟨_,_,xs,_,o,es,ep,h1,h2,_⟩:=(show cg X.prog X.w H s.heap a (.dT kvs) from I.hok a _ ea)
   exact PySem.W.kia_one PySem.W.kitx_dict I.kIn ⟨o,h1,h2.1⟩ e (fun z=>nomatch z) h
 | @ins a C dx fs ea cl ha hn htk hm =>
   cases (show u=Value.ref a from rx)
   obtain⟨mA,O,_⟩:=jg I.hok ea
   obtain⟨od,J,_⟩:=O.look
   exact PySem.W.kia_one (PySem.W.kitx_own (cl.get _) cl.hd ha hn htk hm) I.kIn J e (fun z=>nomatch z) h
end
end L2

namespace L2
open PySem PySem.Spec PyProof.Rows

/-! ### room -/
structure d9 (k:Nat)(A:Around):Prop where
 hd:A.handled=none
 dp:A.depth+3*k+5 < recursionLimit
 un:A.units+16*k+200 < cLine
theorem d9.mono {j k:Nat}{A:Around}(r:d9 k A)(h:j≤k):d9 j A:=⟨r.hd,by have:=r.dp;omega,by have:=r.un;omega⟩
theorem d9.deeper {k:Nat}{A:Around}(r:d9 (k+1) A)(env:Env):d9 k (A.deeper env) :=
 ⟨r.hd,by have:=r.dp;show A.depth+1+3*k+5 < _;omega,by have:=r.un;show A.units+3+16*k+200 < _;omega⟩
theorem oB {A:Around}{C:Addr}{us:List Value}{kw:List (Str×Value)}:(A.under (.builtin "type.__call__" ⟨.ref C::us,kw⟩)).depth=A.depth+1:=by
 first | rfl | simp[Around.under,Code.weight,Code.isCreation,Code.isGuard,Code.isCaller,Code.frames,Code.isFrame,guardIds]
theorem oT {A:Around}{C:Addr}{us:List Value}{kw:List (Str×Value)}:(A.under (.builtin "type.__call__" ⟨.ref C::us,kw⟩)).units=A.units+1:=by
 first | rfl | simp[Around.under,Code.cUnits,Code.frames,Code.isFrame]
theorem d9.make {k:Nat}{A:Around}(r:d9 (k+1) A)(C:Addr)(us:List Value)(kw:List (Str×Value)):d9 k (A.under (.builtin "type.__call__" ⟨.ref C::us,kw⟩)) :=
 ⟨r.hd,by have:=r.dp;rw[oB];omega,by have:=r.un;rw[oT];omega⟩
theorem d9.depth {k:Nat}{A:Around}(r:d9 k A):A.depth < recursionLimit:=by have:=r.dp;omega
theorem d9.units {k:Nat}{A:Around}(r:d9 k A):A.units+64 < cLine:=by have:=r.un;omega
/-! ### argument lists and displays -/
def se:TA:=fun _ H Q=>Q [] H
def dM (ta:TE)(tr:TA):TA:=fun σ H Q=>ta σ H fun x H1=>tr σ H1 fun xs H2=>Q (x::xs) H2
section
variable {X:Cx}{e:Expr}{es:List Expr}{te:TE}{t:TA}{pos:Pos}
theorem ac:PA X [] se:=fun _ _ _ _ H Q I h=>Calls.spliced_nil ⟨[],H,I,.nil,h⟩
theorem aa (ha:PE X e te)(hr:PA X es t)(hs:starEach (e::es) X.env=(false,eval e X.env)::starEach es X.env:=by rfl):PA X (e::es) (dM te t):=by
 intro pins pos s σ H Q I h
 rw[hs]
 show wpAny _ _ (spliced ((false,eval e X.env)::backTo pos (starEach es X.env))) _ _ s
 refine Calls.spliced_cons (thn (ha s σ H _ I h) fun u s1 ⟨x,H1,I1,r1,q1⟩=>?_)
 exact thn (hr pos s1 σ H1 _ I1 q1) fun us s2 ⟨xs,H2,I2,r2,q2⟩=>⟨x::xs,H2,I2,.cons r1 r2,q2⟩

def vQ (t:TA):TE:=fun σ H Q=>t σ H fun xs H1=>xs.length≤sizeLine∧∀ p,H1 p=none→Q (.ref p) (upd H1 p (.tup xs))
def wP (t:TA):TE:=fun σ H Q=>t σ H fun xs H1=>xs.length≤sizeLine∧∀ p,H1 p=none→Q (.ref p) (upd H1 p (.lst xs))
theorem ed {x1}(h:PA X es t):PE X (.Tuple es x1 pos) (vQ t):=by
 intro pins s σ H Q I hq
 refine wpAny_Tuple_spliced (thn (h pos s σ H _ I hq) fun us s1 ⟨xs,H1,I1,r,z,q⟩=>⟨by rw[←r.length];exact z,?_⟩)
 have hf:H1 s1.heap.objs.size=none:=I1.hok.fresh (Nat.le_refl _)
 refine⟨.ref s1.heap.objs.size,upd H1 s1.heap.objs.size (.tup xs),I1.laid (t':=s1.toks) (fun b u e=>Heap.get?_push_of_some _ e) (Nat.le_refl _) ?_,rfl,q _ hf⟩
 exact⟨z,us,r,⟨_,Heap.get?_push_size _ rfl,rfl,_,rfl⟩⟩
theorem cn (h:PA X es t):PE X (.List es pos) (wP t):=by
 intro pins s σ H Q I hq
 refine wpAny_List_spliced (thn (h pos s σ H _ I hq) fun us s1 ⟨xs,H1,I1,r,z,q⟩=>⟨by rw[←r.length];exact z,?_⟩)
 have hf:H1 s1.heap.objs.size=none:=I1.hok.fresh (Nat.le_refl _)
 refine⟨.ref s1.heap.objs.size,upd H1 s1.heap.objs.size (.lst xs),I1.laid (t':=s1.toks) (fun b u e=>Heap.get?_push_of_some _ e) (Nat.le_refl _) ?_,rfl,q _ hf⟩
 exact⟨z,us,0,r,Heap.get?_push_size _ rfl⟩
end

/-! ### what a def promises -/
abbrev Sp:=List V→Hp→VK→XK→Prop
abbrev CXT:=List Env→Hp→Shared→XK→Value→Shared→Prop

structure oq (P:Program)(w:World)(K:PySem.W.Frag)(mg:Str→Option Value)(base:Heap)(A:Around)(outer:List Env)(s:Shared)(H:Hp):Prop where
 frames:A.frames=some outer
 mod:Mod K mg base
 bs:∀ b o,base.get? b=some o→s.heap.get? b=some o∧H b=none
 bsz:base.objs.size≤s.heap.objs.size
 funs:s.heap.FunFrames base outer
 frf:∀ b∈frs outer,H b=none
 hok:HOk P w H s.heap
 bare:AllBare s.gens
def CE (outer:List Env)(P:Program)(w:World)(H:Hp)(s:Shared)(Q:VK) (u:Value)(s':Shared):Prop :=
 ∃ v H',s'.os=s.os∧AllBare s'.gens∧Un (frs outer) [] H H' s.heap s'.heap∧HOk P w H' s'.heap∧bF v u∧Q v H'
def CR (CX:CXT)(outer:List Env)(P:Program)(w:World)(H:Hp)(s:Shared)(Q:VK)(E:XK)(r:Result)(s':Shared):Prop :=
 match r with
 | .ok (.ret u)=>CE outer P w H s Q u s'
 | .ok _=>False
 | .error e=>CX outer H s E e s'
structure au (P:Program)(w:World)(K:PySem.W.Frag)(mg:Str→Option Value)(base:Heap)(CX:CXT) (k:Nat)(f:Addr)(fd:FuncData)(ps:List Str)(sp:Sp):Prop where
 len:∀ vs H Q E,sp vs H Q E→vs.length=ps.length
 run:∀ (A:Around)(outer:List Env)(s:Shared)(H:Hp)(args:Args)(us:List Value)(vs:List V)(Q:VK)(E:XK),d9 k A→oq P w K mg base A outer s H→BindsTo s fd args (ps.zip us)→Vals vs us→sp vs H Q E →
   codeAny (model P w) A (.call (.ref f) args) (CR CX outer P w H s Q E) s
theorem oq.make {P:Program}{w:World}{K:PySem.W.Frag}{mg:Str→Option Value}{base:Heap}{A:Around}{outer:List Env}{s:Shared}{H:Hp}(e:oq P w K mg base A outer s H)(C:Addr)(us:List Value)(kw:List (Str×Value)) :
 oq P w K mg base (A.under (.builtin "type.__call__" ⟨.ref C::us,kw⟩)) outer s H:=⟨by first | exact e.frames | (simpa [Around.under,Code.envs,Code.isFrame,pushEnvs] using e.frames),e.mod,e.bs,e.bsz,e.funs,e.frf,e.hok,e.bare⟩
section
variable {X:Cx}{pins:List (Addr×Obj)}{σ:St}{H:Hp}{s s':Shared}
theorem Inv.env0 (I:Inv X pins σ H s):oq X.prog X.w X.K X.mg X.base X.A X.stack s H :=
 ⟨I.ok.frames,I.ok.mod,I.bs,Nat.le_trans I.ok.bsz I.sz,I.stack,I.stkFree,I.hok,I.bare⟩
theorem Inv.after {Q:VK}{u:Value}(I:Inv X pins σ H s)(h:CE X.stack X.prog X.w H s Q u s'):EP X pins σ Q u s':=by
 obtain⟨v,H',os,bare,un,hok,r,q⟩:=h
 obtain⟨hh,g,d,t,os'⟩:=s'
 obtain rfl:os'=s.os:=os
 exact⟨v,H',I.call (h':=hh) (g':=g) (d':=d) (t':=t) (ch:=[]) un hok bare (fun b z=>absurd z (by simp)),r,q⟩
end

/-! ### calls -/
def uU (sp:Sp)(dvs:List V)(E:XK)(t:TA):TE:=fun σ H Q=>t σ H fun vs H1=>sp (vs++dvs) H1 Q E
def rF (C:Addr) (m:Str)(sp:Sp)(dvs:List V)(E:XK)(ta:TE)(t:TA):TE:=fun σ H Q=>ta σ H fun x H1=>∃ a dx fs,x=.ref a∧H1 a=some (.ins C dx fs)∧fs.lookup m=none ∧
 t σ H1 fun vs H2=>sp (x::(vs++dvs)) H2 Q E
def uS (C:Addr)(sp:Sp)(dvs:List V)(E:XK)(t:TA):TE:=fun σ H Q=>t σ H fun vs H1=>∀ x dx,H1 x=none→H1 dx=none→dx≠x →
 sp (.ref x::(vs++dvs)) (upd (upd H1 dx (.own x)) x (.ins C dx [])) (fun v H2=>v=.non∧Q (.ref x) H2) E

def aE (K:PySem.W.Frag)(fd:FuncData)(ps:List Str)(ds:List Value):Prop :=
 ∀ (s:Shared)(us:List Value),K.In s.heap→(us++ds).length=ps.length→BindsTo s fd ⟨us,[]⟩ (ps.zip (us++ds))
theorem aE.all {K:PySem.W.Frag}{fd:FuncData}{ps:List Str}(h:∀ us:List Value,us.length=ps.length→bindArgs fd ⟨us,[]⟩=pure (ps.zip us)):aE K fd ps []:=fun s us _ hl=>by
 rw[List.append_nil] at hl ⊢
 exact .of_eq (h us hl)

def fX (CX:CXT)(X:Cx)(E:XK):Prop:=∀ (pins:List (Addr×Obj)) (σ:St)(H:Hp)(s:Shared) (e:Value)(s':Shared),Inv X pins σ H s→CX X.stack H s E e s'→X.xe e s'

section
variable {X:Cx}{CX:CXT}{k:Nat}{f C:Addr}{fd:FuncData}{ps:List Str}{sp:Sp}{dvs:List V}{ds:List Value}{E:XK}{x m:Str}{p pos apos:Pos}{e o:Expr}{es:List Expr}{ta:TE}{t:TA}

theorem oa {pins:List (Addr×Obj)}{σ:St}{H:Hp}{s:Shared}{Q:VK}{us:List Value}{vs:List V}(F:au X.prog X.w X.K X.mg X.base CX k f fd ps sp)(hr:d9 k X.A)(hb:aE X.K fd ps ds)(hd:Vals dvs ds)(hx:fX CX X E)
   (I:Inv X pins σ H s)(r:Vals vs us)(h:sp (vs++dvs) H Q E):wpAny (model X.prog X.w) X.A (call (.ref f) us) (EP X pins σ Q) X.xe s:=by
 have r2:Vals (vs++dvs) (us++ds):=r.append hd
 have hl:(us++ds).length=ps.length:=by rw[←r2.length];exact F.len _ _ _ _ h
 refine wpAny_call (codeAny_mono (F.run X.A X.stack s H ⟨us,[]⟩ (us++ds) (vs++dvs) Q E hr I.env0 (hb s us I.kIn hl) r2 h) fun r s' hq=>?_)
 cases r with
 | error e=>exact hx pins σ H s e s' I hq
 | ok fl =>
   cases fl with
   | ret u=>exact I.after hq
   | next=>exact False.elim hq
   | brk=>exact False.elim hq
   | cont=>exact False.elim hq

theorem ay (F:au X.prog X.w X.K X.mg X.base CX k f fd ps sp)(hr:d9 k X.A)(hg:Gl X x)(hm:X.mg x=some (.ref f))(hk:PySem.W.keepIn X.K (.ref f)=true)(hb:aE X.K fd ps ds)(hd:Vals dvs ds)(hx:fX CX X E)
   (ha:PA X (e::es) t)(hdb:(x==("__debug__":Str))=false:=by decide)(he:starEach (e::es) X.env=(false,eval e X.env)::starEach es X.env:=by rfl)(hpl:(backTo pos (starEach es X.env)).any (·.1)=false:=by rfl) :
   PE X (.Call (.Name x p) (e::es) [] pos) (uU sp dvs E t):=by
 intro pins s σ H Q I h
 refine wpAny_Call_Name_kw (jk I hg hm ?_ hdb)
 refine PySem.W.callWith_K (h₀:=X.base) I.ok.mod.kin hk (thn (ha pos s σ H _ I h) fun us s1 ⟨vs,H1,I1,r,q⟩=>⟨I1.kIn,?_⟩) he hpl
 exact oa F hr hb hd hx I1 r q
theorem bq {pl:Sem Bool}(he:PE X o ta)(c:Cls X.K C)(hm:bW X.K C m f)(F:au X.prog X.w X.K X.mg X.base CX k f fd ps sp)(hr:d9 k X.A)(hb:aE X.K fd ps ds)(hd:Vals dvs ds)(hx:fX CX X E)(ha:PA X (e::es) t)
   (hst:starEach (e::es) X.env=(false,eval e X.env)::starEach es X.env:=by rfl)(hpl:(backTo pos (starEach es X.env)).any (·.1)=false:=by rfl)
   (ht:eval (.Call (.Attribute o m apos) (e::es) [] pos) X.env=(do
     let ov ←eval o X.env
     standAt apos.atName
     let (f,first) ←holding [ov] (getMethod ov m pl)
     callWith pos f first (backTo pos (starEach (e::es) X.env)) (backToKw pos (keywordEach [] X.env))):=by rfl) :
   PE X (.Call (.Attribute o m apos) (e::es) [] pos) (rF C m sp dvs E ta t):=by
 intro pins s σ H Q I h
 refine PySem.W.methodCall_KW (pl:=pl) (thn (he s σ H _ I h) fun u s1 ⟨x,H1,I1,rx,a,dx,fs,ex,ea,l,q⟩=>?_) ht
 subst ex
 obtain rfl:u=Value.ref a:=rx
 refine gZ I1 ea c hm l ?_
 refine PySem.W.callWith_K (first:=[.ref a]) (h₀:=X.base) I.ok.mod.kin hm.kp (thn (ha pos s1 σ H1 _ I1 q) fun us s2 ⟨vs,H2,I2,r,q2⟩=>⟨I2.kIn,?_⟩) hst hpl
 exact oa (us:=.ref a::us) (vs:=.ref a::vs) F hr hb hd hx I2 (.cons rfl r) q2
theorem fh {pl:Sem Bool}(he:PE X o ta)(c:Cls X.K C)(hm:bW X.K C m f)(F:au X.prog X.w X.K X.mg X.base CX k f fd ps sp)(hr:d9 k X.A)(hb:aE X.K fd ps ds)(hd:Vals dvs ds)(hx:fX CX X E)
   (ht:eval (.Call (.Attribute o m apos) [] [] pos) X.env=(do
     let ov ←eval o X.env
     standAt apos.atName
     let (f,first) ←holding [ov] (getMethod ov m pl)
     callWith pos f first (backTo pos (starEach [] X.env)) (backToKw pos (keywordEach [] X.env))):=by rfl) :
   PE X (.Call (.Attribute o m apos) [] [] pos) (rF C m sp dvs E ta se):=by
 intro pins s σ H Q I h
 refine PySem.W.methodCall_KW (pl:=pl) (thn (he s σ H _ I h) fun u s1 ⟨x,H1,I1,rx,a,dx,fs,ex,ea,l,q⟩=>?_) ht
 subst ex
 obtain rfl:u=Value.ref a:=rx
 refine gZ I1 ea c hm l ?_
 exact PySem.W.callWith_K0 (first:=[.ref a]) I1.kIn hm.kp (oa (us:=[.ref a]) (vs:=[.ref a]) F hr hb hd hx I1 (.cons rfl .nil) q)

structure Mk (K:PySem.W.Frag)(C f:Addr):Prop where
 makes:PySem.W.makesIn K C=true
 init:PySem.W.findIn K (.ref C) "__init__"=some (some (.ref f))
 fn:PySem.W.isFn K (.ref f)=true
 kp:PySem.W.keepIn K (.ref C)=true

theorem tL {pins:List (Addr×Obj)}{σ:St}{H:Hp}{s:Shared}{Q:VK}{us:List Value}{vs:List V}(M:Mk X.K C f)(F:au X.prog X.w X.K X.mg X.base CX k f fd ps sp)(hr:d9 (k+1) X.A)(hb:aE X.K fd ps ds)(hd:Vals dvs ds)
   (hx:fX CX X E)(I:Inv X pins σ H s)(r:Vals vs us)
   (h:∀ x dx,H x=none→H dx=none→dx≠x→sp (.ref x::(vs++dvs)) (upd (upd H dx (.own x)) x (.ins C dx [])) (fun v H2=>v=.non∧Q (.ref x) H2) E) :
   wpAny (model X.prog X.w) X.A (call (.ref C) us) (EP X pins σ Q) X.xe s:=by
 have hq:=h (s.heap.objs.size+1) s.heap.objs.size (I.hok.fresh (Nat.le_succ _)) (I.hok.fresh (Nat.le_refl _)) (Nat.ne_of_lt (Nat.lt_succ_self _))
 have I2:=Inv.made (C:=C) I
 have r2:Vals (V.ref (s.heap.objs.size+1)::(vs++dvs)) (Value.ref (s.heap.objs.size+1)::(us++ds)):=.cons rfl (r.append hd)
 have hl:(Value.ref (s.heap.objs.size+1)::us++ds).length=ps.length:=by
   have e:=r2.length
   rw[F.len _ _ _ _ hq] at e
   exact e.symm
 refine wpAny_call (rJ (f:=f) I.kIn M.makes M.init (beq_iff_eq.mp M.fn) (codeAny_mono (F.run _ X.stack _ _ ⟨Value.ref (s.heap.objs.size+1)::us,[]⟩ (Value.ref (s.heap.objs.size+1)::(us++ds)) _ _ E (hr.make C us [])
   (I2.env0.make C us []) (hb _ (Value.ref (s.heap.objs.size+1)::us) I2.kIn hl) r2 hq) fun r s' hq'=>?_))
 cases r with
 | error e=>exact hx pins σ _ _ e s' I2 hq'
 | ok fl =>
   cases fl with
   | ret u =>
     obtain⟨v,H',I3,rv,ev,q3⟩:=I2.after hq'
     subst ev
     exact⟨rv,⟨V.ref (s.heap.objs.size+1),H',I3,rfl,q3⟩⟩
   | next=>exact False.elim hq'
   | brk=>exact False.elim hq'
   | cont=>exact False.elim hq'
theorem lT (M:Mk X.K C f)(F:au X.prog X.w X.K X.mg X.base CX k f fd ps sp)(hr:d9 (k+1) X.A)(hg:Gl X x)(hm:X.mg x=some (.ref C))(hb:aE X.K fd ps ds)(hd:Vals dvs ds)(hx:fX CX X E)
   (ha:PA X (e::es) t)(hdb:(x==("__debug__":Str))=false:=by decide)(he:starEach (e::es) X.env=(false,eval e X.env)::starEach es X.env:=by rfl)(hpl:(backTo pos (starEach es X.env)).any (·.1)=false:=by rfl) :
   PE X (.Call (.Name x p) (e::es) [] pos) (uS C sp dvs E t):=by
 intro pins s σ H Q I h
 refine wpAny_Call_Name_kw (jk I hg hm ?_ hdb)
 refine PySem.W.callWith_K (h₀:=X.base) I.ok.mod.kin M.kp (thn (ha pos s σ H _ I h) fun us s1 ⟨vs,H1,I1,r,q⟩=>⟨I1.kIn,?_⟩) he hpl
 exact tL M F hr hb hd hx I1 r q
end

/-! ### keywords -/
section
variable {X:Cx}{CX:CXT}{k:Nat}{f C:Addr}{fd:FuncData}{ps ks:List Str}{sp:Sp}{E:XK}{x m:Str}{p pos apos kpos:Pos}{e o:Expr}{es:List Expr}{kws:List Keyword}{te ta:TE}{t tk:TA}{nm:Option Str}
variable {g:List Value→List Value→List Value}{gV:List V→List V→List V}
end

/-! ### a def's body keeps its promise -/
structure aG (N P:List Str)(sc:Scope):Prop where
 kind:sc.kind=.function
 co:sc.isCoroutine=false
 gen:sc.isGenerator=false
 nd:N.Nodup
 pre:N.take P.length=P
 par:∀ x∈P,sc.names.lookup x=some .local∨sc.names.lookup x=some .cell
 nofree:∀ y∈sc.names,y.2≠.free

theorem li {kindOf:Str→Option NameKind}{x:Str}:∀ {binds:List (Str×Value)}{m:Str→Option Value},(∀ v,(x,v)∉binds)→bindL kindOf binds m x=m x
 | [],_,_=>rfl
 | (n,v)::r,m,h=>by
   unfold bindL
   rw[li fun w hw=>h w (List.mem_cons_of_mem _ hw)]
   split
   · have:x≠n:=by rintro rfl;exact h v List.mem_cons_self
     simp[this]
   · rfl
theorem kQ {kindOf:Str→Option NameKind}{x:Str}:∀ {binds:List (Str×Value)}{m:Str→Option Value},(∀ v,(x,v)∉binds)→bindC kindOf binds m x=m x
 | [],_,_=>rfl
 | (n,v)::r,m,h=>by
   unfold bindC
   rw[kQ fun w hw=>h w (List.mem_cons_of_mem _ hw)]
   split
   · rfl
   · have:x≠n:=by rintro rfl;exact h v List.mem_cons_self
     simp[this]
theorem kX {kindOf:Str→Option NameKind}{x:Str}{v:Value}:∀ {P:List Str}{vs:List Value}{i:Nat}{m:Str→Option Value},P.Nodup→P[i]?=some x→vs[i]?=some v→kindOf x=some .local →
   bindL kindOf (P.zip vs) m x=some v
 | [],_,_,_,_,h,_,_=>by simp at h
 | _::_,[],_,_,_,_,h,_=>by simp at h
 | p::P,w::vs,0,m,nd,h1,h2,hk=>by
   simp at h1 h2;subst h1;subst h2
   show bindL kindOf ((p,w)::P.zip vs) m p=_
   unfold bindL
   rw[li fun v hv=>(List.nodup_cons.mp nd).1 (List.of_mem_zip hv).1,if_pos hk]
   simp
 | p::P,w::vs,i+1,m,nd,h1,h2,hk=>by
   show bindL kindOf ((p,w)::P.zip vs) m x=_
   unfold bindL
   exact kX (i:=i) (List.nodup_cons.mp nd).2 (by simpa using h1) (by simpa using h2) hk
theorem km {kindOf:Str→Option NameKind}{x:Str}{v:Value}:∀ {P:List Str}{vs:List Value}{i:Nat}{m:Str→Option Value},P.Nodup→P[i]?=some x→vs[i]?=some v→kindOf x≠some .local →
   bindC kindOf (P.zip vs) m x=some v
 | [],_,_,_,_,h,_,_=>by simp at h
 | _::_,[],_,_,_,_,h,_=>by simp at h
 | p::P,w::vs,0,m,nd,h1,h2,hk=>by
   simp at h1 h2;subst h1;subst h2
   show bindC kindOf ((p,w)::P.zip vs) m p=_
   unfold bindC
   rw[kQ fun v hv=>(List.nodup_cons.mp nd).1 (List.of_mem_zip hv).1,if_neg hk]
   simp
 | p::P,w::vs,i+1,m,nd,h1,h2,hk=>by
   show bindC kindOf ((p,w)::P.zip vs) m x=_
   unfold bindC
   exact km (i:=i) (List.nodup_cons.mp nd).2 (by simpa using h1) (by simpa using h2) hk

def start (N:List Str)(vs:List V):St:=vs.map some++List.replicate (N.length - vs.length) none

def cJ (CX:CXT)(P:Program)(w:World)(K:PySem.W.Frag)(mg:Str→Option Value)(base:Heap)(N:List Str) (qual:Str)(scope:Scope)(f:Addr) (cd:Value)(A:Around)(outer:List Env)(s:Shared)(H:Hp)(E:XK):Cx where
 prog:=P
 w:=w
 K:=K
 mg:=mg
 base:=base
 A:=A.deeper (envOfC qual scope s.heap.objs.size f cd)
 N:=N
 s₀:=s
 H₀:=H
 env:=envOfC qual scope s.heap.objs.size f cd
 outer:=outer
 stack:=envOfC qual scope s.heap.objs.size f cd::outer
 ex:=[]
 calm:=true
 fn:=fun _=>true
 pn:=[]
 xe:=fun e s'=>wpAny (model P w) (A.deeper (envOfC qual scope s.heap.objs.size f cd)) (leaving (envOfC qual scope s.heap.objs.size f cd) e) (fun _ s''=>CX outer H s E e s'') (fun e' s''=>CX outer H s E e' s'') s'

theorem m6 {sc:Scope}{n:Nat}{x:Str}(h:sc.names.lookup x=some .cell):∃ c,(cellsFrom n sc.names []).lookup x=some c:=by
 have q:=PySem.W.cellsFrom_some sc.names n [] (.inl h)
 exact Option.isSome_iff_exists.mp q

theorem rb {CX:CXT}{P:Program}{w:World}{K:PySem.W.Frag}{mg:Str→Option Value}{base:Heap}{N ps:List Str}{qual:Str}{scope:Scope}{f:Addr}{cd:Value}{A:Around}{outer:List Env}{s s1:Shared}{H:Hp}{E:XK}{us:List Value}{vs:List V}
   (S:aG N ps scope)(hd:A.handled=none)(e0:oq P w K mg base A outer s H)(hl:vs.length=ps.length)(r:Vals vs us)
   (x:InCallC s s.heap.objs.size (bindL (envOfC qual scope s.heap.objs.size f cd).kindOf (ps.zip us) fun _=>none) (cellsFrom (s.heap.objs.size+1) scope.names []) (bindC (envOfC qual scope s.heap.objs.size f cd).kindOf (ps.zip us) fun _=>none) s1) :
   Inv (cJ CX P w K mg base N qual scope f cd A outer s H E) [] (start N vs) H s1:=by
 have hpl:ps.length≤N.length:=by have:=congrArg List.length S.pre;rw[List.length_take] at this;omega
 obtain⟨h1,tk,rfl,hk⟩:=x.done
 have noA:∀ b:Addr,b∉(cJ CX P w K mg base N qual scope f cd A outer s H E).ex:=fun b z=>absurd (show b∈([]:List Addr) from z) (by simp)
 refine⟨⟨e0.mod,S.kind,rfl,rfl,Nat.le_refl _,fun y z c h1 h2=>?_,fun y hy=>?_,fun y c _ h=>?_,fun _=>hd,Around.frames_deeper e0.frames,.inr ⟨rfl,rfl⟩,fun b z=>absurd z (noA b),e0.bs,e0.bsz,fun b _ _=>noA b,fun b z=>absurd z (noA b),e0.funs,e0.frf⟩,
   rfl,e0.bare,Un.kept hk,⟨_,x.toInCall.ns,fun i y v h1 h2 h3=>?_⟩,fun y c h=>⟨_,x.cell y c h⟩,e0.hok.fresh (Nat.le_refl _),fun y c h=>?_,fun p hp=>absurd (show p∈([]:List (Addr×Obj)) from hp) (by simp),e0.hok.kept hk,?_⟩
 · exact name_of_addr x.apart (PySem.mem_of_lookup h1) (PySem.mem_of_lookup h2)
 · have hy:scope.names.lookup y=some .cell∨scope.names.lookup y=some .free:=hy
   rcases hy with hy | hy
   · exact m6 hy
   · exact absurd rfl (S.nofree _ (PySem.mem_of_lookup hy))
 · exact Nat.le_of_lt (x.above y c (PySem.mem_of_lookup h))
 · have hi:i < vs.length:=by
     unfold start at h2
     by_cases hi:i < vs.length
     · exact hi
     · rw[List.getElem?_append_right (by simpa using hi)] at h2
       rw[List.getElem?_replicate] at h2
       split at h2<;>cases h2
   have ha:vs[i]?=some v:=by
     unfold start at h2
     rw[List.getElem?_append_left (by simpa using hi),List.getElem?_map] at h2
     cases e:vs[i]? with
     | none=>rw[e] at h2;cases h2
     | some a=>rw[e] at h2;cases h2;rfl
   obtain⟨u,hu,rv⟩:=r.get ha
   have hp:ps[i]?=some y:=by
     rw[←S.pre,List.getElem?_take_of_lt (by omega)];exact h1
   have ndP:ps.Nodup:=by rw[←S.pre];exact S.nd.sublist (List.take_sublist _ _)
   refine⟨u,rv,?_⟩
   rcases S.par y (List.mem_of_getElem? hp) with k | k
   · exact .inl ⟨k,kX ndP hp hu k⟩
   · obtain⟨c,e⟩:=m6 (n:=s.heap.objs.size+1) k
     refine .inr ⟨.inl k,c,e,?_⟩
     have q:=x.cell y c e
     rw[km ndP hp hu (by show scope.names.lookup y≠_;rw[k];decide)] at q
     exact q
 · exact e0.hok.fresh (Nat.le_of_lt (x.above y c (PySem.mem_of_lookup h)))
 · unfold start
   show _=N.length
   rw[List.length_append,List.length_map,List.length_replicate]
   omega

theorem uZ {CX:CXT}{P:Program}{w:World}{K:PySem.W.Frag}{mg:Str→Option Value}{base:Heap}{k:Nat}{f:Addr}{name qual:Str}{params:Arguments}{body:List Stmt}{scope:Scope}{dV kV doc pm cdv ct oc:Value}{an od:Option Addr}
   {osl:Array (Option Value)}{N ps:List Str}{sp:Sp}(lk:K.lookup f=some ⟨oc,od,.func (PySem.W.fnOf name qual params body scope dV kV doc pm an cdv ct),osl⟩)(hcd:PySem.W.codeIn K cdv qual=true)(S:aG N ps scope)
   (len:∀ vs H Q E,sp vs H Q E→vs.length=ps.length)
   (hbody:∀ (A:Around)(outer:List Env)(s:Shared)(H:Hp)(vs:List V)(Q:VK)(E:XK),d9 k (A.deeper (envOfC qual scope s.heap.objs.size f cdv))→sp vs H Q E →
     ∃ t,PSs (cJ CX P w K mg base N qual scope f cdv A outer s H E) body t∧t { nx:=fun _ H'=>Q .non H',rt:=Q } (start N vs) H) :
   au P w K mg base CX (k+1) f (PySem.W.fnOf name qual params body scope dV kV doc pm an cdv ct) ps sp:=by
 refine⟨len,fun A outer s H args us vs Q E hr e0 hb r hsp=>?_⟩
 have hl:=len _ _ _ _ hsp
 have KX:K.In s.heap:=e0.mod.kin.keeps fun b o e=>(e0.bs b o e).1
 have lim:s.heap.NoLimit:=e0.mod.nolimit.keeps fun b o e=>(e0.bs b o e).1
 have hkind:∀ y∈ps.zip us,scope.names.lookup y.1=some .local∨(scope.names.lookup y.1=some .cell∧((cellsFrom (s.heap.objs.size+1) scope.names []).lookup y.1).isSome=true):=fun⟨n,v⟩ hy=>by
   rcases S.par n (List.of_mem_zip hy).1 with q | q
   · exact .inl q
   · exact .inr ⟨q,PySem.W.cellsFrom_some _ _ _ (.inl q)⟩
 refine codeAny_call_function hr.depth (KX _ _ lk) rfl S.co S.gen rfl (PySem.W.codeRec_of KX hcd) (hb _ _ _ _ ?_)
 refine wpAny_newFunctionEnv_cells S.kind hkind fun env he s1 x=>?_
 subst he
 refine⟨lim.keeps x.toInCall.keep,codeAny_func ?_⟩
 obtain⟨t,ht,hq⟩:=hbody A outer s H vs Q E (hr.deeper _) hsp
 have I:Inv (cJ CX P w K mg base N qual scope f cdv A outer s H E) [] (start N vs) H s1:=rb S hr.hd e0 hl r x
 refine wpAny_mono (ht s1 (start N vs) H _ I hq) (fun fl s' hs=>?_) fun e s' hs=>hs
 have fin:∀ {σ':St}{H':Hp}{v:V}{u:Value},Inv (cJ CX P w K mg base N qual scope f cdv A outer s H E) [] σ' H' s'→bF v u→Q v H'→CE outer P w H s Q u s' :=
   fun {σ' H' v u} J rv q=>⟨v,H',J.os,J.bare,J.base,J.hok,rv,q⟩
 cases fl with
 | ret u =>
   obtain⟨v,σ',H',J,rv,q⟩:=hs
   exact fin J rv q
 | next =>
   obtain⟨σ',H',J,q⟩:=hs
   exact fin (v:=V.non) (u:=Value.none) J rfl q
 | brk =>
   obtain⟨_,_,_,q⟩:=hs
   exact False.elim q
 | cont =>
   obtain⟨_,_,_,q⟩:=hs
   exact False.elim q
end L2

namespace L2
open PySem PySem.Spec PyProof.Rows
section
variable {X:Cx}{x:Str}{p pos:Pos}{e:Expr}{es:List Expr}{t:TA}{id T:String}{r:List V→Hp→VK→Prop}

def tCB (r:List V→Hp→VK→Prop)(t:TA):TE:=fun σ H Q=>t σ H fun vs H1=>r vs H1 Q
theorem al (hc:cX X (.builtin id) r)(hg:Gl X x)(hm:X.mg x=none)(hv:bootBuiltins x=some (.builtin id))(ha:PA X (e::es) t)(hn:x≠"__name__":=by decide)(hdb:(x==("__debug__":Str))=false:=by decide)
   (he:starEach (e::es) X.env=(false,eval e X.env)::starEach es X.env:=by rfl)(hpl:(backTo pos (starEach es X.env)).any (·.1)=false:=by rfl):PE X (.Call (.Name x p) (e::es) [] pos) (tCB r t):=by
 intro pins s σ H Q I h
 refine wpAny_Call_Name_kw (g5 I hg hm hv ?_ hn hdb)
 exact PyProof.Rows.callWith_builtin1 (thn (ha pos s σ H _ I h) fun us s1 ⟨vs,H1,I1,r1,q1⟩=>hc pins s1 σ H1 vs us Q I1 r1 q1) he hpl
theorem bw (hc:cX X (.type T) r)(hg:Gl X x)(hm:X.mg x=none)(hv:bootBuiltins x=some (.type T))(ha:PA X (e::es) t)(hn:x≠"__name__":=by decide)(hdb:(x==("__debug__":Str))=false:=by decide)
   (he:starEach (e::es) X.env=(false,eval e X.env)::starEach es X.env:=by rfl)(hpl:(backTo pos (starEach es X.env)).any (·.1)=false:=by rfl):PE X (.Call (.Name x p) (e::es) [] pos) (tCB r t):=by
 intro pins s σ H Q I h
 refine wpAny_Call_Name_kw (g5 I hg hm hv ?_ hn hdb)
 exact PyProof.Rows.callWith_type1 (thn (ha pos s σ H _ I h) fun us s1 ⟨vs,H1,I1,r1,q1⟩=>hc pins s1 σ H1 vs us Q I1 r1 q1) he hpl
end
end L2

namespace HT
open PySem PyProof.Rows

section
open PySem.SeqAt
open PySem.AutoSeq1 (wpAny_loadPart')
open PySem.MeetsSeq PySem.MeetsSeq2 PySem.MeetsSeq3

end

section
variable {prog:Program}{w:World}{A:Around}{E:Value→Shared→Prop}{s:Shared}

/-! ### t[a:b],not the whole -/
def sIx (n d:Nat):Option Int→Nat
 | none=>d
 | some v=>if v < 0 then(v+(n:Int)).toNat else min v.toNat n
theorem sIx_nat (n d k:Nat):sIx n d (some (k:Int))=min k n:=by
 show(if(k:Int) < 0 then((k:Int)+(n:Int)).toNat else min (k:Int).toNat n)=min k n
 rw[if_neg (by omega),Int.toNat_natCast]
end
end HT

namespace L2
open PySem PySem.Spec PyProof.Rows

/-! ### the parts of a slice -/
abbrev TO:=St→Hp→(Option Int→Hp→Prop)→Prop
def PO (X:Cx)(e:Option Expr)(t:TO):Prop :=
 ∀ ⦃pins:List (Addr×Obj)⦄ (s:Shared) (σ:St)(H:Hp)(Q:Option Int→Hp→Prop),Inv X pins σ H s→t σ H Q →
   wpAny (model X.prog X.w) X.A (evalPart e X.env) (fun u s'=>∃ o H',Inv X pins σ H' s'∧IsPart u o∧Q o H') X.xe s
def pD:TO:=fun _ H Q=>Q none H
def uT (t:TE):TO:=fun σ H Q=>t σ H fun x H1=>∃ i,x=.int i∧Q (some i) H1

section
variable {X:Cx}{e:Expr}{te:TE}{lo hi:Option Expr}{tl th:TO}{pos p2:Pos}

theorem ji:PO X none pD:=by
 intro pins s σ H Q I h
 rw[evalPart_none]
 exact wpAny_pure ⟨none,H,I,.none,h⟩
theorem gG (h:PE X e te):PO X (some e) (uT te):=by
 intro pins s σ H Q I hw
 rw[evalPart_some]
 refine thn (h s σ H _ I hw) fun u s1 ⟨x,H1,I1,r1,q1⟩=>?_
 obtain⟨i,rfl,q⟩:=q1
 obtain⟨t,rfl⟩:=r1
 exact⟨some i,H1,I1,.int i t,q⟩

def SlR (X:Cx)(r:V→Option Int→Option Int→Hp→VK→Prop):Prop :=
 ∀ (pins:List (Addr×Obj))(s:Shared) (σ:St)(H:Hp) (x:V) (v vl vu:Value)(lo hi:Option Int)(sl:Addr)(Q:VK),Inv X pins σ H s→bF x v→s.heap.IsSliceOf sl vl vu .none→IsPart vl lo→IsPart vu hi→r x lo hi H Q →
   ∃ T id,typeLookup (.type T) "__getitem__"=pure (some (.builtin id))∧s.TypeIs v T∧wpAny (model X.prog X.w) X.A (getItem v (.ref sl)) (EP X pins σ Q) X.xe s
def tSl (r:V→Option Int→Option Int→Hp→VK→Prop)(te:TE)(tl th:TO):TE:=fun σ H Q=>te σ H fun x H1=>tl σ H1 fun l H2=>th σ H2 fun u H3=>r x l u H3 Q
theorem gl {r:V→Option Int→Option Int→Hp→VK→Prop}(hr:SlR X r)(he:PE X e te)(hl:PO X lo tl)(hu:PO X hi th):PE X (.Subscript e (.Slice lo hi none p2) pos) (tSl r te tl th):=by
 intro pins s σ H Q I h
 refine Subscript_ (thn (he s σ H _ I h) fun v s1 ⟨x,H1,I1,r1,q1⟩=>?_)
 refine wpAny_Slice (thn (hl s1 σ H1 _ I1 q1) fun vl s2 ⟨l,H2,I2,pl,q2⟩=>thn (hu s2 σ H2 _ I2 q2) fun vu s3 ⟨u,H3,I3,pu,q3⟩=>?_)
 rw[evalPart_none]
 refine wpAny_pure ?_
 have I4:Inv X pins σ H3 { s3 with heap:=s3.heap.push { cls:=.type "slice",data:=.fields #[vl,vu,.none] } }:=I3.kept (t':=s3.toks) fun b ob q=>Heap.get?_push_of_some _ q
 obtain⟨T,id,hT,ht,hg⟩:=hr pins { s3 with heap:=s3.heap.push { cls:=.type "slice",data:=.fields #[vl,vu,.none] } } σ H3 x v vl vu l u s3.heap.objs.size Q I4 r1 (Heap.IsSliceOf.new ..) pl pu q3
 show wpAny (model X.prog X.w) X.A (subscriptTail e (.Slice lo hi none p2) v (.ref s3.heap.objs.size)) (EP X pins σ Q) X.xe { s3 with heap:=s3.heap.push { cls:=.type "slice",data:=.fields #[vl,vu,.none] } }
 exact tail_any (ops:=[.ref s3.heap.objs.size,v]) ht hT hg (by with_unfolding_all rfl)

def mf (xs:List V)(lo hi:Option Int):List V:=(xs.drop (HT.sIx xs.length 0 lo)).take (HT.sIx xs.length xs.length hi - HT.sIx xs.length 0 lo)
theorem nc (xs:List V)(lo hi:Option Int):(mf xs lo hi).length≤xs.length:=by
 unfold mf
 rw[List.length_take,List.length_drop]
 omega
/-! ### t < u,t+u -/
end
end L2

namespace L2
open PySem PySem.Spec PyProof.Rows

/-! ### places -/
def ixN (n:Nat) (i:Int):Option Nat:=if 0≤i then(if i < n then some i.toNat else none) else if -(n:Int)≤i then some (i+n).toNat else none
def atI {α:Type}(xs:List α) (i:Int):Option α:=(ixN xs.length i).bind fun j=>xs[j]?
theorem lS {n:Nat}{i:Int}{j:Nat}(h:ixN n i=some j):seqIndex? i n=some j∧j < n∧-(n:Int)≤i∧i < n:=by
 unfold ixN at h
 by_cases h0:0≤i
 · rw[if_pos h0] at h
   by_cases h1:i < n
   · rw[if_pos h1] at h
     have e:i.toNat=j:=Option.some.inj h
     exact⟨by rw[seqIndex_of h0 h1,e],by omega,by omega,h1⟩
   · rw[if_neg h1] at h;cases h
 · rw[if_neg h0] at h
   by_cases h1:-(n:Int)≤i
   · rw[if_pos h1] at h
     have e:(i+n).toNat=j:=Option.some.inj h
     exact⟨by rw[seqIndex_neg (by omega) h1,e],by omega,h1,by omega⟩
   · rw[if_neg h1] at h;cases h
theorem l8 {α:Type}{xs:List α}{i:Int}{v:α}(h:atI xs i=some v):∃ j,seqIndex? i xs.length=some j∧xs[j]?=some v∧j < xs.length∧-(xs.length:Int)≤i∧i < xs.length:=by
 unfold atI at h
 cases e:ixN xs.length i with
 | none=>rw[e] at h;cases h
 | some j =>
   rw[e] at h
   obtain⟨h1,h2,h3,h4⟩:=lS e
   exact⟨j,h1,h,h2,h3,h4⟩
theorem eW {α:Type}{xs:List α}{j:Nat}{v:α}(h:xs[j]?=some v):atI xs (j:Int)=some v:=by
 have hj:j < xs.length:=(List.getElem?_eq_some_iff.mp h).1
 have e:ixN xs.length (j:Int)=some j:=by
   unfold ixN
   rw[if_pos (by omega),if_pos (by omega)];simp
 unfold atI;rw[e];exact h
theorem ic {α:Type}(xs:List α)(v:α):atI (xs++[v]) (-1)=some v:=by
 have hl:(xs++[v]).length=xs.length+1:=by simp
 have e:ixN (xs++[v]).length (-1)=some xs.length:=by
   unfold ixN
   rw[hl,if_neg (by decide),if_pos (by omega)]
   congr 1
   omega
 unfold atI
 rw[e]
 show(xs++[v])[xs.length]?=some v
 simp

/-! ### what may be subscripted -/
def uk (b:Expr):Prop:=∀ o i,subscripted b false o i=operate [o,i] (getItem o i)
def IxR (X:Cx)(r:R2):Prop :=
 ∀ (value slice:Expr)(pins:List (Addr×Obj))(s:Shared) (σ:St)(H:Hp) (x y:V) (v u:Value)(Q:VK),Inv X pins σ H s→bF x v→bF y u→r x y H Q →
   subscripted slice false v u=operate [v,u] (getItem v u)→wpAny (model X.prog X.w) X.A (subscriptTail value slice v u) (EP X pins σ Q) X.xe s
def MtR (X:Cx)(id:String)(r:V→List V→Hp→VK→Prop):Prop :=
 ∀ (pins:List (Addr×Obj))(s:Shared) (σ:St)(H:Hp) (x:V)(xs:List V) (v:Value)(us:List Value)(Q:VK),Inv X pins σ H s→bF x v→Vals xs us→r x xs H Q →
   wpAny (model X.prog X.w) X.A (call (.builtin id) (v::us)) (EP X pins σ Q) X.xe s
section
variable {X:Cx}{a b:Expr}{ta tb:TE}{pos:Pos}
theorem bc {r:R2}(hr:IxR X r)(ha:PE X a ta)(hb:PE X b tb)(hs:uk b):PE X (.Subscript a b pos) (tOp r ta tb):=by
 intro pins s σ H Q I h
 exact Subscript_ (vB ha hb I h fun v u s2 x y H2 I2 rx ry q=>hr a b pins s2 σ H2 x y v u Q I2 rx ry q (hs _ _))

def re (K:PySem.W.Frag):R2:=fun x y H Q=>∃ p xs i v,x=.ref p∧y=.int i∧SqL K H p xs∧atI xs i=some v∧Q v H
def wQ (K:PySem.W.Frag):R2:=fun x y H Q=>∃ p xs i v,x=.ref p∧y=.int i∧SqT K H p xs∧atI xs i=some v∧Q v H
def wJ:R2:=fun x y H Q=>∃ z i c,x=.str z∧y=.int i∧z.length≤sizeLine∧atI z.cps.toList i=some c∧Q (.str ⟨#[c]⟩) H
theorem aP:IxR X (re X.K):=by
 intro value slice pins s σ H x y v u Q I rx ry h hs
 obtain⟨p,xs,i,z,rfl,rfl,hq,he,q⟩:=h
 cases rx
 obtain⟨t,rfl⟩:=ry
 obtain⟨its,r,pl,hz⟩:=I.list hq
 obtain⟨j,h1,h2,h3,h4,h5⟩:=l8 he
 obtain⟨w,ew,rw'⟩:=r.get h2
 have hl:=r.length
 have hn:=iG
 have fin:EP X pins σ Q w s:=⟨z,H,I,rw',q⟩
 by_cases h0:0≤i
 · have hj:i.toNat=j:=by
     rw[seqIndex_of h0 h5] at h1
     exact Option.some.inj h1
   exact item_listR pl.isList h0 (by omega) (by rw[hj];simpa using ew) fin hs
 · have hj:(i+(its.toArray.size:Int)).toNat=j:=by
     rw[seqIndex_neg (by omega) h4] at h1
     rw[List.size_toArray,←hl]
     exact Option.some.inj h1
   exact subscriptTail_builtinR (x:=w) pl.isList.typeIs slot_list_getitem.lookup
     (wpAny_getItem_list_neg (Q:=fun r s'=>r=w∧EP X pins σ Q r s') pl.isList (by omega) (by rw[List.size_toArray]<;>omega) (by omega) (by rw[hj];simpa using ew) ⟨rfl,fin⟩) hs
theorem du:IxR X (wQ X.K):=by
 intro value slice pins s σ H x y v u Q I rx ry h hs
 obtain⟨p,xs,i,z,rfl,rfl,hq,he,q⟩:=h
 cases rx
 obtain⟨t,rfl⟩:=ry
 obtain⟨its,r,pl,hz⟩:=I.tuple hq
 obtain⟨j,h1,h2,h3,h4,h5⟩:=l8 he
 obtain⟨w,ew,rw'⟩:=r.get h2
 have hl:=r.length
 have hn:=iG
 have fin:EP X pins σ Q w s:=⟨z,H,I,rw',q⟩
 exact subscriptTail_builtinR (x:=w) pl.typeIs slot_tuple_getitem.lookup
   (getItem_tuple (j:=j) (Q:=fun r s'=>r=w∧EP X pins σ Q r s') pl (by omega) (by omega) (by rw[List.size_toArray,←hl];exact h1) (by simpa using ew) ⟨rfl,fin⟩) hs
theorem mo:IxR X wJ:=by
 intro value slice pins s σ H x y v u Q I rx ry h hs
 obtain⟨z,i,c,rfl,rfl,hz,he,q⟩:=h
 obtain⟨t,rfl⟩:=rx
 obtain⟨t',rfl⟩:=ry
 obtain⟨j,h1,h2,h3,h4,h5⟩:=l8 he
 have hl:z.cps.toList.length=z.length:=by simp[Str.length]
 rw[hl] at h1 h4 h5
 have hn:=iG
 exact tail_any (typeIs_str s z t) slot_str_getitem.lookup (getItem_str (c:=c) (by
   have e1:decide (i < -(2 ^ 63:Int))=false:=decide_eq_false (by omega)
   have e2:decide (i≥2 ^ 63)=false:=decide_eq_false (by omega)
   rw[e1,e2,Bool.or_false]) (by rw[h1];simpa using h2) ⟨.str ⟨#[c]⟩,H,I.tok _,⟨_,rfl⟩,q⟩) hs
/-! ### xs[i]=v,any sign -/
theorem oz (its:List Value) (n j:Nat) (u:Value):Obj.mapSeq (·.setIfInBounds j u) { cls:=.type "list",data:=.seq its.toArray n }={ cls:=.type "list",data:=.seq (its.set j u).toArray n }:=by
 simp[Obj.mapSeq]
theorem Inv.lst {pins:List (Addr×Obj)}{σ:St}{H:Hp}{s:Shared}{p:Addr}{xs:List V}(I:Inv X pins σ H s)(h:H p=some (.lst xs)) :
   ∃ (its:List Value) (n:Nat),Vals xs its∧s.heap.get? p=some { cls:=.type "list",data:=.seq its.toArray n }∧xs.length≤sizeLine:=by
 obtain⟨z,its,n,r,e⟩:=I.hok p _ h
 exact⟨its,n,r,e,z⟩
theorem Inv.lstUpd {pins:List (Addr×Obj)}{σ:St}{H:Hp}{s:Shared}{p:Addr}{xs ys:List V}{its its':List Value}{n n':Nat}{f:Obj→Obj}(I:Inv X pins σ H s)(h:H p=some (.lst xs))
   (ho:s.heap.get? p=some { cls:=.type "list",data:=.seq its.toArray n })(hf:f { cls:=.type "list",data:=.seq its.toArray n }={ cls:=.type "list",data:=.seq its'.toArray n' })(r:Vals ys its')(hz:ys.length≤sizeLine) (t:Nat) :
   Inv X pins σ (upd H p (.lst ys)) { s with heap:=s.heap.update p f,toks:=t }:=by
 have e:(s.heap.update p f).get? p=some { cls:=.type "list",data:=.seq its'.toArray n' }:=by
   rw[Heap.get?_update_self f ho (by rw[hf]<;>rfl),hf]
 refine I.write (x:=p) (e:=p) (by rw[h];trivial) (.inl rfl) (fun b u hb q=>(Heap.get?_update_other _ _ (Ne.symm hb)).trans q) ⟨_,e⟩ ?_
 exact⟨hz,its',n',r,e⟩
def u6:V→V→V→Hp→(Hp→Prop)→Prop:=fun o i v H Q=>∃ p xs k j,o=.ref p∧i=.int k∧H p=some (.lst xs)∧ixN xs.length k=some j∧Q (upd H p (.lst (xs.set j v)))
theorem tI:wK X u6:=by
 intro pins s σ H o i v ov iv u Q I ro ri rv h
 obtain⟨p,xs,k,j,rfl,rfl,hp,hj,q⟩:=h
 cases ro
 obtain⟨t,rfl⟩:=ri
 obtain⟨its,n,r,ho,hz⟩:=I.lst hp
 obtain⟨h1,h2,h3,h4⟩:=lS hj
 have hl:=r.length
 have hn:=iG
 have I':Inv X pins σ (upd H p (.lst (xs.set j v))) { s with heap:=s.heap.update p (Obj.mapSeq (·.setIfInBounds j u)) } :=
   I.lstUpd hp ho (oz its n j u) (r.set rv j) (by rw[List.length_set];exact hz) s.toks
 by_cases h0:0≤k
 · have hk:k.toNat=j:=by
     rw[seqIndex_of h0 h4] at h1
     exact Option.some.inj h1
   exact PySem.W.ki_setAt ho h0 (by omega) (by rw[List.size_toArray,←hl];exact h4) (by rw[hk];exact⟨_,I',q⟩)
 · have hk:(k+(its.toArray.size:Int)).toNat=j:=by
     rw[seqIndex_neg (by omega) h3] at h1
     rw[List.size_toArray,←hl]
     exact Option.some.inj h1
   exact PySem.W.ki_setBack ho (by omega) (by rw[List.size_toArray,←hl];exact h3) (by omega) (by rw[hk];exact⟨_,I',q⟩)

/-! ### slices -/
theorem l5 (lo hi:Option Int) (n:Nat):(sliceBounds lo hi none n).1=((HT.sIx n 0 lo:Nat):Int)∧(sliceBounds lo hi none n).2.1=((HT.sIx n n hi:Nat):Int)∧(sliceBounds lo hi none n).2.2=1:=by
 refine⟨?_,?_,rfl⟩
 · cases lo with
   | none=>simp[sliceBounds,HT.sIx]
   | some i =>
     simp only[sliceBounds,HT.sIx,Option.getD_none,show(1:Int) > 0 by decide,if_true]
     by_cases h:i < 0
     · simp only[h,if_true]<;>omega
     · simp only[h,if_false]<;>omega
 · cases hi with
   | none=>simp[sliceBounds,HT.sIx]
   | some i =>
     simp only[sliceBounds,HT.sIx,Option.getD_none,show(1:Int) > 0 by decide,if_true]
     by_cases h:i < 0
     · simp only[h,if_true]<;>omega
     · simp only[h,if_false]<;>omega
theorem kf (its:List Value)(lo hi:Option Int):slicePick its.toArray lo hi none=((its.drop (HT.sIx its.length 0 lo)).take (HT.sIx its.length its.length hi - HT.sIx its.length 0 lo)).toArray:=by
 obtain⟨h1,h2,h3⟩:=l5 lo hi its.toArray.size
 unfold slicePick
 rw[h1,h2,h3]
 simp only[sliceRange_one,pick_run,List.size_toArray]<;>rfl
def wA (K:PySem.W.Frag):V→Option Int→Option Int→Hp→VK→Prop:=fun x lo hi H Q=>∃ a xs,x=.ref a∧SqL K H a xs∧∀ p,H p=none→Q (.ref p) (upd H p (.lst (mf xs lo hi)))
theorem p9:SlR X (wA X.K):=by
 intro pins s σ H x v vl vu lo hi sl Q I rx hs pl pu h
 obtain⟨a,xs,rfl,hx,q⟩:=h
 cases rx
 obtain⟨its,r,ht,hz⟩:=I.list hx
 have hlen:=r.length
 refine⟨"list",_,slot_list_getitem.lookup,ht.isList.typeIs,?_⟩
 refine wpAny_getItem_list_slice ht.isList hs pl pu .none (by simp) ?_ (by rw[List.size_toArray]<;>omega)
 rw[kf,←hlen]
 refine⟨.ref s.heap.objs.size,_,I.laid (t':=s.toks) (o:=.lst (mf xs lo hi)) (fun b ob q=>Heap.get?_push_of_some _ q) (Nat.le_refl _) ?_,rfl,q _ (I.hok.fresh (Nat.le_refl _))⟩
 exact⟨Nat.le_trans (nc xs lo hi) hz,_,0,(r.drop (HT.sIx xs.length 0 lo)).take (HT.sIx xs.length xs.length hi - HT.sIx xs.length 0 lo),Heap.get?_push_size _ rfl⟩

/-! ### in,not in: flat items -/
def gv:V→Bool
 | .non=>true
 | .bl _=>true
 | .int _=>true
 | .str _=>true
 | _=>false
def eqV:V→V→Bool
 | .non,.non=>true
 | .bl a,.bl b=>a==b
 | .bl a,.int b=>(if a then 1 else 0)==b
 | .int a,.bl b=>a==(if b then 1 else 0)
 | .int a,.int b=>a==b
 | .str a,.str b=>a==b
 | _,_=>false
theorem vw {A:Around}{s:Shared}{y x:V}{u v:Value}(ry:bF y u)(rx:bF x v)(fy:gv y=true)(fx:gv x=true):SeqAt.EqAt A s u v (eqV y x):=by
 cases y with
 | non =>
   cases ry
   cases x with
   | non=>cases rx;exact SeqAt.EqAt.same _
   | bl b=>cases rx;exact SeqAt.EqAt.none_bool b
   | int b=>obtain⟨t,rfl⟩:=rx;exact SeqAt.EqAt.none_int b t
   | str b=>obtain⟨t,rfl⟩:=rx;exact SeqAt.EqAt.none_str b t
   | _=>exact absurd (show false=true from fx) Bool.false_ne_true
 | bl a =>
   cases ry
   cases x with
   | non=>cases rx;exact SeqAt.EqAt.bool_none a
   | bl b=>cases rx;exact SeqAt.EqAt.bool_bool a b
   | int b=>obtain⟨t,rfl⟩:=rx;exact SeqAt.EqAt.bool_int a b t
   | str b=>obtain⟨t,rfl⟩:=rx;exact SeqAt.EqAt.bool_str a b t
   | _=>exact absurd (show false=true from fx) Bool.false_ne_true
 | int a =>
   obtain⟨t',rfl⟩:=ry
   cases x with
   | non=>cases rx;exact SeqAt.EqAt.int_none a t'
   | bl b=>cases rx;exact SeqAt.EqAt.int_bool a t' b
   | int b=>obtain⟨t,rfl⟩:=rx;exact SeqAt.EqAt.int_int a t' b t
   | str b=>obtain⟨t,rfl⟩:=rx;exact SeqAt.EqAt.int_str a t' b t
   | _=>exact absurd (show false=true from fx) Bool.false_ne_true
 | str a =>
   obtain⟨t',rfl⟩:=ry
   cases x with
   | non=>cases rx;exact SeqAt.EqAt.str_none a t'
   | bl b=>cases rx;exact SeqAt.EqAt.str_bool a t' b
   | int b=>obtain⟨t,rfl⟩:=rx;exact SeqAt.EqAt.str_int a t' b t
   | str b=>obtain⟨t,rfl⟩:=rx;exact SeqAt.EqAt.str_str a t' b t
   | _=>exact absurd (show false=true from fx) Bool.false_ne_true
 | _=>exact absurd (show false=true from fy) Bool.false_ne_true
def eqU (x:V) (u:Value):Bool:=match u with
 | .none=>eqV .non x
 | .bool b=>eqV (.bl b) x
 | .int i _=>eqV (.int i) x
 | .str z _=>eqV (.str z) x
 | _=>false
theorem rK {x y:V}{u:Value}(r:bF y u)(f:gv y=true):eqU x u=eqV y x:=by
 cases y with
 | non=>cases r;rfl
 | bl b=>cases r;rfl
 | int i=>obtain⟨t,rfl⟩:=r;rfl
 | str z=>obtain⟨t,rfl⟩:=r;rfl
 | _=>exact absurd (show false=true from f) Bool.false_ne_true
theorem io {x:V}:∀ {xs:List V}{us:List Value},Vals xs us→xs.all gv=true→us.any (eqU x)=xs.any fun y=>eqV y x
 | _,_,.nil,_=>rfl
 | y::xs,u::us,.cons r t,f=>by
   rw[List.all_cons,Bool.and_eq_true] at f
   rw[List.any_cons,List.any_cons,rK r f.1,io t f.2]
theorem gw {A:Around}{s:Shared}{x:V}{v:Value}(rx:bF x v)(fx:gv x=true):∀ {xs:List V}{us:List Value},Vals xs us→xs.all gv=true→∀ u∈us,SeqAt.EqAt A s u v (eqU x u)
 | _,_,.nil,_=>fun u hu=>by cases hu
 | y::xs,u::us,.cons r t,f=>fun u' hu=>by
   rw[List.all_cons,Bool.and_eq_true] at f
   rcases List.mem_cons.mp hu with rfl | hu
   · rw[rK r f.1];exact vw r rx f.1 fx
   · exact gw rx fx t f.2 u' hu
def inV (x:V)(xs:List V):Bool:=xs.any fun y=>eqV y x
def rIn (K:PySem.W.Frag)(neg:Bool):R2:=fun x y H Q=>∃ p xs,y=.ref p∧(SqL K H p xs∨SqT K H p xs)∧gv x=true∧xs.all gv=true∧Q (.bl (if neg then !inV x xs else inV x xs)) H
theorem lB:OpR X (compareOp .In) (rIn X.K false):=by
 intro pins s σ H x y v u Q I rx ry h
 obtain⟨p,xs,rfl,hq,fx,fs,q⟩:=h
 cases ry
 rcases hq with hq | hq
 · obtain⟨its,r,pl,hz⟩:=I.list hq
   refine SeqAt.in_listAt (eqU x) pl.isList (fun w hw=>gw rx fx r fs w (by simpa using hw)) ⟨.bl _,H,I,rfl,?_⟩
   rw[show its.toArray.any (eqU x)=its.any (eqU x) by simp,io r fs]
   exact q
 · obtain⟨its,r,pl,hz⟩:=I.tuple hq
   refine SeqAt.in_tupleAt (eqU x) pl (fun w hw=>gw rx fx r fs w (by simpa using hw)) ⟨.bl _,H,I,rfl,?_⟩
   rw[show its.toArray.any (eqU x)=its.any (eqU x) by simp,io r fs]
   exact q
theorem bV:OpR X (compareOp .NotIn) (rIn X.K true):=by
 intro pins s σ H x y v u Q I rx ry h
 obtain⟨p,xs,rfl,hq,fx,fs,q⟩:=h
 cases ry
 rcases hq with hq | hq
 · obtain⟨its,r,pl,hz⟩:=I.list hq
   refine SeqAt.notIn_listAt (eqU x) pl.isList (fun w hw=>gw rx fx r fs w (by simpa using hw)) ⟨.bl _,H,I,rfl,?_⟩
   rw[show its.toArray.any (eqU x)=its.any (eqU x) by simp,io r fs]
   exact q
 · obtain⟨its,r,pl,hz⟩:=I.tuple hq
   refine SeqAt.notIn_tupleAt (eqU x) pl (fun w hw=>gw rx fx r fs w (by simpa using hw)) ⟨.bl _,H,I,rfl,?_⟩
   rw[show its.toArray.any (eqU x)=its.any (eqU x) by simp,io r fs]
   exact q
/-! ### len,list(x),tuple(x) of any list or tuple that is read -/
theorem ao:cX X (.builtin "len") (fun xs H Q=>∃ p ys,xs=[.ref p]∧(SqL X.K H p ys∨SqT X.K H p ys)∧Q (.int ys.length) H):=by
 intro pins s σ H xs us Q I r h
 obtain⟨p,ys,rfl,hq,q⟩:=h
 obtain⟨u,rfl,rx⟩:=ef r
 cases rx
 have hn:=iG
 rcases hq with hq | hq
 · obtain⟨its,r',pl,hz⟩:=I.list hq
   have hlen:=r'.length
   exact Calls.call_len_list pl.isList (by simp only[List.size_toArray]<;>omega) ⟨.int ys.length,H,I.tok _,⟨s.toks+1,by rw[List.size_toArray,hlen]⟩,q⟩
 · obtain⟨its,r',pl,hz⟩:=I.tuple hq
   have hlen:=r'.length
   exact len_tuple pl (by simp only[List.size_toArray]<;>omega) ⟨.int ys.length,H,I.tok _,⟨s.toks+1,by rw[List.size_toArray,hlen]⟩,q⟩
theorem ii:cX X (.builtin "len") (fun xs H Q=>∃ z,xs=[.str z]∧z.length≤sizeLine∧Q (.int z.length) H):=by
 intro pins s σ H xs us Q I r h
 obtain⟨z,rfl,hz,q⟩:=h
 obtain⟨u,rfl,t,rfl⟩:=ef r
 have hn:=iG
 exact len_str (by omega) ⟨.int z.length,H,I.tok _,⟨_,rfl⟩,q⟩
theorem fR:cX X (.type "list") (fun xs H Q=>∃ p ys,xs=[.ref p]∧(SqL X.K H p ys∨SqT X.K H p ys)∧∀ l,H l=none→Q (.ref l) (upd H l (.lst ys))):=by
 intro pins s σ H xs us Q I r h
 obtain⟨p,ys,rfl,hq,q⟩:=h
 obtain⟨u,rfl,rx⟩:=ef r
 cases rx
 have fin:∀ (its:List Value),Vals ys its→ys.length≤sizeLine→∀ (h':Heap) (c':Nat),(∀ b o',s.heap.get? b=some o'→h'.get? b=some o') →
     h'.get? s.heap.objs.size=some { cls:=.type "list",dict:=none,data:=.seq its.toArray c',slots:=#[] }→EP X pins σ Q (.ref s.heap.objs.size) { s with heap:=h' }:=fun its r' hz h' c' kp e =>
   ⟨.ref s.heap.objs.size,_,I.laid (t':=s.toks) kp (Nat.le_refl _) (show cg X.prog X.w _ h' _ (.lst ys) from⟨hz,its,c',r',e⟩),rfl,q _ (I.hok.fresh (Nat.le_refl _))⟩
 rcases hq with hq | hq
 · obtain⟨its,r',pl,hz⟩:=I.list hq
   have hlen:=r'.length
   obtain⟨o,ho,hc,n,hd⟩:=pl.isList
   exact call_list_seq p (.inl rfl) ho hc hd (fun h' c' kp e=>fin its r' hz h' c' kp e) (by simp only[List.size_toArray]<;>omega)
 · obtain⟨its,r',pl,hz⟩:=I.tuple hq
   have hlen:=r'.length
   obtain⟨o,ho,hc,n,hd⟩:=pl
   exact call_list_seq p (.inr rfl) ho hc hd (fun h' c' kp e=>fin its r' hz h' c' kp e) (by simp only[List.size_toArray]<;>omega)
theorem gP:cX X (.type "tuple") (fun xs H Q=>∃ p ys,xs=[.ref p]∧((SqL X.K H p ys∧∀ l,H l=none→Q (.ref l) (upd H l (.tup ys)))∨(SqT X.K H p ys∧Q (.ref p) H))):=by
 intro pins s σ H xs us Q I r h
 obtain⟨p,ys,rfl,h⟩:=h
 obtain⟨u,rfl,rx⟩:=ef r
 cases rx
 rcases h with ⟨hq,q⟩ | ⟨hq,q⟩
 · obtain⟨its,r',pl,hz⟩:=I.list hq
   have hlen:=r'.length
   refine call_tuple_list pl.isList (fun h' kp=>?_) (by simp only[List.size_toArray]<;>omega)
   have I1:Inv X pins σ H { s with heap:=h' }:=I.kept (t':=s.toks) kp
   have I2:Inv X pins σ (upd H h'.objs.size (.tup ys)) { s with heap:=h'.push { cls:=.type "tuple",data:=.seq its.toArray } } :=
     I1.laid (t':=s.toks) (fun b o e=>Heap.get?_push_of_some _ e) (Nat.le_refl _) (show cg X.prog X.w _ _ _ (.tup ys) from⟨hz,its,r',IsTup.new _ _⟩)
   exact⟨.ref h'.objs.size,_,I2,rfl,q _ (I1.hok.fresh (Nat.le_refl _))⟩
 · obtain⟨its,r',pl,hz⟩:=I.tuple hq
   exact call_tuple_same pl ⟨.ref p,H,I,rfl,q⟩

/-! ### the call of a builtin's method: o.m(..) -/
def tyV (K:PySem.W.Frag)(T:String) (x:V)(H:Hp):Prop:=match x with
 | .str _=>T="str"
 | .int _=>T="int"
 | .ref p=>(T="list"∧∃ xs,SqL K H p xs)∨(T="tuple"∧∃ o,K.lookup p=some o∧o.cls=.type "tuple"∧o.dict=none) ∨
     (T="dict"∧((∃ kvs,H p=some (.dK kvs))∨∃ kvs,H p=some (.dT kvs)))∨(T="set"∧∃ S n,H p=some (.set S n))
 | _=>False
theorem vH {pins:List (Addr×Obj)}{σ:St}{H:Hp}{s:Shared}{T:String}{x:V}{v:Value}(I:Inv X pins σ H s)(r:bF x v)(ty:tyV X.K T x H) :
   s.TypeIs v T∧∀ a,v=.ref a→∃ ob,s.heap.get? a=some ob∧ob.dict=none:=by
 cases x with
 | str z =>
   obtain⟨t,rfl⟩:=r
   cases (show T="str" from ty)
   exact⟨typeIs_str s z t,fun _ e=>nomatch e⟩
 | int i =>
   obtain⟨t,rfl⟩:=r
   cases (show T="int" from ty)
   exact⟨typeIs_int s i t,fun _ e=>nomatch e⟩
 | ref p =>
   cases r
   rcases ty with ⟨rfl,xs,hq⟩ | ⟨rfl,o,hk,hc,hd⟩ | ⟨rfl,hk⟩ | ⟨rfl,S,n,hk⟩
   · obtain⟨its,_,pl,_⟩:=I.list hq
     refine⟨pl.isList.typeIs,fun a e=>?_⟩
     cases e
     obtain⟨o,n,e,c,hd,_⟩:=pl
     exact⟨o,e,hd⟩
   · refine⟨⟨o,I.kIn p o hk,hc⟩,fun a e=>?_⟩
     cases e
     exact⟨o,I.kIn _ o hk,hd⟩
   · have z:∃ o,s.heap.get? p=some o∧o.ExactDict:=by
       rcases hk with ⟨kvs,hk⟩ | ⟨kvs,hk⟩
       · obtain⟨_,_,_,_,o,_,_,e,ex,_⟩:=I.hok p _ hk
         exact⟨o,e,ex⟩
       · obtain⟨_,_,_,_,o,_,_,e,ex,_⟩:=I.hok p _ hk
         exact⟨o,e,ex⟩
     obtain⟨o,e,ex⟩:=z
     refine⟨⟨o,e,ex.1⟩,fun a e2=>?_⟩
     cases e2
     exact⟨o,e,ex.2.1⟩
   · obtain⟨o,_,_,_,e,ex,_⟩:=I.hok p _ hk
     refine⟨⟨o,e,ex.1⟩,fun a e2=>?_⟩
     cases e2
     exact⟨o,e,ex.2.1⟩
 | _=>exact False.elim ty
def xf (K:PySem.W.Frag)(T:String)(r:V→List V→Hp→VK→Prop)(to:TE):TE:=fun σ H Q=>to σ H fun x H1=>tyV K T x H1∧r x [] H1 Q
def tBM (K:PySem.W.Frag)(T:String)(r:V→List V→Hp→VK→Prop)(to:TE)(t:TA):TE:=fun σ H Q=>to σ H fun x H1=>tyV K T x H1∧t σ H1 fun xs H2=>r x xs H2 Q
variable {o e:Expr}{es:List Expr}{to:TE}{t:TA}{name:Str}{apos cpos:Pos}{T id:String}{r:V→List V→Hp→VK→Prop}
theorem gc (pa:PlainAttrs T)(slot:Slot T name id)(hty:typeOf (.builtin id)=pure (.type "method_descriptor"))(hm:MtR X id r)(ho:PE X o to)(ha:PA X (e::es) t)
   (hbase:attributeBase o name X.env (eval o X.env)=eval o X.env:=by rfl)
   (hfew:((backTo cpos (starEach (e::es) X.env)).all (fun x=>!x.1)&&(backToKw cpos (keywordEach [] X.env)).all (fun x=>x.1.isSome)
     && decide ((e::es).length+([]:List Keyword).length+(if([]:List Keyword).isEmpty then 0 else 1) < 30))=true:=by rfl)
   (hline:(apos.endLine==cpos.line)=true:=by rfl)(hs:starEach (e::es) X.env=(false,eval e X.env)::starEach es X.env:=by rfl)(hplain:(backTo cpos (starEach es X.env)).any (·.1)=false:=by rfl) :
   PE X (.Call (.Attribute o name apos) (e::es) [] cpos) (tBM X.K T r to t):=by
 intro pins s σ H Q I h
 refine wpAny_Call_method_late hbase hfew hline rfl (thn (ho s σ H _ I h) fun v s1 ⟨x,H1,I1,r1,ty,q1⟩=>?_)
 obtain⟨h1,h2⟩:=vH I1 r1 ty
 refine⟨T,id,pa,slot,hty,h1,h2,?_⟩
 have hA:=ha cpos s1 σ H1 _ I1 q1
 rw[hs] at hA ⊢
 refine Calls.callWith_builtin (by show(false||(backTo cpos (starEach es X.env)).any (·.1))=false;rw[hplain]<;>rfl) (Calls.evalArgs_plain ?_)
 exact thn hA fun us s2 ⟨vs,H2,I2,r2,q2⟩=>hm pins s2 σ H2 x vs v us Q I2 r1 r2 q2
/- xs.append(e),list.index on a module's tuple .. are MtR facts of 06m -/
end
end L2

namespace L2
open PySem PySem.Spec PyProof.Rows

def MtM (X:Cx)(id:String)(r:V→List V→Hp→VK→Prop):Prop :=
 ∀ (pins:List (Addr×Obj))(s:Shared) (σ:St)(H:Hp) (x:V)(xs:List V) (v:Value)(us:List Value)(Q:VK),Inv X pins σ H s→bF x v→Vals xs us→r x xs H Q →
   wpAny (model X.prog X.w) X.A (call (.builtin id) (v::us)) (EP X pins σ Q) X.xe s

/-! ### lists of values -/
theorem Vals.one:∀ {x:V}{us:List Value},Vals [x] us→∃ u,us=[u]∧bF x u
 | _,_,.cons r .nil=>⟨_,rfl,r⟩
theorem Vals.two:∀ {x y:V}{us:List Value},Vals [x,y] us→∃ u v,us=[u,v]∧bF x u∧bF y v
 | _,_,_,.cons r (.cons q .nil)=>⟨_,_,rfl,r,q⟩
theorem Vals.eraseIdx:∀ {xs:List V}{us:List Value} (i:Nat),Vals xs us→Vals (xs.eraseIdx i) (us.eraseIdx i)
 | _,_,_,.nil=>.nil
 | _,_,0,.cons _ t=>t
 | _,_,i+1,.cons r t=>.cons r (Vals.eraseIdx i t)
theorem Vals.rep {xs:List V}{us:List Value}(h:Vals xs us):∀ k:Nat,Vals (List.replicate k xs).flatten (List.replicate k us).flatten
 | 0=>.nil
 | k+1=>by
   rw[List.replicate_succ,List.replicate_succ,List.flatten_cons,List.flatten_cons]
   exact Vals.append h (Vals.rep h k)
theorem kx {α:Type}:∀ (l:List α) (i:Nat),(l.eraseIdx i).length≤l.length
 | [],_=>Nat.le_refl _
 | _::_,0=>Nat.le_succ _
 | _::r,i+1=>Nat.succ_le_succ (kx r i)
theorem kn (its:List Value):∀ (k:Nat)(acc:List Value),
   List.foldl (fun x1 x2=>x1++x2) acc.toArray (List.replicate k its.toArray)=(acc++(List.replicate k its).flatten).toArray
 | 0,acc=>by simp
 | k+1,acc=>by
   have e:acc.toArray++its.toArray=(acc++its).toArray:=by simp
   have e2:(acc++its)++(List.replicate k its).flatten=acc++(List.replicate (k+1) its).flatten:=by
     rw[List.replicate_succ,List.flatten_cons,List.append_assoc]
   rw[←e2,←kn its k (acc++its),←e,List.replicate_succ,List.foldl_cons]

section
variable {X:Cx}{pins:List (Addr×Obj)}{σ:St}{H:Hp}{s:Shared}{l b:Addr}{xs ys zs:List V}

/-! ### the two steps: a tracked list is rewritten,a new list is laid -/
theorem Inv.lset {its its':List Value}{n:Nat}{f:Array Value→Array Value}{t':Nat}(I:Inv X pins σ H s)(hH:H l=some (.lst xs))
   (e:s.heap.get? l=some { cls:=.type "list",data:=.seq its.toArray n })(hf:f its.toArray=its'.toArray)(hv:Vals ys its')(hz:ys.length≤sizeLine) :
   Inv X pins σ (upd H l (.lst ys)) { s with heap:=s.heap.update l (Obj.mapSeq f),toks:=t' }:=by
 have q:=PySem.IsL.update e f
 rw[hf] at q
 refine I.write (x:=l) (e:=l) (by rw[hH];exact trivial) (.inl rfl) (fun b' u hb hu=>(Heap.get?_update_other s.heap (Obj.mapSeq f) (Ne.symm hb)).trans hu) ⟨_,q⟩ ?_
 exact⟨hz,its',_,hv,q⟩
theorem Inv.lnew {its:List Value}{t':Nat}(I:Inv X pins σ H s)(hv:Vals ys its)(hz:ys.length≤sizeLine) :
   Inv X pins σ (upd H s.heap.objs.size (.lst ys)) { s with heap:=s.heap.push { cls:=.type "list",data:=.seq its.toArray },toks:=t' } :=
 I.laid (fun _ _ q=>Heap.get?_push_of_some _ q) (Nat.le_refl _) ⟨hz,its,0,hv,Heap.get?_push_size _ rfl⟩
theorem Inv.fresh (I:Inv X pins σ H s):H s.heap.objs.size=none:=I.hok.fresh (Nat.le_refl _)
theorem Inv.lstM (I:Inv X pins σ H s)(hH:H l=some (.lst xs)):xs.length≤sizeLine∧∃ (its:List Value) (n:Nat),Vals xs its∧xs.length=its.length∧s.heap.get? l=some { cls:=.type "list",data:=.seq its.toArray n }:=by
 obtain⟨z,its,n,r,e⟩:=I.hok l _ hH
 exact⟨z,its,n,r,r.length,e⟩

theorem nK {n:Nat}(h:n≤sizeLine):Builtin.List.listTooLong n=false:=by
 unfold Builtin.List.listTooLong
 exact decide_eq_false (by omega)
end

section
variable {X:Cx}

/-! ### methods -/
def pI:V→List V→Hp→VK→Prop:=fun x vs H Q=>∃ l xs y,x=.ref l∧vs=[y]∧H l=some (.lst xs)∧xs.length < sizeLine∧Q .non (upd H l (.lst (xs++[y])))
theorem cr:MtM X "list.append" pI:=by
 intro pins s σ H x vs v us Q I rx rv h
 obtain⟨l,xs,y,rfl,rfl,hH,hz,q⟩:=h
 cases rx
 obtain⟨u,rfl,ru⟩:=rv.one
 obtain⟨z,its,n,r,hl,e⟩:=I.lstM hH
 refine call_meets F.slot_list_append ⟨_,e,rfl⟩ F.entry_list_append (F.args_list_append_2 _ _) (PySem.list_append l its.toArray n u (by rw[List.size_toArray];omega)) ⟨e,?_⟩
 refine⟨.non,_,I.lset (its':=its++[u]) hH e (by simp) (r.append (.cons ru .nil)) ?_,rfl,q⟩
 rw[List.length_append,List.length_singleton]
 omega

def qa:V→List V→Hp→VK→Prop:=fun x vs H Q=>∃ l b xs zs,x=.ref l∧vs=[.ref b]∧H l=some (.lst xs)∧H b=some (.lst zs)∧xs.length+zs.length≤sizeLine∧Q .non (upd H l (.lst (xs++zs)))
theorem wk:MtM X "list.extend" qa:=by
 intro pins s σ H x vs v us Q I rx rv h
 obtain⟨l,b,xs,zs,rfl,rfl,hH,hB,hz,q⟩:=h
 cases rx
 obtain⟨u,rfl,ru⟩:=rv.one
 cases ru
 obtain⟨z,its,n,r,hl,e⟩:=I.lstM hH
 obtain⟨z2,its2,n2,r2,hl2,e2⟩:=I.lstM hB
 have hsz:its.toArray.size+its2.toArray.size≤sizeLine:=by rw[List.size_toArray,List.size_toArray];omega
 have hlong:¬(!its.toArray.isEmpty&&Builtin.List.listTooLong (its.toArray.size+its2.toArray.size))=true:=by
   rw[nK hsz,Bool.and_false]
   exact Bool.false_ne_true
 refine call_meets F.slot_list_extend ⟨_,e,rfl⟩ F.entry_list_extend (F.args_list_extend_2 _ _)
   (AutoSeq1.list_extend_list_list_0 l its.toArray n b its2.toArray n2 hlong (by rw[List.size_toArray];omega) (by omega)) ⟨e,e2,?_⟩
 refine⟨.non,_,I.lset (its':=its++its2) hH e (by simp) (r.append r2) ?_,rfl,q⟩
 rw[List.length_append]
 omega

def tG:V→List V→Hp→VK→Prop:=fun x vs H Q=>∃ l xs i k y,x=.ref l∧vs=[.int i]∧H l=some (.lst xs)∧-(2 ^ 63)≤i∧i < 2 ^ 63∧seqIndex? i xs.length=some k∧xs[k]?=some y∧Q y (upd H l (.lst (xs.eraseIdx k)))
theorem sH:MtM X "list.pop" tG:=by
 intro pins s σ H x vs v us Q I rx rv h
 obtain⟨l,xs,i,k,y,rfl,rfl,hH,h1,h2,hk,hy,q⟩:=h
 cases rx
 obtain⟨u,rfl,ru⟩:=rv.one
 obtain⟨t,rfl⟩:=ru
 obtain⟨z,its,n,r,hl,e⟩:=I.lstM hH
 obtain⟨w,hw,rw'⟩:=r.get hy
 refine call_meets F.slot_list_pop ⟨_,e,rfl⟩ F.entry_list_pop (F.args_list_pop_2 _ _)
   (MeetsSeq.list_pop_at l its.toArray n i t k w (fitsIndex_both h1 h2) (by rw[List.size_toArray,←hl];exact hk) (by rw[←Array.getElem?_toList];exact hw) (by rw[List.size_toArray];omega)) ⟨e,?_⟩
 refine⟨y,_,I.lset (its':=its.eraseIdx k) hH e ?_ (r.eraseIdx k) ?_,rw',q⟩
 · show its.toArray.eraseIdxIfInBounds k=(its.eraseIdx k).toArray
   rw[List.eraseIdxIfInBounds_toArray]
 · have:=kx xs k
   omega

/-! ### list+list,list += list,list*int -/
def xi:R2:=fun x y H Q=>∃ l b xs zs,x=.ref l∧y=.ref b∧H l=some (.lst xs)∧H b=some (.lst zs)∧xs.length+zs.length≤sizeLine∧∀ p,H p=none→Q (.ref p) (upd H p (.lst (xs++zs)))
theorem vv:OpR X (binaryOp .Add) xi:=by
 intro pins s σ H x y v u Q I rx ry h
 obtain⟨l,b,xs,zs,rfl,rfl,hH,hB,hz,q⟩:=h
 cases rx
 cases ry
 obtain⟨z,its,n,r,hl,e⟩:=I.lstM hH
 obtain⟨z2,its2,n2,r2,hl2,e2⟩:=I.lstM hB
 refine PySem.P.add_list e e2 ?_ (by rw[List.size_toArray,List.size_toArray];omega)
 have ea:its.toArray++its2.toArray=(its++its2).toArray:=by simp
 rw[ea]
 exact⟨.ref _,_,I.lnew (t':=s.toks) (r.append r2) (by rw[List.length_append];omega),rfl,q _ I.fresh⟩
def wm:R2:=fun x y H Q=>∃ l k xs,x=.ref l∧y=.int k∧H l=some (.lst xs)∧-(2 ^ 63)≤k∧k < 2 ^ 63∧xs.length*k.toNat≤sizeLine ∧
 ∀ p,H p=none→Q (.ref p) (upd H p (.lst (List.replicate k.toNat xs).flatten))
theorem uC {α:Type}(xs:List α) (k:Nat):(List.replicate k xs).flatten.length=k*xs.length:=by
 induction k with
 | zero=>simp
 | succ k ih=>rw[List.replicate_succ,List.flatten_cons,List.length_append,ih,Nat.succ_mul,Nat.add_comm]
theorem vW:OpR X (binaryOp .Mult) wm:=by
 intro pins s σ H x y v u Q I rx ry h
 obtain⟨l,k,xs,rfl,rfl,hH,h1,h2,hz,q⟩:=h
 cases rx
 obtain⟨t,rfl⟩:=ry
 obtain⟨z,its,n,r,hl,e⟩:=I.lstM hH
 have hlen:its.toArray.size*k.toNat≤sizeLine:=by rw[List.size_toArray,←hl];exact hz
 have hcap:¬its.toArray.size*k.toNat > (2 ^ 63 - 1) / 8:=by
   have:(sizeLine:Nat)≤(2 ^ 63 - 1) / 8:=by decide
   omega
 have hfit:¬(!Builtin.List.listFitsIndex k)=true:=by
   rw[fitsIndex_both h1 h2]
   exact Bool.false_ne_true
 have hlong:¬Builtin.List.listTooLong (its.toArray.size*k.toNat)=true:=by
   rw[nK hlen]
   exact Bool.false_ne_true
 have hnew:List.foldl (fun x1 x2=>x1++x2) #[] (List.replicate (if its.toArray.isEmpty=true then 0 else k.toNat) its.toArray)=(List.replicate k.toNat its).flatten.toArray:=by
   have f0:∀ m:Nat,List.foldl (fun x1 x2=>x1++x2) #[] (List.replicate m its.toArray)=(List.replicate m its).flatten.toArray:=fun m=>by
     have:=kn its m []
     rw[List.nil_append] at this
     exact this
   rw[f0]
   cases its with
   | nil=>simp
   | cons a r'=>rw[if_neg (by simp)]
 refine wpAny_binaryOp_repeat_ref (T:="list") (U:="int") (by decide) ⟨_,e,rfl⟩ (fun s'=>typeIs_int s' k t) noFill_list_mul F.fills_int_mul F.slot_int_rmul repeat_list F.slot_int_index.lookup
   (call_meets F.slot_int_rmul (typeIs_int s k t) F.entry_int_rmul (F.args_int_rmul_2 _ _) (int___rmul___int_list k t l its.toArray n)
     ⟨e,rfl,⟨_,e,rfl⟩,call_meets F.slot_list_mul ⟨_,e,rfl⟩ F.entry_list_mul (F.args_list_mul_2 _ _) (AutoListH.list___mul___list_int_3 l its.toArray n k t hfit hcap hlong) ⟨e,?_⟩⟩)
 rw[hnew]
 exact⟨.ref _,_,I.lnew (t':=s.toks) (r.rep k.toNat) (by rw[uC,Nat.mul_comm];exact hz),rfl,q _ I.fresh⟩

/-! ### del xs[i] -/
end

/-! ### xs[a:b]=ys -/
section
variable {prog:Program}{w:World}{A:Around}{E:Value→Shared→Prop}{s:Shared}
set_option maxRecDepth 100000 in
end

section
variable {X:Cx}
end
end L2

namespace L2
open PySem PySem.Spec PyProof.Rows

/-! ### lists of pairs as tables -/
section
variable {κ:Type} [DecidableEq κ]
def bZ (kvs:List (κ×V))(k:κ):Option V:=(kvs.find? fun kv=>decide (kv.1=k)).map (·.2)
def cK (kvs:List (κ×V))(k:κ) (v:V):List (κ×V) :=
 if(kvs.any fun kv=>decide (kv.1=k))=true then kvs.map (fun kv=>if kv.1=k then(kv.1,v) else kv) else kvs++[(k,v)]
theorem cF {p:κ×V}{r:List (κ×V)}{k:κ}(e:p.1=k):bZ (p::r) k=some p.2:=by simp[bZ,List.find?_cons,e]
theorem cw {p:κ×V}{r:List (κ×V)}{k:κ}(e:¬p.1=k):bZ (p::r) k=bZ r k:=by simp[bZ,List.find?_cons,e]
theorem fe (k:κ):∀ kvs:List (κ×V),(kvs.any fun kv=>decide (kv.1=k))=(bZ kvs k).isSome
 | []=>rfl
 | p::r=>by
   rw[List.any_cons]
   by_cases e:p.1=k
   · simp only[cF e,decide_eq_true e,Bool.true_or,Option.isSome_some]
   · rw[cw e,decide_eq_false e,Bool.false_or];exact fe k r
theorem nF (k j:κ) (y:V):∀ kvs:List (κ×V),bZ (kvs.map fun kv=>if kv.1=k then(kv.1,y) else kv) j=(bZ kvs j).map fun x=>if j=k then y else x
 | []=>rfl
 | p::r=>by
   have ih:=nF k j y r
   rw[List.map_cons]
   by_cases h:p.1=k
   · rw[if_pos h]
     by_cases e:p.1=j
     · rw[cF (p:=(p.1,y)) e,cF e,Option.map_some,if_pos (e.symm.trans h)]
     · rw[cw (p:=(p.1,y)) e,cw e,ih]
   · rw[if_neg h]
     by_cases e:p.1=j
     · rw[cF (p:=p) e,cF e,Option.map_some,if_neg (fun z=>h (e.trans z))]
     · rw[cw (p:=p) e,cw e,ih]
theorem iq (k j:κ) (y:V):∀ kvs:List (κ×V),bZ kvs k=none→bZ (kvs++[(k,y)]) j=if j=k then some y else bZ kvs j
 | [],_=>by
   by_cases e:k=j
   · rw[if_pos e.symm];exact cF (p:=(k,y)) e
   · rw[if_neg (fun z=>e z.symm)];exact cw (p:=(k,y)) e
 | p::r,hn=>by
   rw[List.cons_append]
   have hk:¬p.1=k:=fun z=>by rw[cF z] at hn;cases hn
   rw[cw hk] at hn
   have ih:=iq k j y r hn
   by_cases e:p.1=j
   · rw[cF e,cF e,if_neg (fun z=>hk (e.trans z))]
   · rw[cw e,cw e,ih]
theorem jp (kvs:List (κ×V))(k j:κ) (y:V):bZ (cK kvs k y) j=if j=k then some y else bZ kvs j:=by
 unfold cK
 by_cases a:(kvs.any fun kv=>decide (kv.1=k))=true
 · rw[if_pos a,nF]
   rw[fe] at a
   by_cases e:j=k
   · obtain⟨x,hx⟩:=Option.isSome_iff_exists.mp a
     rw[if_pos e,e,hx,Option.map_some,if_pos rfl]
   · rw[if_neg e]
     cases bZ kvs j with
     | none=>rfl
     | some x=>rw[Option.map_some,if_neg e]
 · rw[if_neg a]
   refine iq k j y kvs ?_
   rw[fe] at a
   cases q:bZ kvs k with
   | none=>rfl
   | some x=>rw[q] at a;exact(a rfl).elim
theorem gx (kvs:List (κ×V))(k:κ) (v:V):(cK kvs k v).length≤kvs.length+1:=by
 unfold cK
 split
 · rw[List.length_map];omega
 · rw[List.length_append,List.length_cons,List.length_nil];omega
theorem dH {kvs:List (κ×V)}{k:κ} (v:V)(h:bZ kvs k=none):cK kvs k v=kvs++[(k,v)]:=by
 unfold cK
 rw[fe,h]
 exact if_neg (by decide)

theorem gO.isSome_eq {o:Option V}{u:Option Value}(r:gO o u):o.isSome=u.isSome:=by
 cases o with
 | none=>cases u with
   | none=>rfl
   | some _=>exact(show False from r).elim
 | some _=>cases u with
   | none=>exact(show False from r).elim
   | some _=>rfl
theorem KV.val {kvs:List (κ×V)}{vs:List (κ×Value)}(r:KV kvs vs)(k:κ):gO (bZ kvs k) (valueAt vs k):=by
 unfold KV at r
 induction r with
 | nil=>exact True.intro
 | @cons p q ps qs h t ih =>
   obtain⟨h1,h2⟩:=h
   by_cases e:p.1=k
   · have e':q.1=k:=h1.symm.trans e
     have b:valueAt (q::qs) k=some q.2:=by simp[valueAt,List.find?_cons,e']
     rw[cF e,b];exact h2
   · have e':¬q.1=k:=fun z=>e (h1.trans z)
     have b:valueAt (q::qs) k=valueAt qs k:=by simp[valueAt,List.find?_cons,e']
     rw[cw e,b];exact ih
theorem KV.any {kvs:List (κ×V)}{vs:List (κ×Value)}(r:KV kvs vs)(k:κ):(kvs.any fun kv=>decide (kv.1=k))=vs.any fun kv=>decide (kv.1=k):=by
 unfold KV at r
 induction r with
 | nil=>rfl
 | cons h t ih=>rw[List.any_cons,List.any_cons,ih,h.1]
theorem KV.repl {kvs:List (κ×V)}{vs:List (κ×Value)}(r:KV kvs vs)(k:κ){y:V}{u:Value}(ry:bF y u) :
   KV (kvs.map fun kv=>if kv.1=k then(kv.1,y) else kv) (vs.map fun kv=>if kv.1=k then(kv.1,u) else kv):=by
 unfold KV at r ⊢
 induction r with
 | nil=>exact .nil
 | @cons p q ps qs h t ih =>
   rw[List.map_cons,List.map_cons]
   refine .cons ?_ ih
   obtain⟨h1,h2⟩:=h
   by_cases e:p.1=k
   · rw[if_pos e,if_pos (h1.symm.trans e)];exact⟨h1,ry⟩
   · rw[if_neg e,if_neg (fun z=>e (h1.trans z))];exact⟨h1,h2⟩
theorem KV.put {kvs:List (κ×V)}{vs:List (κ×Value)}(r:KV kvs vs)(k:κ){y:V}{u:Value}(ry:bF y u):KV (cK kvs k y) (stored vs k u):=by
 unfold cK stored
 rw[r.any k]
 by_cases e:(vs.any fun kv=>decide (kv.1=k))=true
 · rw[if_pos e,if_pos e];exact r.repl k ry
 · rw[if_neg e,if_neg e];exact Paired.snoc r ⟨rfl,ry⟩
theorem KV.keys {kvs:List (κ×V)}{vs:List (κ×Value)}(r:KV kvs vs):kvs.map (·.1)=vs.map (·.1):=by
 unfold KV at r
 induction r with
 | nil=>rfl
 | cons h t ih=>rw[List.map_cons,List.map_cons,ih,h.1]
theorem KV.length {kvs:List (κ×V)}{vs:List (κ×Value)}(r:KV kvs vs):kvs.length=vs.length:=Paired.length r
end

/-! ### a tracked dict,its keys ints and texts or tuples of these -/
theorem ku {P:Program}{w:World}{k:Key}{u:Value}(r:bF (kV k) u):(bU P w).is k u=true:=by
 cases k with
 | inl i=>obtain⟨t,e⟩:=(show ∃ t,u=Value.int i t from r);subst e;exact nk P w i t
 | inr x=>obtain⟨t,e⟩:=(show ∃ t,u=Value.str x t from r);subst e;exact gm P w x t
theorem ki {P:Program}{w:World}:∀ {ks:List Key}{us:List Value},Vals (ks.map kV) us→ItemsAre (bU P w) ks us
 | [],_,r=>by rw[List.map_nil] at r;cases r;exact .nil
 | k::ks,_,r=>by
   rw[List.map_cons] at r
   cases r with
   | cons h t=>exact .cons (ku h) (ki t)

abbrev KT (H:Hp):List (List Key×V)→List (List Key×Addr×Value)→Prop:=Paired fun p q=>p.1=q.1∧H q.2.1=some (.tup (p.1.map kV))∧bF p.2 q.2.2
theorem KT.val {H:Hp}{kvs:List (List Key×V)}{xs:List (List Key×Addr×Value)}(r:KT H kvs xs)(k:List Key):gO (bZ kvs k) ((atKey xs k).map (·.2)):=by
 induction r with
 | nil=>exact True.intro
 | @cons p q ps qs h t ih =>
   obtain⟨h1,_,h2⟩:=h
   by_cases e:p.1=k
   · have e':q.1=k:=h1.symm.trans e
     have b:atKey (q::qs) k=some q.2:=by simp[atKey,List.find?_cons,e']
     rw[cF e,b];exact h2
   · have e':¬q.1=k:=fun z=>e (h1.trans z)
     have b:atKey (q::qs) k=atKey qs k:=by simp[atKey,List.find?_cons,e']
     rw[cw e,b];exact ih
theorem KT.repl {H:Hp}{kvs:List (List Key×V)}{xs:List (List Key×Addr×Value)}(r:KT H kvs xs)(k:List Key){y:V}{u:Value}(ry:bF y u) :
   KT H (kvs.map fun kv=>if kv.1=k then(kv.1,y) else kv) (xs.map (putAt k u)):=by
 induction r with
 | nil=>exact .nil
 | @cons p q ps qs h t ih =>
   rw[List.map_cons,List.map_cons]
   refine .cons ?_ ih
   obtain⟨h1,h2,h3⟩:=h
   unfold putAt
   by_cases e:p.1=k
   · rw[if_pos e,if_pos (h1.symm.trans e)];exact⟨h1,h2,ry⟩
   · rw[if_neg e,if_neg (fun z=>e (h1.trans z))];exact⟨h1,h2,h3⟩
theorem KT.put {H:Hp}{kvs:List (List Key×V)}{xs:List (List Key×Addr×Value)}(r:KT H kvs xs)(k:List Key){b:Addr}{y:V}{u:Value}(hb:H b=some (.tup (k.map kV)))(ry:bF y u) :
   KT H (cK kvs k y) (storedH xs k b u):=by
 have e:(kvs.any fun kv=>decide (kv.1=k))=(atKey xs k).isSome:=by
   rw[fe,(r.val k).isSome_eq,Option.isSome_map]
 unfold cK storedH
 rw[e]
 by_cases q:(atKey xs k).isSome=true
 · rw[if_pos q,if_pos q];exact r.repl k ry
 · rw[if_neg q,if_neg q];exact Paired.snoc r ⟨rfl,hb,ry⟩
theorem KT.keeps {H H':Hp}{kvs:List (List Key×V)}{xs:List (List Key×Addr×Value)}(r:KT H kvs xs)(ht:∀ b ys,H b=some (.tup ys)→H' b=some (.tup ys)):KT H' kvs xs :=
 Paired.mapP r fun _ _ z=>⟨z.1,ht _ _ z.2.1,z.2.2⟩

section
variable {P:Program}{w:World}{H:Hp}{h:Heap}{a:Addr}
theorem u5 {u:HO}(ok:HOk P w H h)(e:Rd H a u):cg P w H h a u:=e.ok ok
theorem jt {kvs:List (Key×V)}(ok:HOk P w H h)(e:Rd H a (.dK kvs)):kvs.length≤sizeLine∧(a==sysModules)=false∧∃ vs,KV kvs vs∧h.DictOf (bU P w) a vs :=
 show cg P w H h a (.dK kvs) from u5 ok e
theorem u0 {kvs:List (Key×V)}(ok:HOk P w H h)(e:H a=some (.dK kvs)):kvs.length≤sizeLine∧(a==sysModules)=false∧∃ vs,KV kvs vs∧h.DictOf (bU P w) a vs:=jt ok (.inl e)
theorem jz {ks:List Key}(ok:HOk P w H h)(e:H a=some (.tup (ks.map kV))):(tupleKind (bU P w)).is h ks a:=by
 obtain⟨_,its,r,o,h1,h2,n,h3⟩:=(show cg P w H h a (.tup (ks.map kV)) from ok a _ e)
 exact⟨o,its.toArray,n,h1,h2,h3,by simpa using ki r⟩
theorem nj {kvs:List (List Key×V)}(ok:HOk P w H h)(e:Rd H a (.dT kvs)):kvs.length≤sizeLine∧(a==sysModules)=false ∧
   ∃ xs,KT H kvs xs∧h.DictOfH (tupleKind (bU P w)) a xs:=by
 obtain⟨z,y,xs,r,o,es,ep,h1,h2,h3,h4,h5⟩:=(show cg P w H h a (.dT kvs) from u5 ok e)
 refine⟨z,y,xs,r,o,es,ep,h1,h2,h3,h4,fun x hx=>?_,h5⟩
 have all:∀ {l:List (List Key×V)}{m:List (List Key×Addr×Value)},KT H l m→∀ x∈m,(tupleKind (bU P w)).is h x.1 x.2.1:=by
   intro l m q
   induction q with
   | nil=>intro x hx;exact nomatch hx
   | @cons p q ps qs hq t ih =>
     intro x hx
     rcases List.mem_cons.mp hx with e | hx
     · subst e
       exact jz ok (by rw[←hq.1];exact hq.2.1)
     · exact ih x hx
 exact all r x hx
theorem wr {kvs:List (List Key×V)}(ok:HOk P w H h)(e:H a=some (.dT kvs)):kvs.length≤sizeLine∧(a==sysModules)=false ∧
 ∃ xs,KT H kvs xs∧h.DictOfH (tupleKind (bU P w)) a xs:=nj ok (.inl e)
end

def iP (H:Hp)(a:Addr) (y:V)(r:Option V):Prop :=
 (∃ kvs k,Rd H a (.dK kvs)∧y=kV k∧r=bZ kvs k)∨∃ kvs k b,Rd H a (.dT kvs)∧y=.ref b∧H b=some (.tup (k.map kV))∧r=bZ kvs k
def wz (H:Hp)(a:Addr) (y v:V)(H':Hp):Prop :=
 (∃ kvs k,H a=some (.dK kvs)∧y=kV k∧kvs.length < sizeLine∧H'=upd H a (.dK (cK kvs k v))) ∨
 ∃ kvs k b,H a=some (.dT kvs)∧y=.ref b∧H b=some (.tup (k.map kV))∧kvs.length < sizeLine∧H'=upd H a (.dT (cK kvs k v))
section
variable {X:Cx}{pins:List (Addr×Obj)}{σ:St}{H:Hp}{s:Shared}{a:Addr}{y v:V}{u r:Value}{o:Option V}{A:Around}{E:Value→Shared→Prop}

theorem Inv.big (I:Inv X pins σ H s):sysModules < s.heap.objs.size:=by
 have h:mainGlobals < s.heap.objs.size:=(I.mod.glob.keeps I.bk).lt
 exact Nat.lt_trans (by decide) h

theorem qz {Q:Value→Shared→Prop}(hu:A.units+1 < cLine)(I:Inv X pins σ H s)(g:iP H a y (some v))(ry:bF y u)(h:∀ w' s',Inv X pins σ H s'→bF v w'→Q w' s') :
   wpAny (model X.prog X.w) A (getItem (.ref a) u) Q E s:=by
 rcases g with ⟨kvs,k,e,ey,l⟩ | ⟨kvs,k,b,e,ey,eb,l⟩
 · subst ey
   obtain⟨z,hd,vs,rel,dd⟩:=jt I.hok e
   obtain⟨w',hw,rw'⟩:=gO.some_of (v:=v) (o:=valueAt vs k) (by rw[l];exact rel.val k)
   exact wpAny_getItem_of (ku ry) dd.mapOf hw (h w' _ (I.tok _) rw')
 · subst ey
   cases (show u=Value.ref b from ry)
   obtain⟨z,hd,xs,rel,dd⟩:=nj I.hok e
   obtain⟨w',hw,rw'⟩:=gO.some_of (v:=v) (o:=(atKey xs k).map (·.2)) (by rw[l];exact rel.val k)
   obtain⟨p,hp,hp2⟩:=Option.map_eq_some_iff.mp hw
   refine wpAny_getItem_heap (tupleKind_room_in1 hu) (jz I.hok eb) dd hp ?_
   rw[hp2]
   exact h w' _ (I.tok _) rw'
theorem xl {Q:Value→Shared→Prop}(hu:A.units+1 < cLine)(I:Inv X pins σ H s)(g:iP H a y o)(ry:bF y u)(h:∀ s',Inv X pins σ H s'→Q (.bool o.isSome) s') :
   wpAny (model X.prog X.w) A (compareOp .In u (.ref a)) Q E s:=by
 rcases g with ⟨kvs,k,e,ey,l⟩ | ⟨kvs,k,b,e,ey,eb,l⟩
 · subst ey
   obtain⟨z,hd,vs,rel,dd⟩:=jt I.hok e
   refine wpAny_in_of (ku ry) hd dd.mapOf ?_
   rw[←(rel.val k).isSome_eq,←l]
   exact h _ (I.tok _)
 · subst ey
   cases (show u=Value.ref b from ry)
   obtain⟨z,hd,xs,rel,dd⟩:=nj I.hok e
   refine wpAny_in_heap (tupleKind_room_in1 hu) (jz I.hok eb) hd dd ?_
   have q:=(rel.val k).isSome_eq
   rw[Option.isSome_map] at q
   rw[←q,←l]
   exact h _ (I.tok _)
theorem ur {Q:Value→Shared→Prop}(hu:A.units+1 < cLine)(I:Inv X pins σ H s)(g:iP H a y o)(ry:bF y u)(h:∀ s',Inv X pins σ H s'→Q (.bool (!o.isSome)) s') :
   wpAny (model X.prog X.w) A (compareOp .NotIn u (.ref a)) Q E s:=by
 rcases g with ⟨kvs,k,e,ey,l⟩ | ⟨kvs,k,b,e,ey,eb,l⟩
 · subst ey
   obtain⟨z,hd,vs,rel,dd⟩:=jt I.hok e
   refine wpAny_notIn_of (ku ry) hd dd.mapOf ?_
   rw[←(rel.val k).isSome_eq,←l]
   exact h _ (I.tok _)
 · subst ey
   cases (show u=Value.ref b from ry)
   obtain⟨z,hd,xs,rel,dd⟩:=nj I.hok e
   refine wpAny_notIn_heap (tupleKind_room_in1 hu) (jz I.hok eb) hd dd ?_
   have q:=(rel.val k).isSome_eq
   rw[Option.isSome_map] at q
   rw[←q,←l]
   exact h _ (I.tok _)
theorem lX {h':Heap}{t':Nat}{ob:HO}(I:Inv X pins σ H s)(mu:Mut (H a))(hs:Heap.SameBut a s.heap h')(he:∃ q,h'.get? a=some q)(new:cg X.prog X.w (upd H a ob) h' a ob) :
   Inv X pins σ (upd H a ob) { s with heap:=h',toks:=t' } :=
 I.write (x:=a) (e:=a) mu (.inl rfl) (fun b q hb z=>(hs.2 b hb).trans z) he new
theorem l6 {P:Program}{w:World}{H':Hp}{h':Heap}{kvs:List (Key×V)}{vs:List (Key×Value)}(z:kvs.length≤sizeLine)(hd:(a==sysModules)=false)(rel:KV kvs vs)(dd:h'.DictOf (bU P w) a vs) :
 cg P w H' h' a (.dK kvs):=⟨z,hd,vs,rel,dd⟩
theorem rg {H':Hp}{Q:Unit→Shared→Prop}(hu:A.units+1 < cLine)(I:Inv X pins σ H s)(g:wz H a y v H')(ry:bF y u)(rv:bF v r)(h:∀ s',Inv X pins σ H' s'→Q () s') :
   wpAny (model X.prog X.w) A (setItem (.ref a) u r) Q E s:=by
 rcases g with ⟨kvs,k,e,ey,l,eH⟩ | ⟨kvs,k,b,e,ey,eb,l,eH⟩
 · subst ey eH
   obtain⟨z,hd,vs,rel,dd⟩:=u0 I.hok e
   have hz:vs.length≤sizeLine:=by rw[←rel.length];exact z
   have hl:(cK kvs k v).length≤sizeLine:=by have:=gx kvs k v;omega
   refine wpAny_setItem_pairs (hsz:=hz) (ku ry) dd fun h' dd' hs=>h _ ?_
   have he:∃ q,h'.get? a=some q:=let ⟨q,_,_,hq,_⟩:=dd';⟨q,hq⟩
   exact lX I (by rw[e];exact True.intro) hs he (l6 hl hd (rel.put k rv) dd')
 · subst ey eH
   cases (show u=Value.ref b from ry)
   obtain⟨z,hd,xs,rel,dd⟩:=wr I.hok e
   have hz:xs.length≤sizeLine:=by rw[←Paired.length rel];exact z
   have hl:(cK kvs k v).length≤sizeLine:=by have:=gx kvs k v;omega
   refine wpAny_setItem_heap (hsz:=hz) (tupleKind_room_in1 hu) (jz I.hok eb) dd fun h' dd' hs=>h _ ?_
   obtain⟨q,es,ep,hq,h2,h3,h4,_,h5⟩:=dd'
   refine lX I (by rw[e];exact True.intro) hs ⟨q,hq⟩ ⟨hl,hd,_,(rel.put k eb rv).keeps fun c ys ec=>?_,q,es,ep,hq,h2,h3,h4,h5⟩
   rw[ag (wx ec e (fun z=>nomatch z))]
   exact ec
end

section
variable {X:Cx}{pins:List (Addr×Obj)}{σ:St}{H:Hp}{s:Shared}{a:Addr}{kvs:List (Key×V)}{k:Key}{u:Value}{A:Around}{E:Value→Shared→Prop}
theorem wl {Q:Value→Shared→Prop}(I:Inv X pins σ H s)(e:Rd H a (.dK kvs))(h:∀ t s',Inv X pins σ H s'→Q (.int kvs.length t) s'):wpAny (model X.prog X.w) A (call (.builtin "len") [.ref a]) Q E s:=by
 obtain⟨z,hd,vs,rel,dd⟩:=jt I.hok e
 refine call_len_dict hd dd (by rw[←rel.length];rw[sizeLine_eq] at z;omega) ?_
 rw[←rel.length]
 exact h _ _ (I.tok _)
end

/-! ### readings and rules -/
def wT (i:Expr):Prop:=∀ ov iv,subscripted i false ov iv=operate [ov,iv] (getItem ov iv)
theorem ux {prog:Program}{w:World}{A:Around}{E:Value→Shared→Prop}{s:Shared}{env:Env}{value slice:Expr}{pos:Pos}{T id:String}{Q:Value→Shared→Prop}
   (hl:typeLookup (.type T) "__getitem__"=pure (some (.builtin id)))(hs:wT slice)
   (h:wpAny (model prog w) A (eval value env) (fun o s₁=>wpAny (model prog w) A (eval slice env) (fun i s₂=>s₂.TypeIs o T∧wpAny (model prog w) A (getItem o i) Q E s₂) E s₁) E s) :
   wpAny (model prog w) A (eval (.Subscript value slice pos) env) Q E s:=by
 refine Subscript_ (wpAny_mono h (fun o s₁ h₁=>wpAny_mono h₁ (fun i s₂ h₂=>?_) fun _ _ x=>x) fun _ _ x=>x)
 obtain⟨hT,h₂⟩:=h₂
 unfold subscriptTail
 refine wpAny_bind ?_
 rw[getitemInPython_of_ne hT.not_modules]
 refine wpAny_bind (wpAny_specialOf hT hl ?_)
 have fin:wpAny (model prog w) A (subscripted slice false o i) (fun r s₃=>wpAny (model prog w) A (letTemporaryGo value o r >>= fun _=>pure r) Q E s₃) E s₂:=by
   rw[hs o i]
   exact wpAny_operating (wpAny_mono h₂ (fun r s₃ h₃=>wpAny_bind (wpAny_letTemporaryGo (wpAny_pure h₃))) fun _ _ x=>x)
 first
   | exact wpAny_pure (wpAny_bind fin)
   | exact wpAny_bind (wpAny_pure (wpAny_bind fin))
   | exact wpAny_bind fin

theorem nI {X:Cx}{pins:List (Addr×Obj)}{σ:St}{H:Hp}{s:Shared}{a:Addr}{y:V}{o:Option V}(I:Inv X pins σ H s)(g:iP H a y o):s.TypeIs (.ref a) "dict":=by
 rcases g with ⟨kvs,k,e,_,_⟩ | ⟨kvs,k,b,e,_,_,_⟩
 · obtain⟨_,_,vs,_,dd⟩:=jt I.hok e
   exact dd.typeIs
 · obtain⟨_,_,xs,_,dd⟩:=nj I.hok e
   exact dd.typeIs
def vc (td ty:TE):TE:=fun σ H Q=>td σ H fun x H1=>ty σ H1 fun y H2=>∃ a v,x=.ref a∧iP H2 a y (some v)∧Q v H2
def wO (ty td:TE):TE:=fun σ H Q=>ty σ H fun y H1=>td σ H1 fun x H2=>∃ a o,x=.ref a∧iP H2 a y o∧Q (.bl o.isSome) H2
def pG (ty td:TE):TE:=fun σ H Q=>ty σ H fun y H1=>td σ H1 fun x H2=>∃ a o,x=.ref a∧iP H2 a y o∧Q (.bl (!o.isSome)) H2
def uR (td ty tv:TE):TS:=fun D σ H=>tv σ H fun v H1=>td σ H1 fun x H2=>ty σ H2 fun y H3=>∃ a H4,x=.ref a∧wz H3 a y v H4∧D.nx σ H4
section
variable {X:Cx}{o i e value:Expr}{pos pos' tpos:Pos}{td ty tv:TE}
theorem bn (hu:X.A.units+1 < cLine)(ho:PE X o td)(hi:PE X i ty)(hs:wT i):PE X (.Subscript o i pos) (vc td ty):=by
 intro pins s σ H Q I h
 refine ux PySem.F.slot_dict_getitem.lookup hs (thn (ho s σ H _ I h) fun u s1 ⟨x,H1,I1,rx,q1⟩=>thn (hi s1 σ H1 _ I1 q1) fun iv s2 ⟨y,H2,I2,ry,a,v,ex,g,q2⟩=>?_)
 subst ex
 obtain rfl:u=Value.ref a:=rx
 exact⟨nI I2 g,qz hu I2 g ry fun w' s3 I3 rw'=>⟨v,H2,I3,rw',q2⟩⟩
theorem jE (hu:X.A.units+1 < cLine)(hi:PE X i ty)(ho:PE X o td):PC X .In i o (wO ty td):=by
 intro pins s σ H Q I h
 refine thn (hi s σ H _ I h) fun iv s1 ⟨y,H1,I1,ry,q1⟩=>thn (ho s1 σ H1 _ I1 q1) fun u s2 ⟨x,H2,I2,rx,a,ov,ex,g,q2⟩=>?_
 subst ex
 obtain rfl:u=Value.ref a:=rx
 exact xl hu I2 g ry fun s3 I3=>⟨.bl ov.isSome,H2,I3,rfl,q2⟩
theorem cU (hu:X.A.units+1 < cLine)(hi:PE X i ty)(ho:PE X o td):PC X .NotIn i o (pG ty td):=by
 intro pins s σ H Q I h
 refine thn (hi s σ H _ I h) fun iv s1 ⟨y,H1,I1,ry,q1⟩=>thn (ho s1 σ H1 _ I1 q1) fun u s2 ⟨x,H2,I2,rx,a,ov,ex,g,q2⟩=>?_
 subst ex
 obtain rfl:u=Value.ref a:=rx
 exact ur hu I2 g ry fun s3 I3=>⟨.bl (!ov.isSome),H2,I3,rfl,q2⟩
theorem dY (hu:X.A.units+1 < cLine)(ho:PE X o td)(hi:PE X i ty)(hv:PE X value tv)(hs:swapsWith value (some (.Subscript o i pos')) pos.line X.env=pure false) :
   PS X (.Assign [.Subscript o i pos'] value pos) (uR td ty tv):=by
 intro pins s σ H D I h
 refine wpAny_Assign_Subscript (thn (hv s σ H _ I h) fun r s1 ⟨v,H1,I1,rv,q1⟩=>thn (ho s1 σ H1 _ I1 q1) fun u s2 ⟨x,H2,I2,rx,q2⟩=>thn (hi s2 σ H2 _ I2 q2) fun iv s3 ⟨y,H3,I3,ry,a,H4,ex,g,q3⟩=>?_) hs
 subst ex
 obtain rfl:u=Value.ref a:=rx
 exact rg hu I3 g ry rv fun s4 I4=>⟨σ,H4,I4,q3⟩
end

/-! ### displays -/
theorem nL {P:Program}{w:World}{H:Hp}(h:Heap)(hb:sysModules < h.objs.size):cg P w H (h.push { cls:=.type "dict",data:=.dict #[] }) h.objs.size (.dK []) :=
 ⟨Nat.zero_le _,beq_eq_false_iff_ne.mpr (Ne.symm (Nat.ne_of_lt hb)),[],.nil,Heap.DictOf.new h⟩
def sU:TE:=fun _ H Q=>∀ p,H p=none→Q (.ref p) (upd H p (.dK []))
def vF:TE:=fun _ H Q=>∀ p,H p=none→Q (.ref p) (upd H p (.dT []))
section
variable {X:Cx}{pos:Pos}
theorem eN:PE X (.Dict [] [] pos) sU:=fun pins s σ H Q I h =>
 wpAny_Dict_empty ⟨.ref s.heap.objs.size,_,I.laid (a:=s.heap.objs.size) (o:=.dK []) (t':=s.toks) (fun _ _ q=>Heap.get?_push_of_some _ q) (Nat.le_refl _) (nL s.heap I.big),rfl,h _ (I.hok.fresh (Nat.le_refl _))⟩
end

def mh:List (TE×TE)→St→Hp→(List (V×V)→Hp→Prop)→Prop
 | [],_,H,Q=>Q [] H
 | (tk,tv)::r,σ,H,Q=>tk σ H fun x H1=>tv σ H1 fun y H2=>mh r σ H2 fun ps H3=>Q ((x,y)::ps) H3
abbrev VV:List (V×V)→List (Value×Value)→Prop:=Paired fun p q=>bF p.1 q.1∧bF p.2 q.2
def PPs (X:Cx)(pos:Pos)(keys:List (Option Expr))(values:List Expr)(trs:List (TE×TE)):Prop :=
 ∀ (pins:List (Addr×Obj))(s:Shared) (σ:St)(H:Hp)(Q:List (V×V)→Hp→Prop),Inv X pins σ H s→mh trs σ H Q →
   wpAny (model X.prog X.w) X.A (evalPairs (pairTrees keys values X.env pos)) (fun vs s'=>∃ ps H',Inv X pins σ H' s'∧VV ps vs∧Q ps H') X.xe s
theorem lM {X:Cx}{pos:Pos}:PPs X pos [] [] []:=fun pins s σ H Q I h=>pairTrees_nil_walk ⟨[],H,I,.nil,h⟩
theorem jW {X:Cx}{pos:Pos}{k v:Expr}{ks:List (Option Expr)}{vs:List Expr}{tk tv:TE}{trs:List (TE×TE)}(hk:PE X k tk)(hv:PE X v tv)(hr:PPs X pos ks vs trs) :
   PPs X pos (some k::ks) (v::vs) ((tk,tv)::trs):=fun pins s σ H Q I h =>
 pairTrees_cons_walk (thn (hk s σ H _ I h) fun u s1 ⟨x,H1,I1,rx,q1⟩=>thn (hv s1 σ H1 _ I1 q1) fun w2 s2 ⟨y,H2,I2,ry,q2⟩ =>
   thn (hr pins s2 σ H2 _ I2 q2) fun ws s3 ⟨ps,H3,I3,rel,q3⟩=>⟨(x,y)::ps,H3,I3,.cons ⟨rx,ry⟩ rel,q3⟩)

def cC (kvs more:List (Key×V)):List (Key×V):=more.foldl (fun acc kv=>cK acc kv.1 kv.2) kvs
theorem KV.merge:∀ {more:List (Key×V)}{rs:List (Key×Value)}{kvs:List (Key×V)}{vs:List (Key×Value)},KV more rs→KV kvs vs→KV (cC kvs more) (merged vs rs):=by
 intro more rs kvs vs r
 unfold KV at r
 induction r generalizing kvs vs with
 | nil=>intro q;exact q
 | @cons p q ps qs h t ih =>
   intro r0
   have e:KV (cK kvs p.1 p.2) (stored vs q.1 q.2):=by
     have:=r0.put p.1 h.2
     rw[←h.1];exact this
   exact ih e
theorem d2:∀ (more kvs:List (Key×V)),(cC kvs more).length≤kvs.length+more.length
 | [],kvs=>by show kvs.length≤kvs.length+0;omega
 | p::r,kvs=>by
   have h1:=d2 r (cK kvs p.1 p.2)
   have h2:=gx kvs p.1 p.2
   show(cC (cK kvs p.1 p.2) r).length≤_
   rw[List.length_cons];omega
theorem jY {P:Program}{w:World}:∀ {kvs:List (Key×V)}{ws:List (Value×Value)},VV (kvs.map fun kv=>(kV kv.1,kv.2)) ws→∃ rs,Carries (bU P w) ws rs∧KV kvs rs
 | [],_,r=>by rw[List.map_nil] at r;cases r;exact⟨[],True.intro,.nil⟩
 | p::kvs,_,r=>by
   rw[List.map_cons] at r
   cases r with
   | @cons a b as bs h t =>
     obtain⟨rs,c,q⟩:=jY (P:=P) (w:=w) t
     obtain⟨b1,b2⟩:=b
     exact⟨(p.1,b2)::rs,⟨ku h.1,rfl,c⟩,.cons ⟨rfl,h.2⟩ q⟩
def vh (trs:List (TE×TE)):TE:=fun σ H Q=>∀ p,H p=none→mh trs σ (upd H p (.dK [])) fun ps H2=>H2 p=some (.dK [])∧∃ kvs:List (Key×V),ps=kvs.map (fun kv=>(kV kv.1,kv.2))∧kvs.length≤15∧Q (.ref p) (upd H2 p (.dK (cC [] kvs)))
theorem mi {X:Cx}{pos:Pos}{keys:List (Option Expr)}{values:List Expr}{trs:List (TE×TE)}(h:PPs X pos keys values trs)(hall:keys.all (·.isSome)=true)(hl:keys.length=values.length)(h0:keys≠[])
   (h15:keys.length≤15):PE X (.Dict keys values pos) (vh trs):=by
 intro pins s σ H Q I q
 have hn:=I.hok.fresh (Nat.le_refl s.heap.objs.size)
 have I1:=I.laid (a:=s.heap.objs.size) (o:=.dK []) (h':=s.heap.push { cls:=.type "dict",data:=.dict #[] }) (t':=s.toks) (fun _ _ q=>Heap.get?_push_of_some _ q) (Nat.le_refl _) (nL s.heap I.big)
 refine wpAny_Dict_walk (knd:=bU X.prog X.w) hall hl h0 h15 (thn (h pins _ σ _ _ I1 (q _ hn)) fun ws s2 ⟨ps,H2,I2,rel,e,kvs,ep,lk,q2⟩=>?_)
 subst ep
 obtain⟨rs,c,rk⟩:=jY (P:=X.prog) (w:=X.w) rel
 obtain⟨z,hd,vs0,r0,dd⟩:=u0 I2.hok e
 cases r0
 refine⟨rs,c,dd,fun h' dd' hs=>⟨.ref s.heap.objs.size,_,?_,rfl,q2⟩⟩
 have hz:(cC [] kvs).length≤sizeLine:=by
   have h1:=d2 kvs []
   rw[List.length_nil] at h1
   rw[sizeLine_eq];omega
 have he:∃ q,h'.get? s.heap.objs.size=some q:=let ⟨q,_,_,hq,_⟩:=dd';⟨q,hq⟩
 exact lX I2 (by rw[e];exact True.intro) hs he (l6 hz hd (rk.merge .nil) dd')

/-! ### methods -/
section
variable {X:Cx}{pins:List (Addr×Obj)}{σ:St}{H:Hp}{s:Shared}{a:Addr}{y d:V}{u r:Value}{o:Option V}{A:Around}{E:Value→Shared→Prop}
end

section
variable {X:Cx}{o e f:Expr}{apos cpos:Pos}{td ty tx:TE}
end

/-! ### dict(d): a copy -/
section
variable {X:Cx}{pins:List (Addr×Obj)}{σ:St}{H:Hp}{s:Shared}{a:Addr}{kvs:List (Key×V)}{A:Around}{E:Value→Shared→Prop}
end

section
variable {X:Cx}{pins:List (Addr×Obj)}{σ:St}{H:Hp}{s:Shared}{a:Addr}{y:V}{u:Value}{A:Around}{E:Value→Shared→Prop}
end
end L2

namespace Att
open PySem PySem.W PySem.Calls PyProof.Rows

/-! ### the script -/
theorem jb {P:Params}{h:Heap}:∀ (ns:List Int)(vs:List Value),WellAll P h vs (ns.map WData.int)→IntsAre vs ns:=by
 intro ns
 induction ns with
 | nil =>
   intro vs w
   rw[List.map_nil] at w
   cases w
   exact .nil
 | cons n ns ih =>
   intro vs w
   rw[List.map_cons] at w
   cases w with
   | cons a b =>
     cases a
     exact .cons _ _ (ih _ b)

theorem qT {l:OpenLaw}{n:Nat}(hn:l.most=some n){P:Params}{h:Heap}{args:List WData}{vals:List Value}
   (hpre:l.row.toRowW.claim.pre args=true)(hwl:WellAll P h vals args) :
   ∃ a vs ns,vals=[Value.ref a]∧args=[WData.list (ns.map WData.int)]∧h.get? a=some { cls:=.type "list",data:=.seq vs.toArray }∧IntsAre vs ns∧ns.length≤n:=by
 have hsh:WShape.hasAll [] args [.list .int]=true:=(pre_splitW hpre).1
 have hc:l.pre.holds [] { args:=args }=true:=(pre_splitW hpre).2
 obtain⟨d,r,rfl,h1,h2⟩:=hasAllW_cons hsh
 obtain rfl:=hasAllW_nil h2
 obtain⟨xs,rfl,h3⟩:=hasW_list h1
 obtain⟨ns,rfl⟩:=items_int h3
 have hlen:ns.length≤n:=by
   unfold OpenLaw.pre at hc
   have h4:(WTm.not (.lt (.lit (.int (n:Int))) (.len (.arg 0)))).holds [] { args:=[.list (ns.map .int)] }=true:=by
     have h4:=(holds_andW hc).1
     rw[hn] at h4
     exact h4
   have h5:=condW_of h4 (w_not (w_lt w_lit (w_len_list (w_arg rfl))))
   rw[List.length_map] at h5
   refine Nat.le_of_not_lt fun q=>?_
   have q':(n:Int) < ((ns.length:Nat):Int):=by omega
   first
     | (rw[decide_eq_true q'] at h5;exact absurd h5 (by decide))
     | (simp at h5;omega)
 cases hwl with
 | cons w1 w2 =>
   cases w2
   cases w1 with
   | list ho hall=>exact⟨_,_,ns,rfl,rfl,ho,jb ns _ hall,hlen⟩

theorem qu (l:OpenLaw)(args:List WData):l.row.toRowW.claim.post args (.bool true) args=true :=
 postW_of (r:=l.row.toRowW) (X:=(true==true))
   (show WShape.has [] (.bool true) .bool=true by first | rfl | decide | simp[WShape.has,WShape.arms,WShape.armsAll])
   (show(WTm.eq .res (.lit (.bool true))).value [] { args:=args,res:=some (.bool true),after:=args }=some (.bool (true==true)) from w_eq_bool (w_res rfl) w_lit) rfl

/-! ### the attachment: holds_open's last premise (the goal 'hc' behind k_head) from a wpAny of the law's body -/
theorem attach_call {l:OpenLaw}{n:Nat}{q:Program}{loose:List Str}{XP:(Str→Option Value)→Heap→Prop}{YP:World→Heap→Prop}{d:DefRec}
   (hn:l.most=some n)(hdf:d.params.defaults=[])
   (call:∀ (w:World)(s₀ s₁:Shared)(mg mb:Str→Option Value)(fa:Addr)(o:Obj) (pm cd doc:Value)(a:Addr)(vs:List Value)(ns:List Int),
     Ground q loose [] XP w s₀ mg mb s₁.heap→YP w s₁.heap →
     s₁.heap.get? fa=some o→o.data=.func (docDef d.name d.params d.body d.scope pm cd doc)→s₁.heap.CodeRec cd d.name→mg d.name=some (.ref fa) →
     s₁.heap.get? a=some { cls:=.type "list",data:=.seq vs.toArray }→IntsAre vs ns→ns.length≤n→s₁.gens=#[] →
     codeAny (model l.prog w) callerA (.call (.ref fa) ⟨[.ref a],[]⟩) (fun r s'=>r=.ok (.ret (.bool true))∧OldK s₁.heap s'.heap∧s'.os=s₁.os∧AllBare s'.gens) s₁) :
   WalkO q loose XP YP l.row.toRowW d [] (fun f vs=>PySem.call f vs):=by
 intro w s₀ s₁ mg mb G Y fa o pm cd doc dV kV ho hd hcd hD hmg hg args vals as hpre hlay hrd hwl hlo
 obtain rfl:dV=.none:=Dflts.none hD hdf
 obtain rfl:kV=.none:=Dflts.noKw hD
 obtain⟨a,vs,ns,rfl,rfl,hobj,hints,hlen⟩:=qT hn hpre hwl
 refine enter_call (codeAny_mono (call w s₀ s₁ mg mb fa o pm cd doc a vs ns G Y ho (fd_plain hd) hcd hmg hobj hints hlen hg) fun r s' hq=>?_)
 obtain⟨rfl,h2,h3,h4⟩:=hq
 exact⟨.inl ⟨.bool true,.bool true,[],rfl,fun _=>rfl,.bool true,qu l _,fun _=>⟨List.Pairwise.nil,fun _ hm=>(nomatch hm)⟩⟩,h2,h3,h4⟩

/-! ### rules over ANY heap (no ledger) from facts about the written part K: the library's own take a ledger (News) for what they write -/
section
variable {prog:Program}{w:World}{A:Around}{E:Value→Shared→Prop}{s:Shared}{K:Frag}

/-! the whole heap as the ledger: makes every rule that writes through a ledger a rule over any heap -/
def ledger (h:Heap)(L d:Addr):List (Addr×Obj):=(List.range h.objs.size).filterMap fun a=>if a=L∨a=d then none else(h.get? a).map fun o=>(a,o)
end
end Att

namespace L2
open PySem PySem.Spec PyProof.Rows

theorem kr:∀ {vs:List Value}{ns:List Int},IntsAre vs ns→Vals (ns.map V.int) vs
 | _,_,.nil=>.nil
 | _,_,.cons n t h=>.cons ⟨t,rfl⟩ (kr h)

def vC (H:Hp):Prop:=∀ b,H b=none∨∃ o xs,H b=some (.frz o (.lst xs))

theorem r9 {P:Program}{w:World}{K:PySem.W.Frag}{mg mb:Str→Option Value}{CX:CXT}{k:Nat}{fa a:Addr}{fd:FuncData}{x:Str}{sp:Sp}{s₁:Shared}{vs:List Value}{ns:List Int}
   (KX:K.In s₁.heap)(hns:s₁.heap.Ns mainGlobals mg)(hb:s₁.heap.Ns builtinsNs mb)(hbb:∀ x:Str,x≠"__name__"→mb x=bootBuiltins x)(hlim:s₁.heap.NoLimit)(hg:s₁.gens=#[])
   (ha:s₁.heap.get? a=some { cls:=.type "list",data:=.seq vs.toArray })(hi:IntsAre vs ns)(hl:ns.length≤sizeLine)(hr:d9 k callerA)
   (F:∀ base:Heap,K.In base→base.Ns mainGlobals mg→au P w K mg base CX k fa fd [x] sp)(hbind:∀ (s:Shared) (u:Value),BindsTo s fd ⟨[u],[]⟩ [(x,u)])
   (hsp:∀ H:Hp,vC H→SqL K H a (ns.map V.int)→sp [.ref a] H (fun v _=>v=.bl true) fun _ _ _=>False)
   (hCX:∀ H e s',CX [] H s₁ (fun _ _ _=>False) e s'→False) :
   codeAny (model P w) callerA (.call (.ref fa) ⟨[.ref a],[]⟩) (fun r s'=>r=.ok (.ret (.bool true))∧OldK s₁.heap s'.heap∧s'.os=s₁.os∧AllBare s'.gens) s₁:=by
 have rv:=kr hi
 have lenV:=hi.length
 have core:∀ H:Hp,vC H→SqL K H a (ns.map V.int)→HOk P w H s₁.heap→(∀ b,H b≠none→b=a)→(H a≠none→K.lookup a=none) →
     codeAny (model P w) callerA (.call (.ref fa) ⟨[.ref a],[]⟩) (fun r s'=>r=.ok (.ret (.bool true))∧OldK s₁.heap s'.heap∧s'.os=s₁.os∧AllBare s'.gens) s₁:=by
   intro H hO hS hok hA hK
   have base_of:∀ {b:Addr}{o:Obj},s₁.heap.get? b=some o→H b=none→(ma s₁.heap H).get? b=some o:=fun e n=>rX e n
   have noA:∀ {b:Addr}{o:Obj}{es:Array DictEntry}{ep:Nat},s₁.heap.get? b=some o→o.data=.dict es ep→H b=none:=fun {b o es ep} e d=>by
     cases q:H b with
     | none=>rfl
     | some u =>
       have e':b=a:=hA b (by rw[q];simp)
       subst e'
       rw[ha] at e;cases e
       have d':Data.seq vs.toArray _=Data.dict es ep:=d
       cases d'
   have nsK:∀ {b:Addr}{m:Str→Option Value},s₁.heap.Ns b m→(ma s₁.heap H).Ns b m:=fun {b m} ⟨o,es,ep,e,d,r⟩=>⟨o,es,ep,base_of e (noA e d),d,r⟩
   have hKb:K.In (ma s₁.heap H):=fun b o e=>base_of (KX b o e) (by
     cases q:H b with
     | none=>rfl
     | some u =>
       have e':b=a:=hA b (by rw[q];simp)
       subst e'
       rw[hK (by rw[q];simp)] at e;cases e)
   have hM:Mod K mg (ma s₁.heap H):=⟨hKb,nsK hns,⟨mb,nsK hb,hbb⟩,let ⟨mc,h1,h2⟩:=hlim;⟨mc,nsK h1,h2⟩⟩
   have e0:oq P w K mg (ma s₁.heap H) callerA [] s₁ H:=⟨rfl,hM,fun b o e=>uy e,Nat.le_of_eq (qI _ _),trivial,fun b hb=>absurd (show b∈([]:List Addr) from hb) (by simp),hok,.of_eq hg⟩
   refine codeAny_mono ((F _ hKb (nsK hns)).run callerA [] s₁ H ⟨[.ref a],[]⟩ [.ref a] [.ref a] _ _ hr e0 (hbind s₁ (.ref a)) (.cons rfl .nil) (hsp H hO hS)) fun r s' h=>?_
   cases r with
   | error e=>exact(hCX H e s' h).elim
   | ok fl =>
     cases fl with
     | next=>exact False.elim h
     | brk=>exact False.elim h
     | cont=>exact False.elim h
     | ret u =>
       obtain⟨v,H',os,bare,un,hok',r',q⟩:=h
       have q':v=.bl true:=q
       subst q'
       obtain rfl:u=Value.bool true:=r'
       refine⟨rfl,OldK.of_keep fun b o e=>?_,os,bare⟩
       cases q:H b with
       | none=>exact un.keep b o e q (by intro z;exact absurd (show b∈([]:List Addr) from z) (by simp)) (by simp)
       | some u =>
         rcases hO b with z | ⟨ob,xs,z⟩
         · rw[q] at z;cases z
         · have z2:=un.frzs b ob _ z
           obtain⟨e1,_⟩:=hok b _ z
           obtain⟨e2,_⟩:=hok' b _ z2
           rw[e] at e1;cases e1
           exact e2
 cases hk:K.lookup a with
 | some o =>
   have e:=KX a o hk
   rw[ha] at e
   cases e
   refine core (fun _=>none) (fun _=>.inl rfl) (.inr ⟨_,vs.toArray,_,hk,rfl,rfl,rfl,by rw[List.size_toArray,lenV];exact hl,by simpa using rv⟩) (fun b u z=>by have z':(none:Option HO)=some u:=z;cases z') (fun b z=>absurd rfl z) fun z=>absurd rfl z
 | none =>
   refine core (fun b=>if b=a then some (.frz { cls:=.type "list",data:=.seq vs.toArray } (.lst (ns.map V.int))) else none) (fun b=>?_) (.inl (.inr ⟨{ cls:=.type "list",data:=.seq vs.toArray },if_pos rfl⟩)) (fun b u z=>?_) (fun b z=>?_) fun _=>hk
   · by_cases hb:b=a
     · exact .inr ⟨_,_,if_pos hb⟩
     · exact .inl (if_neg hb)
   · by_cases hb:b=a
     · have z':=(if_pos hb).symm.trans z
       cases z'
       subst hb
       exact⟨ha,by rw[List.length_map];exact hl,vs,_,rv,ha⟩
     · have z':=(if_neg hb).symm.trans z
       cases z'
   · by_cases hb:b=a
     · exact hb
     · exact absurd (if_neg hb) z
end L2

namespace L2
open PySem PySem.Spec PyProof.Rows

theorem walk_of {l:PySem.W.OpenLaw}{n k:Nat}{q:Program}{loose:List Str}{XP:(Str→Option Value)→Heap→Prop}{YP:World→Heap→Prop}{d:DefRec}{K:Params→PySem.W.Frag}{CX:World→CXT}{sp:World→Sp}{x:Str}
   (hn:l.most=some n)(hn2:n≤sizeLine)(hdf:d.params.defaults=[])(hr:d9 k callerA)
   (hY:∀ (w:World)(h:Heap),YP w h→(K w.params).In h)
   (F:∀ (w:World)(mg:Str→Option Value)(fa:Addr)(h:Heap),(K w.params).In h→h.Ns mainGlobals mg→mg d.name=some (.ref fa) →
     ∃ fd:FuncData,(∀ (s:Shared) (u:Value),BindsTo s fd ⟨[u],[]⟩ [(x,u)]) ∧
       ∀ base:Heap,(K w.params).In base→base.Ns mainGlobals mg→au l.prog w (K w.params) mg base (CX w) k fa fd [x] (sp w))
   (hsp:∀ (w:World)(H:Hp)(a:Addr)(ns:List Int),ns.length≤n→vC H→SqL (K w.params) H a (ns.map V.int)→sp w [.ref a] H (fun v _=>v=.bl true) fun _ _ _=>False)
   (hCX:∀ (w:World)(H:Hp)(s:Shared) (e:Value)(s':Shared),CX w [] H s (fun _ _ _=>False) e s'→False) :
   PySem.W.WalkO q loose XP YP l.row.toRowW d [] (fun f vs=>PySem.call f vs):=by
 refine Att.attach_call hn hdf fun w s₀ s₁ mg mb fa o pm cd doc a vs ns G Y ho hd hcd hmg hobj hints hlen hg=>?_
 have KX:=hY w _ Y
 obtain⟨fd,hb,hF⟩:=F w mg fa _ KX G.T.g hmg
 exact r9 KX G.T.g G.T.b G.T.builtins G.T.nolimit hg hobj hints (Nat.le_trans hlen hn2) hr hF hb (fun H hO hS=>hsp w H a ns hlen hO hS) fun H e s'=>hCX w H s₁ e s'
end L2

/- THE LAST THEOREM (shape;LID,My.* are yours):
 My.Adr: a structure of the addresses that your layer names (classes,functions);My.Txt K t: a structure (Prop) of the equations over K;
 My.txt_mk:{K} {implicit addresses ..}(e1:nsIn K mainGlobals "law"=some (some (.ref f)))(e2:K.lookup f=some ⟨oc,od,.func (fnOf "law" "law" params body scope dV kV doc pm an cdv ct),sl⟩)(e3:codeIn K cdv "law"=true) ..:∃ t,My.Txt K t

set_option maxRecDepth 100000 in
set_option maxHeartbeats 0 in
(the tactic k_is has no namespace: write k_is) -/

/-! SHORT WORDS over the layer: a def of the text,its body,what a loop and a test want. -/
namespace L2
open PySem PySem.Spec PyProof.Rows

/-! ### the text by places -/
def cb (s:Stmt) (j:Nat):Stmt:=match s with
 | .ClassDef _ _ _ body _ _ _ _ _ _ _=>body.getD j (.Pass ⟨0,0,0,0⟩)
 | _=>.Pass ⟨0,0,0,0⟩
def aF (s:Stmt):Arguments:=match s with
 | .FunctionDef _ a _ _ _ _ _ _ _ _=>a
 | _=>{ posonlyargs:=[],args:=[],vararg:=none,kwonlyargs:=[],kw_defaults:=[],kwarg:=none,defaults:=[] }
def aC (s:Stmt):List Stmt:=match s with
 | .FunctionDef _ _ b _ _ _ _ _ _ _=>b
 | _=>[]
def af (s:Stmt):Scope:=match s with
 | .FunctionDef _ _ _ _ _ _ sc _ _ _=>sc
 | _=>{ kind:=.function,names:=[],isGenerator:=false,isCoroutine:=false }

/-! ### no exception leaves a def -/
abbrev CX0:CXT:=fun _ _ _ _ _ _=>False
abbrev E0:XK:=fun _ _ _=>False
theorem aZ {X:Cx}:fX CX0 X E0:=fun _ _ _ _ _ _ _ h=>h.elim

/-! ### a def (or method) of the text as it stands behind the top -/
structure Fun (K:PySem.W.Frag) (x qual:Str)(st:Stmt)(f:Addr)(fd:FuncData):Prop where
 ex:∃ (oc:Value)(od:Option Addr) (kV doc pm:Value)(an:Option Addr) (cdv ct:Value)(osl:Array (Option Value)),
   fd=PySem.W.fnOf x qual (aF st) (aC st) (af st) .none kV doc pm an cdv ct∧K.lookup f=some ⟨oc,od,.func fd,osl⟩∧PySem.W.codeIn K cdv qual=true
 kp:PySem.W.keepIn K (.ref f)=true
section
variable {P:Program}{w:World}{K:PySem.W.Frag}{mg:Str→Option Value}{base:Heap}
theorem Fun.ok {x qual:Str}{st:Stmt}{f:Addr}{fd:FuncData}{N ps:List Str}{k:Nat}{sp:Sp}(F:Fun K x qual st f fd)(S:aG N ps (af st))(len:∀ vs H Q E,sp vs H Q E→vs.length=ps.length)
   (hbody:∀ (cdv:Value)(A:Around)(outer:List Env)(s:Shared)(H:Hp)(vs:List V)(Q:VK)(E:XK),d9 k (A.deeper (envOfC qual (af st) s.heap.objs.size f cdv))→sp vs H Q E →
     ∃ t,PSs (cJ CX0 P w K mg base N qual (af st) f cdv A outer s H E).nox (aC st) t∧t { nx:=fun _ H'=>Q .non H',rt:=Q } (start N vs) H):au P w K mg base CX0 (k+1) f fd ps sp:=by
 obtain⟨oc,od,kV,doc,pm,an,cdv,ct,osl,rfl,lk,hcd⟩:=F.ex
 refine uZ lk hcd S len fun A outer s H vs Q E hr hsp=>?_
 obtain⟨t,h,q⟩:=hbody cdv A outer s H vs Q E hr hsp
 exact⟨t,h.nox,q⟩
theorem Fun.binds {x qual:Str}{st:Stmt}{f:Addr}{fd:FuncData}{ps:List Str}(F:Fun K x qual st f fd)
   (h:∀ (kV doc pm:Value)(an:Option Addr) (cdv ct:Value)(us:List Value),us.length=ps.length→bindArgs (PySem.W.fnOf x qual (aF st) (aC st) (af st) .none kV doc pm an cdv ct) ⟨us,[]⟩=pure (ps.zip us)):aE K fd ps []:=by
 obtain⟨oc,od,kV,doc,pm,an,cdv,ct,osl,rfl,lk,hcd⟩:=F.ex
 exact .all (h kV doc pm an cdv ct)
theorem aU {x qual:Str}{st:Stmt}{f:Addr}{oc:Value}{od an:Option Addr}{osl:Array (Option Value)}{kV doc pm cdv ct:Value}(l:K.lookup f=some ⟨oc,od,.func (PySem.W.fnOf x qual (aF st) (aC st) (af st) .none kV doc pm an cdv ct),osl⟩)
 (c:PySem.W.codeIn K cdv qual=true)(k:PySem.W.keepIn K (.ref f)=true):Fun K x qual st f (PySem.W.fnOf x qual (aF st) (aC st) (af st) .none kV doc pm an cdv ct):=⟨⟨oc,od,kV,doc,pm,an,cdv,ct,osl,rfl,l,c⟩,k⟩
end
/-! ### expressions in short: the name that stands in the i-th slot -/
section
variable {X:Cx}
theorem pv (i:Nat){x:Str}{pos:Pos}(hN:X.N[i]?=some x:=by rfl)(hv:Vis X.env.scope x:=by first | exact Or.inl rfl | exact Or.inr (Or.inl rfl) | exact Or.inr (Or.inr rfl))(hd:(x==("__debug__":Str))=false:=by decide)
 (hcd:(x==("__classdict__":Str))=false:=by decide):PE X (.Name x pos) (rn i):=v6 hN hv hd hcd
theorem qM:cX X (.builtin "len") (fun xs H Q=>∃ a kvs,xs=[V.ref a]∧H a=some (.dK kvs)∧Q (.int kvs.length) H):=by
 intro pins s σ H xs us Q I r h
 obtain⟨a,kvs,rfl,ha,q⟩:=h
 obtain⟨u,rfl,ru⟩:=ef r
 cases ru
 exact wl I (.inl ha) fun t s' I'=>⟨.int kvs.length,H,I',⟨t,rfl⟩,q⟩
end

/-! ### tests -/
theorem aY {c A B:Prop} [Decidable c](h1:c→A)(h2:¬c→B):if c then A else B:=by
 by_cases h:c
 · rw[if_pos h]
   exact h1 h
 · rw[if_neg h]
   exact h2 h
/-! ### heaps -/
def ae (H H':Hp):Prop:=∀ b o,H b=some o→H' b=some o
theorem ae.refl (H:Hp):ae H H:=fun _ _ h=>h
theorem ae.trans {H H1 H2:Hp}(a:ae H H1)(b:ae H1 H2):ae H H2:=fun c o h=>b c o (a c o h)
theorem ae.free {H H':Hp}(e:ae H H'){l:Addr}(h:H' l=Option.none):H l=Option.none:=by
 cases q:H l with
 | none=>rfl
 | some o =>
   rw[e l o q] at h
   cases h
theorem ae.seq {K:PySem.W.Frag}{H H':Hp}{a:Addr}{xs:List V}(e:ae H H')(h:SqL K H a xs):SqL K H' a xs:=by
 rcases h with (h | ⟨o,h⟩) | h
 · exact .inl (.inl (e _ _ h))
 · exact .inl (.inr ⟨o,e _ _ h⟩)
 · exact .inr h

/-! ### a dict's pairs: keys that differ -/
section
variable {κ:Type} [DecidableEq κ]
theorem g7:∀ {l:List κ}{k:κ},l.Nodup→¬k∈l→(l++[k]).Nodup
 | [],k,_,_=>by simp
 | a::r,k,h,hk=>by
   obtain⟨h1,h2⟩:=List.nodup_cons.mp h
   show(a::(r++[k])).Nodup
   refine List.nodup_cons.mpr ⟨fun m=>?_,g7 h2 fun m=>hk (List.mem_cons.mpr (Or.inr m))⟩
   rcases List.mem_append.mp m with q | q
   · exact h1 q
   · exact hk (List.mem_cons.mpr (Or.inl (List.mem_singleton.mp q).symm))
end
end L2

set_option Elab.async false
set_option linter.all false
set_option maxRecDepth 100000
set_option maxHeartbeats 4000000
namespace L2
open PySem PySem.Spec PyProof.Rows

/-! ### list comprehensions of one clause without a test -/
def ja (cells:List (Str×Addr)):List (Str×NameKind)→List (Str×Addr)→List (Str×Addr)
 | [],acc=>acc
 | (n,k)::r,acc=>ja cells r (if(k==.free)=true then(n,(cells.lookup n).getD 0)::acc else acc)
def i9 (scope:Scope)(env:Env):List (Str×Addr):=ja env.cells scope.names []
theorem gY {env:Env}:∀ (names:List (Str×NameKind))(acc:List (Str×Addr)),(∀ y∈names,y.2=.free→∃ c,env.cells.lookup y.1=some c) →
   (forIn names acc (fun(x:Str×NameKind)(r:List (Str×Addr))=>if(x.2==.free)=true then(do let c ←cellOf env x.1;pure (ForInStep.yield ((x.1,c)::r))) else pure (ForInStep.yield r)):Sem (List (Str×Addr)))=pure (ja env.cells names acc)
 | [],acc,_=>by simp[ja]
 | (n,k)::r,acc,h=>by
   have hr:∀ y∈r,y.2=.free→∃ c,env.cells.lookup y.1=some c:=fun y hy=>h y (List.mem_cons_of_mem _ hy)
   by_cases hk:(k==NameKind.free)=true
   · obtain⟨c,hc⟩:=h (n,k) List.mem_cons_self (by simpa using hk)
     have e:cellOf env n=pure c:=by unfold cellOf;rw[show env.cells.lookup n=some c from hc]
     simp only[List.forIn_cons,hk,if_true,e,pure_bind,ja,hc,Option.getD_some]
     exact gY r _ hr
   · simp only[List.forIn_cons,hk,Bool.false_eq_true,if_false,pure_bind,ja]
     exact gY r _ hr
theorem g4 {env:Env}{scope:Scope}(h:∀ y∈scope.names,y.2=.free→∃ c,env.cells.lookup y.1=some c):closureFor scope env=pure (i9 scope env):=by
 unfold closureFor i9
 have:=gY scope.names [] h
 simpa using this
end L2

set_option Elab.async false
set_option linter.all false
set_option maxRecDepth 100000
set_option maxHeartbeats 4000000
namespace L2
open PySem PySem.Spec PyProof.Rows

theorem jQ {cells:List (Str×Addr)}{n:Str}{c:Addr}:∀ (names:List (Str×NameKind))(acc:List (Str×Addr)),(n,c)∈ja cells names acc→(n,c)∈acc∨((n,NameKind.free)∈names∧c=(cells.lookup n).getD 0)
 | [],acc,h=>.inl h
 | (y,k)::r,acc,h=>by
   have h':(n,c)∈ja cells r (if(k==.free)=true then(y,(cells.lookup y).getD 0)::acc else acc):=h
   rcases jQ r _ h' with q | ⟨q1,q2⟩
   · by_cases hk:(k==NameKind.free)=true
     · rw[if_pos hk] at q
       rcases List.mem_cons.mp q with e | q
       · injection e with e1 e2
         subst e1
         have hk':k=.free:=by simpa using hk
         subst hk'
         exact .inr ⟨List.mem_cons_self,e2⟩
       · exact .inl q
     · rw[if_neg hk] at q
       exact .inl q
   · exact .inr ⟨List.mem_cons_of_mem _ q1,q2⟩
theorem kZ {cells:List (Str×Addr)}{p:Str×Addr}:∀ (names:List (Str×NameKind))(acc:List (Str×Addr)),p∈acc→p∈ja cells names acc
 | [],acc,h=>h
 | (y,k)::r,acc,h=>by
   show p∈ja cells r (if(k==.free)=true then(y,(cells.lookup y).getD 0)::acc else acc)
   refine kZ r _ ?_
   split
   · exact List.mem_cons_of_mem _ h
   · exact h
theorem mt {cells:List (Str×Addr)}{n:Str}:∀ (names:List (Str×NameKind))(acc:List (Str×Addr)),(n,NameKind.free)∈names→(n,(cells.lookup n).getD 0)∈ja cells names acc
 | (y,k)::r,acc,h=>by
   show _∈ja cells r (if(k==.free)=true then(y,(cells.lookup y).getD 0)::acc else acc)
   rcases List.mem_cons.mp h with e | h
   · injection e with e1 e2
     subst e1 e2
     exact kZ r _ (by rw[if_pos (by rfl)];exact List.mem_cons_self)
   · exact mt r _ h
theorem eV {n:Str}{c:Addr}:∀ {l:List (Str×Addr)},(n,c)∈l→(∀ d,(n,d)∈l→d=c)→l.lookup n=some c
 | (y,d)::r,h,ha=>by
   by_cases e:n=y
   · subst e
     have hd:d=c:=ha d List.mem_cons_self
     simp[List.lookup_cons,hd]
   · have e':(n==y)=false:=by simpa using e
     rw[List.lookup_cons,e']
     refine eV ?_ fun d hd=>ha d (List.mem_cons_of_mem _ hd)
     rcases List.mem_cons.mp h with z | z
     · injection z with z1 _
       exact absurd z1 e
     · exact z
theorem i7 {env:Env}{scope:Scope}{n:Str}{c:Addr}(h:(n,NameKind.free)∈scope.names)(hc:env.cells.lookup n=some c):(i9 scope env).lookup n=some c:=by
 unfold i9
 have h1:=mt (cells:=env.cells) scope.names [] h
 rw[hc] at h1
 refine eV h1 fun d hd=>?_
 rcases jQ _ _ hd with q | ⟨_,q⟩
 · cases q
 · rw[hc] at q;exact q
theorem uz {env:Env}{scope:Scope}{n:Str}{c:Addr}(hf:∀ y∈scope.names,y.2=.free→∃ c,env.cells.lookup y.1=some c)(h:(i9 scope env).lookup n=some c):(n,NameKind.free)∈scope.names∧env.cells.lookup n=some c:=by
 have hm:=PySem.mem_of_lookup h
 unfold i9 at hm
 rcases jQ _ _ hm with q | ⟨q1,q2⟩
 · cases q
 · obtain⟨d,hd⟩:=hf _ q1 rfl
   have hd:env.cells.lookup n=some d:=hd
   rw[hd] at q2
   have e:c=d:=q2
   subst e
   exact⟨q1,hd⟩

def cxB (X:Cx)(N:List Str)(scope:Scope)(s:Shared)(H:Hp)(ex:List Addr):Cx where
 prog:=X.prog
 w:=X.w
 K:=X.K
 mg:=X.mg
 base:=X.base
 A:=X.A
 N:=N
 s₀:=s
 H₀:=H
 env:=compEnvC scope (i9 scope X.env) s.heap.objs.size X.env
 outer:=X.stack
 stack:=X.stack
 ex:=ex
 calm:=X.calm
 fn:=fun _=>false
 pn:=[]
 xe:=fun _ _=>False

def gQ (pk:List (Option Nat)) (σ:St):St:=pk.map fun o=>o.bind fun j=>(σ[j]?).bind id

structure cV (N:List Str)(env:Env)(scope:Scope)(N':List Str)(pk:List (Option Nat)):Prop where
 kind:scope.kind=.function
 nocell:∀ y∈scope.names,y.2≠.cell
 names:∀ y∈scope.names,y.2=.local→scope.names.lookup y.1=some .local
 free:∀ y∈scope.names,y.2=.free→(env.scope.names.lookup y.1=some .cell∨env.scope.names.lookup y.1=some .free)
 len:pk.length=N'.length
 cap:∀ (i:Nat) (x:Str),N'[i]?=some x→∀ (j:Nat),pk[i]?=some (some j)→N[j]?=some x∧scope.names.lookup x=some .free

theorem ir {env:Env}{x:Str}{k:NameKind}:∀ {names:List (Str×NameKind)},(names.map fun(n,k)=>if(k==NameKind.free&&env.scope.kind==.function&&env.kindOf n==some .cell) then(n,NameKind.cell) else(n,k)).lookup x=some k→k=.cell∨k=.free →
   (∀ y∈names,y.2≠.cell)→(x,NameKind.free)∈names
 | [],h,_,_=>by simp at h
 | (n,k')::r,h,hk,hc=>by
   have hc':∀ y∈r,y.2≠.cell:=fun y hy=>hc y (List.mem_cons_of_mem _ hy)
   have h':List.lookup x ((if(k'==NameKind.free&&env.scope.kind==.function&&env.kindOf n==some .cell)=true then(n,NameKind.cell) else(n,k'))::(r.map fun(n,k)=>if(k==NameKind.free&&env.scope.kind==.function&&env.kindOf n==some .cell) then(n,NameKind.cell) else(n,k)))=some k:=h
   by_cases e:x=n
   · subst e
     by_cases hq:(k'==NameKind.free&&env.scope.kind==.function&&env.kindOf x==some .cell)=true
     · have:k'=.free:=by
         rw[Bool.and_eq_true,Bool.and_eq_true] at hq
         simpa using hq.1.1
       rw[←this];exact List.mem_cons_self
     · rw[if_neg hq] at h'
       simp[List.lookup_cons] at h'
       subst h'
       rcases hk with hk | hk
       · exact absurd hk (hc _ List.mem_cons_self)
       · rw[←hk];exact List.mem_cons_self
   · have e':(x==n)=false:=by simpa using e
     have h2:List.lookup x (r.map fun(n,k)=>if(k==NameKind.free&&env.scope.kind==.function&&env.kindOf n==some .cell) then(n,NameKind.cell) else(n,k))=some k:=by
       split at h'<;>(rw[List.lookup_cons,e'] at h';exact h')
     exact List.mem_cons_of_mem _ (ir h2 hk hc')
theorem jV {env:Env}{x:Str}:∀ {names:List (Str×NameKind)},names.lookup x=some .free →
   (names.map fun(n,k)=>if(k==NameKind.free&&env.scope.kind==.function&&env.kindOf n==some .cell) then(n,NameKind.cell) else(n,k)).lookup x=some .cell ∨
   (names.map fun(n,k)=>if(k==NameKind.free&&env.scope.kind==.function&&env.kindOf n==some .cell) then(n,NameKind.cell) else(n,k)).lookup x=some .free
 | [],h=>by simp at h
 | (n,k')::r,h=>by
   show List.lookup x ((if(k'==NameKind.free&&env.scope.kind==.function&&env.kindOf n==some .cell)=true then(n,NameKind.cell) else(n,k'))::(r.map fun(n,k)=>if(k==NameKind.free&&env.scope.kind==.function&&env.kindOf n==some .cell) then(n,NameKind.cell) else(n,k)))=_ ∨
     List.lookup x ((if(k'==NameKind.free&&env.scope.kind==.function&&env.kindOf n==some .cell)=true then(n,NameKind.cell) else(n,k'))::(r.map fun(n,k)=>if(k==NameKind.free&&env.scope.kind==.function&&env.kindOf n==some .cell) then(n,NameKind.cell) else(n,k)))=_
   by_cases e:x=n
   · subst e
     have hk:k'=.free:=by simpa [List.lookup_cons] using h
     subst hk
     split
     · left;simp[List.lookup_cons]
     · right;simp[List.lookup_cons]
   · have e':(x==n)=false:=by simpa using e
     rw[List.lookup_cons,e'] at h
     have ih:=jV (env:=env) (x:=x) (names:=r) h
     split<;>(simp only[List.lookup_cons,e'];exact ih)
section
variable {X:Cx}{pins:List (Addr×Obj)}{σ:St}{H:Hp}{s:Shared}{scope:Scope}{N':List Str}{pk:List (Option Nat)}{fp:List Addr}

theorem jf (I:Inv X pins σ H s)(B:cV X.N X.env scope N' pk):∀ y∈scope.names,y.2=.free→∃ c,X.env.cells.lookup y.1=some c:=fun y hy hf=>I.ok.has y.1 (B.free y hy hf)

theorem pZ {h₁:Heap}{t:Nat}(I:Inv X pins σ H s)(B:cV X.N X.env scope N' pk)(hf:∀ b∈fp,fJ X pins H b)(ho:∀ b∈fp,∃ o,s.heap.get? b=some o)
   (hn:h₁.Ns s.heap.objs.size (fun _=>none))(hs:∀ b o,s.heap.get? b=some o→h₁.get? b=some o) :
   Inv (cxB X N' scope s H fp) [] (gQ pk σ) H { s with heap:=h₁,toks:=t }:=by
 have bh:=jf I B
 have clx:∀ x c,(i9 scope X.env).lookup x=some c→(x,NameKind.free)∈scope.names∧X.env.cells.lookup x=some c:=fun x c h=>uz bh h
 refine⟨⟨I.ok.mod,?_,I.ok.glob,I.ok.blt,Nat.le_refl _,fun x y c h1 h2=>?_,fun x hx=>?_,fun x c h _=>?_,I.ok.hd,I.ok.frames,.inl rfl,fun b hb=>⟨?_,fun x c h=>?_⟩,I.bs,Nat.le_trans I.ok.bsz I.sz,fun b o e hb=>?_,fun b hb hfs=>?_,I.stack,I.stkFree⟩,
   rfl,I.bare,Un.kept hs,⟨_,hn,fun i x v h1 h2 h3=>?_⟩,fun x c h=>?_,I.hok.fresh (Nat.le_refl _),fun x c h=>?_,fun p hp=>absurd (show p∈([]:List (Addr×Obj)) from hp) (by simp),I.hok.kept hs,?_⟩
 · exact B.kind
 · exact I.ok.inj x y c (clx x c h1).2 (clx y c h2).2
 · have hx':(relabel scope X.env).names.lookup x=some .cell∨(relabel scope X.env).names.lookup x=some .free:=hx
   have hm:(x,NameKind.free)∈scope.names:=by
     rcases hx' with z | z
     · exact ir z (.inl rfl) B.nocell
     · exact ir z (.inr rfl) B.nocell
   obtain⟨c,hc⟩:=bh _ hm rfl
   exact⟨c,i7 hm hc⟩
 · exact absurd (show false=true from h) Bool.false_ne_true
 · obtain⟨o,e⟩:=ho b hb
   exact Nat.ne_of_lt (Heap.lt_size e)
 · exact(hf b hb).2.2.2.2.1 x c (clx x c h).2
 · have:=(hf b hb)
   obtain⟨_,_,_,h4,_⟩:=this
   rcases h4 with q | q
   · exact I.ok.noex b o e q
   · exact absurd (Nat.lt_of_lt_of_le (Heap.lt_size e) (Nat.le_trans I.ok.bsz q)) (Nat.lt_irrefl _)
 · obtain⟨_,h2,h3,_⟩:=hf b hb
   rcases List.mem_cons.mp (I.stkSub b hfs) with q | q
   · exact h2 q
   · exact h3 q
 · -- a captured name
   have h2':(pk.map fun o=>o.bind fun j=>(σ[j]?).bind id)[i]?=some (some v):=h2
   rw[List.getElem?_map] at h2'
   cases ep:pk[i]? with
   | none=>rw[ep] at h2';cases h2'
   | some o =>
     rw[ep] at h2'
     have h2':o.bind (fun j=>(σ[j]?).bind id)=some v:=Option.some.inj h2'
     cases o with
     | none=>cases h2'
     | some j =>
       have h2':(σ[j]?).bind id=some v:=h2'
       have hj:σ[j]?=some (some v):=by
         cases q:σ[j]? with
         | none=>rw[q] at h2';cases h2'
         | some w=>rw[q] at h2';exact congrArg some h2'
       obtain⟨hN,hlk⟩:=B.cap i x h1 j ep
       have hm:=PySem.mem_of_lookup hlk
       obtain⟨m,_,hl⟩:=I.loc
       have hv:Vis X.env.scope x:=by
         rcases B.free _ hm rfl with z | z
         · exact .inr (.inl z)
         · exact .inr (.inr z)
       obtain⟨u,r,l⟩:=hl j x v hN hj hv
       refine⟨u,r,?_⟩
       rcases l with ⟨k,_⟩ | ⟨k,c,hc,hcell⟩
       · have k':X.env.scope.names.lookup x=some .local:=k
         rcases B.free _ hm rfl with z | z
         · rw[show X.env.scope.names.lookup x=some .cell from z] at k';cases k'
         · rw[show X.env.scope.names.lookup x=some .free from z] at k';cases k'
       · refine .inr ⟨?_,c,i7 hm hc,?_⟩
         · rcases h3 with z | z
           · have z':(relabel scope X.env).names.lookup x=some .local:=z
             rcases jV (env:=X.env) hlk with y | y
             · have y':(relabel scope X.env).names.lookup x=some .cell:=y
               rw[y'] at z';cases z'
             · have y':(relabel scope X.env).names.lookup x=some .free:=y
               rw[y'] at z';cases z'
           · exact z
         · obtain⟨o,ho,hd⟩:=hcell
           exact⟨o,hs _ _ ho,hd⟩
 · obtain⟨v,o,ho,hd⟩:=I.cell x c (clx x c h).2
   exact⟨v,o,hs _ _ ho,hd⟩
 · exact I.freeC x c (clx x c h).2
 · show(gQ pk σ).length=N'.length
   unfold gQ
   rw[List.length_map]
   exact B.len
end
end L2

set_option Elab.async false
set_option linter.all false
set_option maxRecDepth 100000
set_option maxHeartbeats 4000000
namespace L2
open PySem PySem.Spec PyProof.Rows

theorem lH {prog:Program}{w:World}{A:Around}{R:Result→Shared→Prop}{s:Shared}{elt target iter:Expr}{scope:Scope}{pos:Pos}{it acc:Value}{env:Env}(I:Nat→Shared→Prop)
   (turn:∀ n s,I n s→∀ E:Value→Shared→Prop,wpAny (model prog w) A (pyNext it) (fun r s₁=>match r with
     | none=>R (.ok .next) s₁
     | some v=>wpAny (model prog w) A (letOwnedTupleGo target it v) (fun _ s₁'=>wpAny (model prog w) A (assign target env v) (fun _ s₂=>wpAny (model prog w) A (eval elt env) (fun x s₃ =>
         wpAny (model prog w) A (call (.builtin "list.append") [acc,x]) (fun _ s₄=>∃ m,m < n∧I m s₄) E s₃) E s₂) E s₁') E s₁) E s)
   (n:Nat)(h:I n s) :
   codeAny (model prog w) A (.compLoop (.ListComp elt [⟨target,iter,[],0⟩] scope pos) 0 it acc env) R s:=by
 refine codeAny_loop rfl I (fun n s hI=>?_) n h
 show wpAny _ _ ((compTurn (.ListComp elt [⟨target,iter,[],0⟩] scope pos) 0 it acc env).onRaise (fun x=>do noteFrame x env;theTreesLotGoes x)) _ _ s
 refine wpAny_noted ?_
 rw[compTurn_list1]
 refine wpAny_bind (wpAny_standAt (wpAny_bind (wpAny_mono (turn n s hI _) (fun r s₁ h₁=>?_) fun _ _ h'=>h')))
 cases r with
 | none=>exact wpAny_pure h₁
 | some v =>
   refine wpAny_bind (wpAny_mono h₁ (fun _ s₁' h₁=>?_) fun _ _ h'=>h')
   exact wpAny_bind (wpAny_mono h₁ (fun _ s₂ h₂=>wpAny_bind (wpAny_bind (wpAny_mono h₂ (fun x s₃ h₃=>wpAny_bind (wpAny_mono h₃
     (fun _ s₄ h₄=>wpAny_pure (wpAny_pure ⟨rfl,h₄⟩)) fun _ _ h'=>h')) fun _ _ h'=>h'))) fun _ _ h'=>h')

def kj (J:It)(g:TG)(te:TE)(D:Addr)(Q:Hp→Prop) (σ:St)(H:Hp):Prop :=
 ∃ W:Nat→Nat→St→Hp→Prop,(∃ m,W 0 m σ H)∧∀ i m σ' H',W i m σ' H' →
   (J.stop i H'∧Q H')∨(J.go i H'∧∃ N:St→Hp→Prop,(∀ σ'' H'',N σ'' H''→∃ m',m' < m∧W (i+1) m' σ'' H'') ∧
     ∀ x H2,J.yld i H' x H2→g x σ' H2 fun σ2 H3=>te σ2 H3 fun v H4=>∃ xs,H4 D=some (.lst xs)∧xs.length < sizeLine∧N σ2 (upd H4 D (.lst (xs++[v]))))

section
variable {X:Cx}{pins:List (Addr×Obj)}{σ:St}{H:Hp}{s:Shared}{scope:Scope}{N':List Str}{pk:List (Option Nat)}{fp:List Addr}

theorem nR {elt tg iter:Expr}{g:TG}{te:TE}{J:It}{it:Addr}{tn:Nat→Heap→Prop}{pos:Pos}{QD:Addr→Hp→Prop}{E:Value→Shared→Prop}{RR:Value→Addr→Result→Shared→Prop}
   (I:Inv X pins σ H s)(B:cV X.N X.env scope N' pk)(hc:X.calm=true)(T:my X.prog X.w X.K tg J fp it tn)(st:tn 0 s.heap)(hf:∀ b∈fp,fJ X pins H b)
   (hg:∀ s H ex,PG (cxB X N' scope s H ex) tg g)(he:∀ s H ex,PE (cxB X N' scope s H ex) elt te)
   (hW:∀ D,H D=none→kj J g te D (QD D) (gQ pk σ) (upd H D (.lst [])))
   (fin:∀ D C s' H' m,Inv X pins σ H' s'→fJ X pins H' C→s'.heap.Ns C m→QD D H'→RR (.ref D) C (.ok .next) s') :
   wpAny (model X.prog X.w) X.A (newList []) (fun acc s₃=>wpAny (model X.prog X.w) X.A (newFunctionEnv scope X.env.globals (i9 scope X.env) [] X.env.qual none .none (some X.env)) (fun cenv s₄ =>
     codeAny (model X.prog X.w) X.A (.compStart (.ListComp elt [⟨tg,iter,[],0⟩] scope pos) 0 (.ref it) acc { cenv with scope:=relabel scope X.env }) (RR acc cenv.locals) s₄) E s₃) E s:=by
 have hD0:H s.heap.objs.size=none:=I.hok.fresh (Nat.le_refl _)
 refine wpAny_newObj_type (wpAny_newFunctionEnv B.nocell (by intro y hy;simp at hy) (fun h₁ hns₁ hsb₁=>?_) B.kind)
 dsimp only at hns₁ hsb₁ ⊢
 have I3:Inv X pins σ (upd H s.heap.objs.size (.lst [])) { s with heap:=s.heap.push { cls:=.type "list",dict:=none,data:=.seq ([]:List Value).toArray } }:=I.lnew (t':=s.toks) .nil (Nat.zero_le _)
 obtain⟨W,⟨m0,w0⟩,turn⟩:=hW _ hD0
 generalize hs3:({ s with heap:=s.heap.push { cls:=.type "list",dict:=none,data:=.seq ([]:List Value).toArray } }:Shared)=s3 at I3
 have eh:s.heap.push { cls:=.type "list",dict:=none,data:=.seq ([]:List Value).toArray }=s3.heap:=by rw[←hs3]
 have hold:∀ b o,s.heap.get? b=some o→s3.heap.get? b=some o:=fun b o e=>by rw[←eh];exact Heap.get?_push_of_some _ e
 rw[eh] at hns₁ hsb₁
 have hs:∀ b o,s3.heap.get? b=some o→h₁.get? b=some o:=fun b o e=>hsb₁.extBut b o (Nat.ne_of_lt (Heap.lt_size e)) (Heap.get?_push_of_some _ e)
 have hf3:∀ b∈fp,fJ X pins (upd H s.heap.objs.size (.lst [])) b:=fun b hb=>by
   refine⟨?_,(hf b hb).2⟩
   obtain⟨o,e,_⟩:=T.obj 0 _ st b hb
   rw[ag (Nat.ne_of_lt (Heap.lt_size e))]
   exact(hf b hb).1
 have ho3:∀ b∈fp,∃ o,s3.heap.get? b=some o:=fun b hb=>by
   obtain⟨o,e,_⟩:=T.obj 0 _ st b hb
   exact⟨o,hold _ _ e⟩
 have st1:tn 0 h₁:=T.keep 0 _ _ st fun b hb o e=>hs b o (hold b o e)
 have esh:∀ t,({ s with heap:=h₁,toks:=t }:Shared)={ s3 with heap:=h₁,toks:=t }:=fun t=>by rw[←hs3]
 have loop:∀ t,codeAny (model X.prog X.w) X.A (.compLoop (.ListComp elt [⟨tg,iter,[],0⟩] scope pos) 0 (.ref it) (.ref s.heap.objs.size) (compEnvC scope (i9 scope X.env) s3.heap.objs.size X.env))
     (RR (.ref s.heap.objs.size) s3.heap.objs.size) { s with heap:=h₁,toks:=t }:=fun t=>by
   rw[esh t]
   have IB:Inv (cxB X N' scope s3 (upd H s.heap.objs.size (.lst [])) fp) [] (gQ pk σ) (upd H s.heap.objs.size (.lst [])) { s3 with heap:=h₁,toks:=t }:=pZ I3 B hf3 ho3 hns₁ hs
   have f2:∀ b∈fp,fJ (cxB X N' scope s3 (upd H s.heap.objs.size (.lst [])) fp) [] (upd H s.heap.objs.size (.lst [])) b:=fun b hb =>
     ⟨(hf3 b hb).1,(IB.ok.exf b hb).1,IB.ok.exfs b hb,.inl hb,(IB.ok.exf b hb).2,fun p hp=>absurd (show p∈([]:List (Addr×Obj)) from hp) (by simp)⟩
   have stat:∀ {H':Hp},(∀ b∈fp,H' b=none)→∀ b∈fp,fJ (cxB X N' scope s3 (upd H s.heap.objs.size (.lst [])) fp) [] H' b:=fun hn b hb=>⟨hn b hb,(f2 b hb).2⟩
   refine lH (fun n s'=>∃ i σ' H',Inv (cxB X N' scope s3 (upd H s.heap.objs.size (.lst [])) fp) [] σ' H' s'∧tn i s'.heap∧(∀ b∈fp,H' b=none)∧W i n σ' H') ?_ m0 ⟨0,_,_,IB,st1,fun b hb=>(f2 b hb).1,w0⟩
   rintro n s4 ⟨i,σ4,H4,I4,st4,fr4,w4⟩ E'
   rcases turn i n σ4 H4 w4 with ⟨stop,qn⟩ | ⟨go,N,hN,step⟩
   · refine thn (T.done (cxB X N' scope s3 (upd H s.heap.objs.size (.lst [])) fp) rfl rfl rfl hc i [] s4 σ4 H4 E' I4 (stat fr4) st4 stop) fun r s5 ⟨hr,I5⟩=>?_
     subst hr
     obtain⟨m5,hn5,_⟩:=I5.loc
     have IX:Inv X pins σ H4 s5:=I3.call' (ch:=fp) I5.os I5.base I5.hok I5.bare fun b hb=>⟨(hf3 b hb).2.2.2.1,(hf3 b hb).2.1,(hf3 b hb).2.2.2.2.1,(hf3 b hb).2.2.2.2.2⟩
     exact fin _ _ s5 H4 m5 IX (I3.fpOk (Nat.le_refl _) I5.free) hn5 qn
   · refine thn (T.item (cxB X N' scope s3 (upd H s.heap.objs.size (.lst [])) fp) rfl rfl rfl hc i [] s4 σ4 H4 E' I4 (stat fr4) st4 go) fun r s5 ⟨u,hr,h5⟩=>?_
     subst hr
     refine thn h5 fun _ s6 ⟨x,H6,I6,r6,y6,st6,fr6⟩=>?_
     have I6':=I6.pinned (stat fr6) (T.obj _ _ st6)
     refine wpAny_mono (hg _ _ _ s6 σ4 H6 x u _ I6' r6 (step x H6 y6)) (fun _ s7 ⟨σ7,H7,I7,q7⟩=>?_) fun _ _ z=>False.elim z
     refine wpAny_mono (he _ _ _ s7 σ7 H7 _ I7 q7) (fun w s8 ⟨v,H8,I8,r8,xs,hx8,hl8,n8⟩=>?_) fun _ _ z=>False.elim z
     refine wpAny_mono (cr (X:=cxB X N' scope s3 (upd H s.heap.objs.size (.lst [])) fp) _ s8 σ7 H8 (.ref s.heap.objs.size) [v] (.ref s.heap.objs.size) [w] (fun _ H9=>N σ7 H9) I8 rfl (.cons r8 .nil) ⟨_,xs,v,rfl,rfl,hx8,hl8,n8⟩) (fun _ s9 ⟨_,H9,I9,_,n9⟩=>?_) fun _ _ z=>False.elim z
     obtain⟨m',hm,w9⟩:=hN σ7 H9 n9
     refine⟨m',hm,i+1,σ7,H9,I9.unpinned,T.keep _ _ _ st6 fun b hb o e=>(I9.pin (b,o) (List.mem_append_right _ (List.mem_append_right _ (dR hb e)))).1,fun b hb=>?_,w9⟩
     obtain⟨o,e,d⟩:=T.obj _ _ st6 b hb
     exact(I9.pin (b,o) (List.mem_append_right _ (List.mem_append_right _ (dR hb e)))).2.1
 rw[←eh] at loop
 exact codeAny_compStart_list (loop _) (T.self _ _ _ _ _ st1 (loop _))

theorem Inv.gone {h':Heap}{C:Addr}(I:Inv X pins σ H s)(f:fJ X pins H C)(hs:Heap.SameBut C s.heap h'):Inv X pins σ H { s with heap:=h' } :=
 I.turned (t':=s.toks) (it:=C) (fun b o hb e=>hs.extBut b o hb e) f.1 f.2.1 f.2.2.2.1 f.2.2.2.2.1 f.2.2.2.2.2

def tz (pk:List (Option Nat))(wi:TI)(g:TG)(te:TE):TE:=fun σ H Q=>wi σ H fun J H1=>∀ D,H1 D=none→kj J g te D (fun H'=>Q (.ref D) H') (gQ pk σ) (upd H1 D (.lst []))

theorem er {elt tg iter:Expr}{wi:TI}{g:TG}{te:TE}{pos:Pos}(hc:X.calm=true)(B:cV X.N X.env scope N' pk)(hi:PI X tg iter wi)
   (hg:∀ s H ex,PG (cxB X N' scope s H ex) tg g)(he:∀ s H ex,PE (cxB X N' scope s H ex) elt te)(hs:∀ x,foldedSetIterable iter X.env x=pure x:=by intro _;rfl) :
   PE X (.ListComp elt [⟨tg,iter,[],0⟩] scope pos) (tz pk wi g te):=by
 intro pins s σ H Q I h
 rw[eval_ListComp]
 have hclos:=g4 (jf I B)
 refine wpAny_comprehension_free (use:=none) rfl hs hclos B.kind B.names (thn (hi s σ H _ I h) fun v s1 h1=>thn h1 fun itv s2 h2=>?_)
 obtain⟨it,fp,tn,J,H2,e,I2,T,st2,f2,hW⟩:=h2
 subst e
 refine nR (QD:=fun D H'=>Q (.ref D) H') (RR:=fun acc C=>compPost (model X.prog X.w) X.A X.xe none (EP X pins σ Q) acc C) I2 B hc T st2 f2 hg he hW fun D C s' H' m I' f' hn q=>?_
 exact⟨m,hn,fun h' hs'=>⟨.ref D,H',I'.gone f' hs',rfl,q⟩⟩

theorem lK {i:Nat}{y:Str}{elt tg iter:Expr}{wi:TI}{g:TG}{te:TE}{pos spos py:Pos}(hN:X.N.Nodup)(hiy:X.N[i]?=some y)(hy:Loc X.env.scope y)(hc:X.calm=true)(B:cV X.N X.env scope N' pk)(hi:PI X tg iter wi)
   (hg:∀ s H ex,PG (cxB X N' scope s H ex) tg g)(he:∀ s H ex,PE (cxB X N' scope s H ex) elt te)
   (hsw:swapsWith (.ListComp elt [⟨tg,iter,[],0⟩] scope pos) (some (.Name y py)) spos.line X.env=pure true:=by rfl)
   (hs:∀ x,foldedSetIterable iter X.env x=pure x:=by intro _;rfl)(hf:X.fn y=true∨X.env.scope.names.lookup y=some .local:=by first | exact .inl rfl | exact .inr rfl | assumption) :
   PS X (.Assign [.Name y py] (.ListComp elt [⟨tg,iter,[],0⟩] scope pos) spos) (tX (tz pk wi g te) (cP i)):=by
 intro pins s σ H D0 I h
 rw[exec_Assign_Name_used _ _ _ _ hsw]
 have hclos:=g4 (jf I B)
 refine wpAny_bind (wpAny_standAt (wpAny_bind ?_))
 show wpAny _ X.A (do let _ ←comprehension (.ListComp elt [⟨tg,iter,[],0⟩] scope pos) scope X.env _ (newList []) false (eval iter X.env) (some (assign (.Name y py) X.env))) _ _ s
 refine wpAny_bind (wpAny_mono (wpAny_comprehension_free (use:=some (assign (.Name y py) X.env)) (Q:=fun _ s'=>SP X pins D0 .next s') rfl hs hclos B.kind B.names
   (thn (hi s σ H _ I h) fun v s1 h1=>thn h1 fun itv s2 h2=>?_)) (fun _ s' hq=>wpAny_pure (wpAny_pure hq)) fun _ _ e=>e)
 obtain⟨it,fp,tn,J,H2,e,I2,T,st2,f2,hW⟩:=h2
 subst e
 refine nR (QD:=fun D H'=>D0.nx (σ.set i (some (.ref D))) H') (RR:=fun acc C=>compPost (model X.prog X.w) X.A X.xe (some (assign (.Name y py) X.env)) (fun _ s'=>SP X pins D0 .next s') acc C) I2 B hc T st2 f2 hg he hW fun D C s' H' m I' f' hn q=>?_
 show wpAny _ X.A (assign (.Name y py) X.env (.ref D)) _ _ _
 refine wpAny_assign_Name (lm (v:=.ref D) I' hN hiy hy rfl (fun s3 I3 ⟨a,hsa,ha⟩=>?_) hf)
 have hCa:C≠a:=by
   rcases ha with z | z
   · rw[z];exact f'.2.1
   · exact fun e=>f'.2.2.2.2.1 _ _ z e.symm
 exact⟨m,hn.sameBut hsa hCa,fun h' hs'=>⟨_,H',I3.gone f' hs',q⟩⟩
end
end L2

set_option Elab.async false
set_option linter.all false
set_option maxRecDepth 100000
set_option maxHeartbeats 4000000
namespace L2
open PySem PySem.Spec PyProof.Rows

/-! ### iterators by the library's Walks: n values,given by what stands at each place -/
def Itw (n:Nat)(vs:Nat→V→Prop):It:=⟨fun i _=>i < n,fun i H x H'=>H'=H∧vs i x,fun i _=>i=n⟩
theorem ko {P:Program}{w:World}{K:PySem.W.Frag}{tg:Expr}{it:Addr}{n:Nat}{PV:Nat→Value→Prop}{St:Nat→Heap→Prop}{vs:Nat→V→Prop}
   (W:∀ A':Around,A'.handled=none→Walks P w A' it [it] [it] n PV St)
   (hobj:∀ i h,St i h→∃ o nm fv,h.get? it=some o∧o.cls=.type nm∧o.data=.fields fv∧["enumerate", "zip", "dict_itemiterator", "dict_reverseitemiterator", "odict_iterator", "itertools.zip_longest", "itertools.pairwise"].contains nm=false)
   (hv:∀ i v,PV i v→∃ x,vs i x∧bF x v)(hself:∀ (A:Around) (i:Nat)(s:Shared)(Q:Value→Shared→Prop)(E:Value→Shared→Prop),St i s.heap→Q (.ref it) s→wpAny (model P w) A (pyIter (.ref it)) Q E s):my P w K tg (Itw n vs) [it] it St where
 mem:=by simp
 obj:=fun i h st b hb=>by
   have e:b=it:=by simpa using hb
   subst e
   obtain⟨o,nm,fv,e,_,hd,_⟩:=hobj i h st
   exact⟨o,e,fun v z=>by rw[hd] at z;cases z⟩
 keep:=fun i h h' st k=>(W { depth:=0,units:=0,handled:=none,frames:=none } rfl).frame i h h' st k
 item:=by
   intro X hP hw hK hc i pins s σ H E I hf st hg
   subst hP hw hK
   obtain⟨f0,f1,f2,f3,f4,f5⟩:=hf it (by simp)
   refine(W X.A (I.ok.hd hc)).item i s _ _ hg st fun v h' tk hv' st' kk=>?_
   have I1:Inv X pins σ H { s with heap:=h',toks:=tk }:=I.turned (fun b o hb e=>kk b o (by simpa using hb) e) f0 f1 f3 f4 f5
   obtain⟨o,nm,fv,e,hcl,hd,hnm⟩:=hobj _ _ st'
   obtain⟨x,hx,rx⟩:=hv i v hv'
   exact⟨_,rfl,nN (s:={ s with heap:=h',toks:=tk }) e hcl hd hnm ⟨x,H,I1,rx,⟨rfl,hx⟩,st',fun b hb=>(hf b hb).1⟩⟩
 done:=by
   intro X hP hw hK hc i pins s σ H E I hf st hg
   subst hP hw hK
   obtain⟨f0,f1,f2,f3,f4,f5⟩:=hf it (by simp)
   have e:i=n:=hg
   subst e
   exact(W X.A (I.ok.hd hc)).done s _ _ st fun h' tk kk=>⟨rfl,I.turned (fun b o hb e=>kk b o (by simpa using hb) e) f0 f1 f3 f4 f5⟩
 self:=hself

/-! ### for c in text -/
def sgn (c:Nat):V:=.str ⟨#[c]⟩
def wG (tl:TE):TI:=fun σ H R=>tl σ H fun x H1=>∃ z:Str,x=.str z∧R (Itw z.cps.size fun i v=>∃ c,z.cps[i]?=some c∧v=sgn c) H1
theorem vY {X:Cx}{tg l:Expr}{tl:TE}(hl:PE X l tl):PI X tg l (wG tl):=by
 intro pins s σ H R I h
 refine thn (hl s σ H _ I h) fun v s1 ⟨x,H1,I1,r1,q1⟩=>?_
 obtain⟨z,e,q⟩:=q1
 subst e
 obtain⟨t,rfl⟩:=r1
 have fp:∀ o:Obj,∀ b∈[s1.heap.objs.size],fJ X pins H1 b:=fun o b hb=>by
   have e:b=s1.heap.objs.size:=by simpa using hb
   subst e
   exact I1.fpOk (Nat.le_refl _) (I1.hok.fresh (Nat.le_refl _))
 cases ha:z.cps.all (· < 128)
 · refine wpAny_pyIter_wide ha ?_
   refine⟨s1.heap.objs.size,[s1.heap.objs.size],_,_,H1,rfl,I1.kept (t':=s1.toks) fun b o e=>Heap.get?_push_of_some _ e,ko (fun A' hA=>Walks.strWide hA _ z t) ?_ ?_ ?_,⟨_,Heap.get?_push_size _ rfl,rfl,rfl⟩,fp default,q⟩
   · rintro i h ⟨o,e,hc,hd⟩
     exact⟨o,_,_,e,hc,hd,by decide⟩
   · rintro i v ⟨c,u,hc,rfl⟩
     exact⟨sgn c,⟨c,hc,rfl⟩,⟨u,rfl⟩⟩
   · exact fun A i s Q E st hq=>wpAny_pyIter_striter_wide st hq
 · refine wpAny_pyIter_ascii ha ?_
   refine⟨s1.heap.objs.size,[s1.heap.objs.size],_,_,H1,rfl,I1.kept (t':=s1.toks) fun b o e=>Heap.get?_push_of_some _ e,ko (fun A' hA=>Walks.strAscii hA _ z t) ?_ ?_ ?_,⟨_,Heap.get?_push_size _ rfl,rfl,rfl⟩,fp default,q⟩
   · rintro i h ⟨o,e,hc,hd⟩
     exact⟨o,_,_,e,hc,hd,by decide⟩
   · rintro i v ⟨c,u,hc,rfl⟩
     exact⟨sgn c,⟨c,hc,rfl⟩,⟨u,rfl⟩⟩
   · exact fun A i s Q E st hq=>wpAny_pyIter_striter_ascii st hq

/-! ### texts and bools in lists -/
theorem jH {ss:List Str}:∀ {us:List Value},Vals (ss.map V.str) us→StrsAre us ss:=by
 induction ss with
 | nil=>intro us r;rw[List.map_nil] at r;cases r;exact .nil
 | cons n ns ih =>
   intro us r
   rw[List.map_cons] at r
   cases r with
   | cons r1 r2 =>
     obtain⟨t,e⟩:=r1
     subst e
     exact .cons n t (ih r2)
theorem iQ {ss:List Str}{us:List Value}(h:StrsAre us ss):Vals (ss.map V.str) us:=by
 induction h with
 | nil=>exact .nil
 | cons y t r ih=>exact .cons ⟨t,rfl⟩ ih
theorem uL {bs:List Bool}:∀ {us:List Value}{i:Nat}{v:Value},Vals (bs.map V.bl) us→us[i]?=some v→∃ b,bs[i]?=some b∧v=.bool b:=by
 induction bs with
 | nil=>intro us i v r h;rw[List.map_nil] at r;cases r;simp at h
 | cons b bs ih =>
   intro us i v r h
   rw[List.map_cons] at r
   cases r with
   | cons r1 r2 =>
     cases i with
     | zero=>simp at h;subst h;exact⟨b,rfl,r1⟩
     | succ i=>obtain⟨c,h1,h2⟩:=ih r2 (by simpa using h);exact⟨c,by simpa using h1,h2⟩
theorem rL {X:Cx}(hc:X.calm=true):cX X (.builtin "all") (fun xs H Q=>∃ (a:Addr)(bs:List Bool),xs=[.ref a]∧SqL X.K H a (bs.map V.bl)∧Q (.bl (bs.all id)) H):=by
 intro pins s σ H xs us Q I r h
 obtain⟨a,bs,rfl,ha,q⟩:=h
 obtain⟨u,rfl,ru⟩:=ef r
 cases ru
 obtain⟨its,rv,pl,_⟩:=I.list ha
 have hl:=pl.isList
 have hlt:a < s.heap.objs.size:=by obtain⟨_,e,_⟩:=hl;exact Heap.lt_size e
 refine call_all_walk (wpAny_pyIter_list hl ?_)
 refine⟨s.heap.objs.size,[s.heap.objs.size,a],[s.heap.objs.size],its.toArray.size,_,_,fun i=>(bs[i]?).getD true,rfl,Walks.list (A:=X.A.in1) (I.ok.hd hc) _ a (Nat.ne_of_lt hlt) its.toArray,
   ⟨⟨_,Heap.get?_push_size _ rfl,rfl,rfl⟩,hl.push _⟩,fun i v s' Q' E' hP hQ=>?_,fun h' tk hk=>?_⟩
 · obtain⟨b,e,rfl⟩:=uL rv (by simpa using hP)
   simp only[e,Option.getD_some] at hQ
   exact wpAny_truthy_bool hQ
 · have hn:=rv.length
   rw[List.length_map] at hn
   have e:((List.range its.toArray.size).all fun i=>(bs[i]?).getD true)=bs.all id:=by
     rw[List.size_toArray,←hn];exact LSm.range_all bs
   rw[e]
   exact⟨.bl _,H,I.kept (LSm.kept_iter hk),rfl,q⟩
theorem cR {X:Cx}:cX X (.builtin "isinstance") (fun xs H Q=>∃ x c t b,xs=[x,.ty c]∧eC X.K H x t∧PySem.W.kitOne X.K t (.type c)=some b∧Q (.bl b) H):=by
 intro pins s σ H xs us Q I r h
 obtain⟨x,c,t,b,rfl,ty,e,q⟩:=h
 obtain⟨u,w',rfl,r1,r2⟩:=sx r
 cases r2
 exact ra I r1 ty e fun tk=>⟨.bl b,H,I.tok _,rfl,q⟩
theorem dc {X:Cx}:OpR X (binaryOp .FloorDiv) (rI (fun _ j=>0 < j∧j < 2 ^ 64) fun i j=>.int (i / j)):=opI fun i j _ _ _ _ _ hc q=>by
 obtain⟨h1,h2⟩:=hc
 refine floordiv_int (by omega) (by rw[Int.fdiv_eq_ediv_of_nonneg i (by omega)];exact q) (.inl (PyProof.noPylong_of_log2 ?_))
 have h0:j.natAbs≠0:=by omega
 have:j.natAbs.log2 < 64:=(Nat.log2_lt h0).mpr (by omega)
 omega
end L2

set_option Elab.async false
set_option linter.all false
set_option maxRecDepth 100000
set_option maxHeartbeats 4000000
namespace L2
open PySem PySem.Spec PyProof.Rows

/-! ### what yields n values and leaves the heap as it is -/
structure d8 (J:It)(H1:Hp) (n:Nat)(vs:Nat→V→Prop):Prop where
 go:∀ i H',i < n→ae H1 H'→J.go i H'
 yld:∀ i H' x H2,i < n→ae H1 H'→J.yld i H' x H2→H2=H'∧vs i x
 stop:∀ H',ae H1 H'→J.stop n H'
theorem mz {H1:Hp}{n:Nat}{vs:Nat→V→Prop}:d8 (Itw n vs) H1 n vs:=⟨fun _ _ h _=>h,fun _ _ _ _ _ _ h=>h,fun _ _=>rfl⟩
theorem bJ {H1:Hp}{lo:Int}{n:Nat}:d8 (Itr lo n) H1 n (fun i x=>x=.int (lo+i)):=⟨fun _ _ h _=>h,fun _ _ _ _ _ _ h=>h,fun _ _=>Nat.le_refl _⟩
theorem aJ {K:PySem.W.Frag}{H1:Hp}{a:Addr}{xs:List V}(h:SqL K H1 a xs):d8 (Itl K a) H1 xs.length (fun i x=>xs[i]?=some x) :=
 ⟨fun i H' hi s=>⟨xs,xs[i],s.seq h,by simp[hi]⟩,fun i H' x H2 hi s y=>⟨y.1,y.2 xs (s.seq h)⟩,fun H' s=>⟨xs,s.seq h,Nat.le_refl _⟩⟩
theorem ae.sqT {K:PySem.W.Frag}{H H':Hp}{a:Addr}{xs:List V}(e:ae H H')(h:SqT K H a xs):SqT K H' a xs:=by
 rcases h with (h | ⟨o,h⟩) | h
 · exact .inl (.inl (e _ _ h))
 · exact .inl (.inr ⟨o,e _ _ h⟩)
 · exact .inr h
theorem oY {K:PySem.W.Frag}{H1:Hp}{a:Addr}{xs:List V}(h:SqT K H1 a xs):d8 (Itt K a) H1 xs.length (fun i x=>xs[i]?=some x) :=
 ⟨fun i H' hi s=>⟨xs,xs[i],s.sqT h,by simp[hi]⟩,fun i H' x H2 hi s y=>⟨y.1,y.2 xs (s.sqT h)⟩,fun H' s=>⟨xs,s.sqT h,Nat.le_refl _⟩⟩
theorem ae.updN {H:Hp}{D:Addr}{o:HO}(h:H D=none):ae H (upd H D o):=fun b u e=>by rw[ag (aw e h)];exact e
theorem ae.step {H0 H:Hp}{D:Addr}{o:HO}(s:ae H0 H)(h:H0 D=none):ae H0 (upd H D o):=fun b u e=>by rw[ag (aw e h)];exact s b u e

theorem pA {J:It}{n:Nat}{vs:Nat→V→Prop}{g:TG}{te:TE}{D:Addr}{Q:Hp→Prop}{σ:St}{H0 H:Hp}(S:d8 J H0 n vs)(hn:n≤sizeLine)(Pv:Nat→List V→St→Hp→Prop)
   (h0:Pv 0 [] σ H)(hsame:∀ i xs σ' H',Pv i xs σ' H'→ae H0 H'∧xs.length=i)
   (step:∀ i xs σ' H' x,i < n→vs i x→Pv i xs σ' H'→∀ R:V→St→Hp→Prop,(∀ v σ2 H4,H4 D=some (.lst xs)→Pv (i+1) (xs++[v]) σ2 (upd H4 D (.lst (xs++[v])))→R v σ2 H4)→g x σ' H' fun σ2 H3=>te σ2 H3 fun v H4=>R v σ2 H4)
   (fin:∀ xs σ' H',Pv n xs σ' H'→Q H'):kj J g te D Q σ H:=by
 refine⟨fun i m σ' H'=>m=n - i∧i≤n∧∃ xs,Pv i xs σ' H',⟨n,by simp,Nat.zero_le _,[],h0⟩,?_⟩
 rintro i m σ' H' ⟨rfl,hi,xs,p⟩
 obtain⟨sm,hl⟩:=hsame _ _ _ _ p
 by_cases hlt:i < n
 · refine .inr ⟨S.go i H' hlt sm,fun σ2 H2=>∃ ys,Pv (i+1) ys σ2 H2,fun σ2 H2 ⟨ys,p'⟩=>⟨n - (i+1),by omega,rfl,hlt,ys,p'⟩,fun x H2 y=>?_⟩
   obtain⟨e,hv⟩:=S.yld i H' x H2 hlt sm y
   subst e
   exact step i xs σ' _ x hlt hv p (fun v σ2 H4=>∃ xs,H4 D=some (.lst xs)∧xs.length < sizeLine∧∃ ys,Pv (i+1) ys σ2 (upd H4 D (.lst (xs++[v])))) fun v σ2 H4 a b=>⟨xs,a,by omega,_,b⟩
 · have e:i=n:=by omega
   subst e
   exact .inl ⟨S.stop H' sm,fin xs σ' H' p⟩
theorem dg {J:It}{n:Nat}{vs:Nat→V→Prop}{g:TG}{te:TE}{D:Addr}{Q:Hp→Prop}{σ:St}{H:Hp}(S:d8 J H n vs)(hn:n≤sizeLine)(hD:H D=none)(Pσ:St→Prop)(out:Nat→V)
   (h0:Pσ σ)(step:∀ i x σ' H',i < n→vs i x→Pσ σ'→ae H H'→∀ R:V→St→Hp→Prop,(∀ σ2,Pσ σ2→R (out i) σ2 H')→g x σ' H' fun σ2 H3=>te σ2 H3 fun v H4=>R v σ2 H4)
   (fin:Q (upd H D (.lst ((List.range n).map out)))):kj J g te D Q σ (upd H D (.lst [])):=by
 refine⟨fun i m σ' H'=>m=n - i∧i≤n∧Pσ σ'∧H'=upd H D (.lst ((List.range i).map out)),⟨n,by simp,Nat.zero_le _,h0,rfl⟩,?_⟩
 rintro i m σ' H' ⟨rfl,hi,p,rfl⟩
 have sm:ae H (upd H D (.lst ((List.range i).map out))):=ae.updN hD
 by_cases hlt:i < n
 · refine .inr ⟨S.go i _ hlt sm,fun σ2 H2=>Pσ σ2∧H2=upd H D (.lst ((List.range (i+1)).map out)),fun σ2 H2 ⟨p',e⟩=>⟨n - (i+1),by omega,rfl,hlt,p',e⟩,fun x H2 y=>?_⟩
   obtain⟨e,hv⟩:=S.yld i _ x H2 hlt sm y
   subst e
   refine step i x σ' _ hlt hv p sm (fun v σ2 H4=>∃ xs,H4 D=some (.lst xs)∧xs.length < sizeLine∧Pσ σ2∧upd H4 D (.lst (xs++[v]))=upd H D (.lst ((List.range (i+1)).map out))) fun σ2 p2=>?_
   refine⟨(List.range i).map out,ad,by rw[List.length_map,List.length_range];omega,p2,?_⟩
   rw[gE,List.range_succ,List.map_append,List.map_singleton]
 · have e:i=n:=by omega
   subst e
   exact .inl ⟨S.stop _ sm,fin⟩
def lU (J:It)(g:TG)(tb:TS)(D:jy) (σ:St)(H:Hp):Prop :=
 ∃ W:Nat→Nat→St→Hp→Prop,(∃ m,W 0 m σ H)∧∀ i m σ H,W i m σ H →
   (J.stop i H∧D.nx σ H)∨(J.go i H∧∃ N:St→Hp→Prop,(∀ σ' H',N σ' H'→∃ m',m' < m∧W (i+1) m' σ' H')∧∀ x H',J.yld i H x H'→g x σ H' fun σ2 H2=>tb { D with nx:=N,ct:=N,bk:=D.nx } σ2 H2)
theorem ua (wi:TI)(g:TG)(tb:TS)(D:jy) (σ:St)(H:Hp):wN wi g tb D σ H=wi σ H fun J H1=>lU J g tb D σ H1:=rfl
theorem bE {J:It}{H0:Hp}{n:Nat}{vs:Nat→V→Prop}{g:TG}{tb:TS}{D:jy}{σ:St}{H:Hp}(S:d8 J H0 n vs)(Pv:Nat→St→Hp→Prop)(h0:Pv 0 σ H)(hsame:∀ i σ H,i≤n→Pv i σ H→ae H0 H)
   (hs:∀ i x σ H,i < n→vs i x→Pv i σ H→g x σ H fun σ2 H2=>tb { D with nx:=Pv (i+1),ct:=Pv (i+1),bk:=D.nx } σ2 H2)(hd:∀ σ H,Pv n σ H→D.nx σ H):lU J g tb D σ H:=by
 refine⟨fun i m σ H=>m=n - i∧i≤n∧Pv i σ H,⟨n,by simp,Nat.zero_le _,h0⟩,?_⟩
 rintro i m σ H ⟨rfl,hi,p⟩
 have sm:=hsame i σ H hi p
 by_cases hlt:i < n
 · refine .inr ⟨S.go i H hlt sm,Pv (i+1),fun σ' H' p'=>⟨n - (i+1),by omega,rfl,hlt,p'⟩,fun x H' y=>?_⟩
   obtain⟨e,hv⟩:=S.yld i H x H' hlt sm y
   subst e
   exact hs i x σ _ hlt hv p
 · have e:i=n:=by omega
   subst e
   exact .inl ⟨S.stop H sm,hd σ H p⟩

/-! ### a cut between two statements -/
def vA (t u:TS):TS:=fun D σ H=>∃ Pv:St→Hp→Prop,t { D with nx:=Pv } σ H∧∀ σ' H',Pv σ' H'→u D σ' H'
theorem ak {X:Cx}{st:Stmt}{cY:List Stmt}{t u:TS}(h1:PS X st t)(h2:PSs X cY u):PSs X (st::cY) (vA t u):=by
 intro pins s σ H D I h
 obtain⟨Pv,h,k⟩:=h
 refine wpAny_execs_cons (thn (h1 s σ H { D with nx:=Pv } I h) fun f s1 q=>?_)
 cases f with
 | next =>
   obtain⟨σ',H',I',q⟩:=q
   exact h2 s1 σ' H' D I' (k _ _ q)
 | ret v=>exact q
 | brk=>exact q
 | cont=>exact q
theorem cut {t u:TS}{D:jy}{σ:St}{H:Hp}(Pv:St→Hp→Prop)(h:t { D with nx:=Pv } σ H)(k:∀ σ' H',Pv σ' H'→u D σ' H'):vA t u D σ H:=⟨Pv,h,k⟩

/-! ### what must be seen of a block's scope,by computation -/
def wR (N:List Str)(on:List (Str×NameKind))(sc:Scope)(N':List Str)(pk:List (Option Nat)):Bool :=
 (sc.kind==.function)&&(sc.names.all fun y=>!(y.2==.cell))&&(sc.names.all fun y=>!(y.2==.local)||(sc.names.lookup y.1==some .local)) &&
 (sc.names.all fun y=>!(y.2==.free)||(on.lookup y.1==some .cell)||(on.lookup y.1==some .free))&&(pk.length==N'.length) &&
 ((List.range pk.length).all fun i=>match pk[i]? with
   | some (some j)=>(match N'[i]? with | some x=>(N[j]?==some x)&&(sc.names.lookup x==some .free) | none=>false)
   | _=>true)
theorem cV.of {N:List Str}{env:Env}{sc:Scope}{N':List Str}{pk:List (Option Nat)}(h:wR N env.scope.names sc N' pk=true):cV N env sc N' pk:=by
 unfold wR at h
 simp only[Bool.and_eq_true] at h
 obtain⟨⟨⟨⟨⟨h1,h2⟩,h3⟩,h4⟩,h5⟩,h6⟩:=h
 refine⟨by simpa using h1,fun y hy e=>?_,fun y hy e=>?_,fun y hy e=>?_,by simpa using h5,fun i x hx j hj=>?_⟩
 · have:=List.all_eq_true.mp h2 y hy
   rw[e] at this
   exact absurd this (by decide)
 · have:=List.all_eq_true.mp h3 y hy
   rw[e] at this
   simpa using this
 · have:=List.all_eq_true.mp h4 y hy
   rw[e] at this
   simpa [Bool.or_eq_true] using this
 · have hi:i < pk.length:=(List.getElem?_eq_some_iff.mp hj).1
   have:=List.all_eq_true.mp h6 i (List.mem_range.mpr hi)
   rw[hj,hx] at this
   simpa [Bool.and_eq_true] using this
theorem vj {CX:CXT}{P:Program}{w:World}{K:PySem.W.Frag}{mg:Str→Option Value}{base:Heap}{N:List Str}{qual:Str}{scope:Scope}{f:Addr}{cd:Value}{A:Around}{outer:List Env}{s:Shared}{H:Hp}{E:XK}:(cJ CX P w K mg base N qual scope f cd A outer s H E).K=K:=rfl
theorem ww {X:Cx}{N:List Str}{scope:Scope}{s:Shared}{H:Hp}{ex:List Addr}:(cxB X N scope s H ex).K=X.K:=rfl
theorem rD (N:List Str)(vs:List V):L2.start N vs=vs.map some++List.replicate (N.length - vs.length) none:=rfl
theorem vG (c:Nat):sgn c=.str ⟨#[c]⟩:=rfl
end L2

set_option Elab.async false
set_option linter.all false
set_option maxRecDepth 100000
set_option maxHeartbeats 8000000
namespace L2
open PySem PySem.Spec PyProof.Rows

/-! ### set(list of texts) -/
def eR (acc:List Str) (x:Str):List Str:=if x∈acc then acc else acc++[x]
def ee (l:List Str):List Str:=l.foldl eR []
theorem lc (l:List Str) (x:Str):ee (l++[x])=eR (ee l) x:=by unfold ee;rw[List.foldl_append];rfl
theorem mv (acc:List Str) (x:Str):(eR acc x).length≤acc.length+1:=by unfold eR;split<;>simp
theorem gR (l:List Str):∀ i,(ee (l.take i)).length≤i
 | 0=>by simp[ee]
 | i+1=>by
   have ih:=gR l i
   cases h:l[i]? with
   | none =>
     have:l.length≤i:=List.getElem?_eq_none_iff.mp h
     rw[List.take_of_length_le (by omega)]
     rw[List.take_of_length_le this] at ih
     omega
   | some x =>
     rw[List.take_succ,h]
     show(ee (l.take i++[x])).length≤i+1
     rw[lc]
     have:=mv (ee (l.take i)) x
     omega

section
variable {prog:Program}{w:World}
theorem sV {h:Heap}{S:Addr}{acc:List Str}{x:Str}(hs:h.SetOf (strKind prog w) S (fun k=>decide (k∈acc)||decide (k=x)) (if decide (x∈acc)=true then acc.length else acc.length+1)) :
   h.SetOf (strKind prog w) S (fun k=>decide (k∈eR acc x)) (eR acc x).length:=by
 refine SetOf_congr hs (fun k=>?_) ?_
 · unfold eR
   by_cases hx:x∈acc
   · rw[if_pos hx]
     by_cases hk:k=x
     · subst hk;simp[hx]
     · simp[hk]
   · rw[if_neg hx]
     rw[Bool.eq_iff_iff]
     simp
 · unfold eR
   by_cases hx:x∈acc
   · rw[if_pos hx,if_pos (by simpa using hx)]
   · rw[if_neg hx,if_neg (by simpa using hx),List.length_append];rfl

theorem sd {A:Around}{R:Result→Shared→Prop}{I S l:Addr}{items:Array Value}{ss:List Str}(hh:A.in1.handled=none)(hIl:l≠I)(hSI:S≠I)(hSl:S≠l)(hss:StrsAre items.toList ss)(hb:items.size+1 < scanBound) :
   ∀ (k i:Nat)(s:Shared),items.size - i=k→i≤items.size→s.heap.IsListIter I l i→s.heap.IsList l items→s.heap.SetOf (strKind prog w) S (fun x=>decide (x∈ee (ss.take i))) (ee (ss.take i)).length →
     (∀ h' tk,(∀ b o,b≠S→b≠I→s.heap.get? b=some o→h'.get? b=some o)→h'.SetOf (strKind prog w) S (fun x=>decide (x∈ee ss)) (ee ss).length→R (.ok (.ret .none)) { s with heap:=h',toks:=tk }) →
     codeAny (model prog w) A (.builtin "set.update.loop" ⟨[.ref S,.ref I],[]⟩) R s:=by
 have hlen:items.size=ss.length:=by rw[←hss.length];simp
 intro k
 induction k with
 | zero =>
   intro i s hk hi hit hl hS hR
   have e:i=items.size:=by omega
   subst e
   refine codeAny_builtin PyProof.Rows.F.entry_set_update_loop ?_
   rw[Around.under_plainId PyProof.Rows.F.plain_set_update_loop _]
   refine wpAny_bind (wpAny_pyNext_list_end hh hit hl (by simp) fun h' eb=>?_)
   rw[hlen,List.take_length] at hS
   refine wpAny_pure (hR h' s.toks (fun b o _ hb e=>eb b o hb e) ?_)
   obtain⟨o,es,ep,t,ho,cY⟩:=hS
   exact⟨o,es,ep,t,eb S o hSI ho,cY⟩
 | succ k ih =>
   intro i s hk hi hit hl hS hR
   have hlt:i < items.size:=by omega
   obtain⟨x,hx⟩:∃ x,ss[i]?=some x:=⟨ss[i]'(by omega),List.getElem?_eq_getElem (by omega)⟩
   obtain⟨t,ht⟩:∃ t,items[i]?=some (.str x t):=by
     obtain⟨u,hu,r⟩:=(iQ hss).get (i:=i) (x:=V.str x) (by rw[List.getElem?_map,hx];rfl)
     obtain⟨t,rfl⟩:=r
     exact⟨t,by simpa using hu⟩
   refine codeAny_builtin PyProof.Rows.F.entry_set_update_loop ?_
   rw[Around.under_plainId PyProof.Rows.F.plain_set_update_loop _]
   refine wpAny_bind (wpAny_pyNext_list_item hit hl ht fun h' hit' sb=>?_)
   have hS':h'.SetOf (strKind prog w) S (fun x=>decide (x∈ee (ss.take i))) (ee (ss.take i)).length:=by
     obtain⟨o,es,ep,tb,ho,cY⟩:=hS
     exact⟨o,es,ep,tb,(sb.2 S hSI).trans ho,cY⟩
   show wpAny _ A.in1 (holding [Value.str x t] (setAdd S (.str x t)) >>= _) _ _ _
   refine wpAny_bind (wpAny_holding ?_)
   unfold setAdd
   refine wpAny_holding (wpAny_bind ((strKind prog w).pyHash (k:=x) (strKind_is _ _ _ _) ?_))
   have hroom:(ee (ss.take i)).length+1 < scanBound:=by have:=gR ss i;omega
   refine wpAny_setAddHashed_of (knd:=strKind prog w) (strKind_is _ _ _ _) rfl hS' hroom fun h2 hsb hS2=>?_
   have hS3:=sV hS2
   have et:ee (ss.take (i+1))=eR (ee (ss.take i)) x:=by rw[List.take_succ,hx];exact lc _ _
   rw[←et] at hS3
   refine wpAny_pure ⟨plainId_quiet PyProof.Rows.F.plain_set_update_loop _,ih (i+1) _ (by omega) hlt ?_ ?_ hS3 fun h3 tk kk hS4=>?_⟩
   · exact hit'.at fun o e=>(hsb.2 I (Ne.symm hSI)).trans e
   · exact hl.at fun o e=>(hsb.2 l (Ne.symm hSl)).trans ((sb.2 l hIl).trans e)
   · exact hR h3 tk (fun b o h1 h2' e=>kk b o h1 h2' ((hsb.2 b h1).trans ((sb.2 b h2').trans e))) hS4
end
end L2

set_option Elab.async false
set_option linter.all false
set_option maxRecDepth 100000
set_option maxHeartbeats 8000000
namespace L2
open PySem PySem.Spec PyProof.Rows
section
variable {prog:Program}{w:World}{A:Around}{E:Value→Shared→Prop}{s:Shared}
theorem qQ {T newId initId:String}{Bi:Builtin}{args:List Value}{Q Q1:Value→Shared→Prop}(ft:TypeCalled T newId initId)(hct:checkTypeCall T ⟨args,[]⟩=pure ())(hI:entryFor table initId=some Bi)
   (hnew:codeAny (model prog w) A.in1 (.call (.builtin newId) ⟨.type T::args,[]⟩) (wants Q1 E) s)
   (hinit:∀ obj s1,Q1 obj s1→s1.TypeIs obj T∧∀ E':Value→Shared→Prop,wpAny (model prog w) A.in1.in1 (checkBuiltinCall initId ⟨obj::args,[]⟩) (fun _ s2=>s2=s1) E' s1)
   (hbody:∀ obj s1,Q1 obj s1→wpAny (model prog w) A.in1.in1 (Bi ⟨obj::args,[]⟩)
       (fun fin s'=>match fin with | .done f=>wants (fun r s2=>r=.none∧Q obj s2) E (.ok f) s' | .again c'=>c'.quiet=true∧codeAny (model prog w) A.in1 c' (wants (fun r s2=>r=.none∧Q obj s2) E) s')
       (fun e s'=>wants (fun r s2=>r=.none∧Q obj s2) E (.error e) s') s1):wpAny (model prog w) A (call (.type T) args) Q E s:=by
 have hmade:=ft.made;have hsub:=ft.sub;obtain⟨c,tl,hmro⟩:=ft.mro;have h1:=ft.notType;have h2:=ft.canCreate
 refine wpAny_call (codeAny_of_tree (show wpAny _ _ (callAny (.type T) _) _ _ _ from wpAny_pure ⟨Code.quiet_builtin _ (by decide +kernel),codeAny_builtin F.entry_type_call ?_⟩))
 rw[Around.under_plain (weight_type_call_type T args []) rfl]
 repeat (any_goals (first | assumption | wp_step))
 refine codeAny_mono hnew fun r s1 hr=>?_
 rcases r with e | fl
 · exact hr
 cases fl with
 | ret obj =>
   obtain⟨hT,hck⟩:=hinit _ _ hr
   have hli:=ft.init.lookup;have hbi:=ft.init.bind obj
   repeat (any_goals (first | assumption | wp_step))
   refine codeAny_mono (codeAny_call_builtin (R:=wants (fun r s2=>r=.none∧Q obj s2) E) ft.init.plain hI (wpAny_mono (hck _) (fun _ s2 e=>by subst e;exact hbody _ _ hr) fun _ _ h'=>h')) fun r2 s2 hr2=>?_
   rcases r2 with e | f2
   · exact hr2
   cases f2 with
   | ret r =>
     obtain⟨rfl,hq⟩:=hr2
     repeat (any_goals (first | assumption | wp_step))
   | _=>exact hr2.elim
 | _=>exact hr.elim

theorem rG {l:Addr}{items:Array Value}{ss:List Str}{Q:Value→Shared→Prop}(hh:A.handled=none)(hl:s.heap.IsList l items)(hss:StrsAre items.toList ss)(hb:items.size+1 < scanBound)
   (h:∀ h' tk,(∀ b o,s.heap.get? b=some o→h'.get? b=some o)→h'.SetOf (strKind prog w) s.heap.objs.size (fun x=>decide (x∈ee ss)) (ee ss).length→Q (.ref s.heap.objs.size) { s with heap:=h',toks:=tk }) :
   wpAny (model prog w) A (call (.type "set") [.ref l]) Q E s:=by
 refine qQ (Q1:=fun obj s1=>∃ led:Bool,obj=.ref s.heap.objs.size∧s1={ s with heap:=s.heap.push { cls:=.type "set",dict:=none,data:=.set #[] 0 (.fresh 0 0 led) } }) F.called_set (F.typeCall_set_1 _) F.entry_set_init (code_set_new_1 (.ref l) fun led=>⟨led,rfl,rfl⟩) ?_ ?_
 · rintro obj s1 ⟨led,rfl,rfl⟩
   have hT:Shared.TypeIs { s with heap:=s.heap.push { cls:=.type "set",dict:=none,data:=.set #[] 0 (.fresh 0 0 led) } } (.ref s.heap.objs.size) "set":=⟨_,Heap.get?_push_size _ rfl,rfl⟩
   exact⟨hT,fun E'=>check_set_init_1 hT rfl⟩
 · rintro obj s1 ⟨led,rfl,rfl⟩
   have hlt:l < s.heap.objs.size:=by obtain⟨_,e,_⟩:=hl;exact Heap.lt_size e
   obtain⟨⟨oc,od,odt,osl⟩,hol,hcl,nl,hdl⟩:=id hl
   simp only at hcl hdl
   subst hcl;subst hdl
   have hol':(s.heap.push { cls:=.type "set",dict:=none,data:=.set #[] 0 (.fresh 0 0 led) }).get? l=some { cls:=.type "list",dict:=od,data:=.seq items nl,slots:=osl }:=Heap.get?_push_of_some _ hol
   have hS:(s.heap.push { cls:=.type "set",dict:=none,data:=.set #[] 0 (.fresh 0 0 led) }).get? s.heap.objs.size=some { cls:=.type "set",dict:=none,data:=.set #[] 0 (.fresh 0 0 led) }:=Heap.get?_push_size _ rfl
   have hl1:(s.heap.push { cls:=.type "set",dict:=none,data:=.set #[] 0 (.fresh 0 0 led) }).IsList l items:=⟨_,hol',rfl,nl,rfl⟩
   have hsls:=F.sub_list_set;have hslf:=F.sub_list_frozenset
   have hne:(Value.type "list"==Value.type "dict")=false:=by decide
   unfold Builtin.«set.__init__» noKeywords Builtin.Frozenset.updateFrom
   generalize hPI:pyIter=PI
   wp_walk
   subst hPI
   refine wpAny_pyIter_list hl1 (wpAny_bind (wpAny_runValue ?_))
   have hz:(s.heap.push { cls:=.type "set",dict:=none,data:=.set #[] 0 (.fresh 0 0 led) }).objs.size=s.heap.objs.size+1:=Heap.size_push ..
   refine sd (l:=l) (items:=items) (ss:=ss) (by simp[hh]) (by rw[hz];exact Nat.ne_of_lt (Nat.lt_succ_of_lt hlt)) (by rw[hz];exact Nat.ne_of_lt (Nat.lt_succ_self _)) (Nat.ne_of_gt hlt) hss hb (items.size - 0) 0 _ (by omega) (Nat.zero_le _) ⟨_,Heap.get?_push_size _ rfl,rfl,rfl⟩ (hl1.push _) ?_ ?_
   · exact SetOf_congr ((setObjOf_fresh (knd:=strKind prog w) led).setOf (Heap.get?_push_of_some _ hS) (by unfold scanBound;omega)) (fun _=>rfl) rfl
   · intro h' tk kk hS'
     refine wpAny_pure (wpAny_pure ⟨rfl,h h' tk (fun b o e=>?_) hS'⟩)
     have hlb:=Heap.lt_size e
     exact kk b o (Nat.ne_of_lt hlb) (by rw[hz];exact Nat.ne_of_lt (Nat.lt_succ_of_lt hlb)) (Heap.get?_push_of_some _ (Heap.get?_push_of_some _ e))
end
end L2

set_option Elab.async false
set_option linter.all false
set_option maxRecDepth 100000
set_option maxHeartbeats 8000000
namespace L2
open PySem PySem.Spec PyProof.Rows
section
variable {prog:Program}{w:World}{A:Around}{E:Value→Shared→Prop}{s:Shared}
theorem vq {a:Addr}{Q:Option Obj→Shared→Prop}(h:Q (s.heap.get? a) s):wpAny (model prog w) A (loadIfAlive a) Q E s:=fun Γ p _=>by
 show Sem.wp _ _ (.loadIfAlive a .pure) _ _ _ _
 rw[Sem.wp_loadIfAlive]
 exact h
abbrev lR (h:Heap)(z TI TO T0:Addr)(f1:Bool):Prop :=
 h.get? z=some { cls:=.type "zip",dict:=none,data:=.fields #[rawInt T0,.bool f1,.bool false,.ref TI,.ref TO],slots:=#[] }
theorem pP {z TI TO T0:Addr}{f1:Bool}{Q:Bool→Shared→Prop}(hz:lR s.heap z TI TO T0 f1)(hT:∃ o,s.heap.get? T0=some o)
   (h:∀ h',lR h' z TI TO T0 true→(∀ b o,b≠z→s.heap.get? b=some o→h'.get? b=some o)→h'.objs.size=s.heap.objs.size→Q false { s with heap:=h' }) :
   wpAny (model prog w) A (Builtin.SmallTypes.ownedTupleIsFree (.ref z)) Q E s:=by
 obtain⟨o,ho⟩:=hT
 unfold Builtin.SmallTypes.ownedTupleIsFree
 refine wpAny_bind (wpAny_field hz rfl (x:=rawInt T0) rfl ?_)
 show wpAny _ _ (loadIfAlive ((T0:Int)).toNat >>= _) _ _ _
 rw[Int.toNat_natCast]
 refine wpAny_bind (vq ?_)
 rw[ho]
 show wpAny _ _ (if(false:Bool)=true then _ else _) _ _ _
 rw[if_neg Bool.false_ne_true]
 refine wpAny_bind (wpAny_field hz rfl (x:=.bool f1) rfl ?_)
 cases f1 with
 | true=>exact wpAny_pure (h s.heap hz (fun _ _ _ e=>e) rfl)
 | false =>
   refine wpAny_bind (wpAny_setField_rec hz (by simp) fun h' hz' hs'=>wpAny_pure (h h' hz' (fun b o hb e=>hs'.extBut _ _ hb e) hs'.1))
end
end L2

set_option Elab.async false
set_option linter.all false
set_option maxRecDepth 100000
set_option maxHeartbeats 8000000
namespace L2
open PySem PySem.Spec PyProof.Rows
section
variable {prog:Program}{w:World}{A:Around}{E:Value→Shared→Prop}{s:Shared}
theorem qX {z TI TO T0 i1 i2 l1 l2:Addr}{f1:Bool}{k1 k2:Nat}{xs ys:Array Value}{x y:Value}{Q:Value→Shared→Prop}(D:ZipApart z TI TO i1 i2 l1 l2)
   (hz:lR s.heap z TI TO T0 f1)(hT:∃ o,s.heap.get? T0=some o)(hTI:IsPair s.heap TI (.ref i1) (.ref i2))
   (h1:s.heap.IsListIter i1 l1 k1)(h2:s.heap.IsListIter i2 l2 k2)(hl1:s.heap.IsList l1 xs)(hl2:s.heap.IsList l2 ys)(hx:xs[k1]?=some x)(hy:ys[k2]?=some y)
   (hQ:∀ h',lR h' z TI TO T0 true→h'.IsListIter i1 l1 (k1+1)→h'.IsListIter i2 l2 (k2+1)→IsPair h' s.heap.objs.size x y→h'.objs.size=s.heap.objs.size+1 →
     (∀ c o,c≠z→c≠i1→c≠i2→s.heap.get? c=some o→h'.get? c=some o)→Q (.ref s.heap.objs.size) { s with heap:=h' }) :
   wpAny (model prog w) A (Builtin.«zip.__next__» ⟨[.ref z],[]⟩) (fun fin s'=>∃ v,fin=.done (.ret v)∧Q v s') E s:=by
 show wpAny _ _ (field (.ref z) 2 >>= _) _ _ _
 refine wpAny_bind (wpAny_field hz rfl (x:=.bool false) rfl (show wpAny _ _ (field (.ref z) 3 >>= _) _ _ _ from wpAny_bind (wpAny_field hz rfl (x:=.ref TI) rfl (wpAny_bind (wpAny_seqItems hTI rfl ?_)))))
 show wpAny _ _ (Builtin.SmallTypes.ownedTupleIsFree (.ref z) >>= _) _ _ _
 refine wpAny_bind (pP hz hT fun ha hza ka hsa=>?_)
 simp only[Bool.false_eq_true,if_false,List.forIn_toArray,List.forIn_cons,List.forIn_nil]
 refine wpAny_bind (wpAny_bind (wpAny_bind (wpAny_holding ?_)))
 have ea:ha.objs.size=s.heap.objs.size:=hsa
 show wpAny _ _ (Builtin.SmallTypes.nextOf (.ref i1) >>= _) _ _ _
 refine wpAny_bind (wpAny_nextOf_list_item (h1.at fun o e=>ka _ o D.i1z e) (hl1.at fun o e=>ka _ o D.l1z e) hx fun hb hib sb=>wpAny_pure (wpAny_pure ?_))
 refine wpAny_bind (wpAny_bind (wpAny_holding ?_))
 show wpAny _ _ (Builtin.SmallTypes.nextOf (.ref i2) >>= _) _ _ _
 refine wpAny_bind (wpAny_nextOf_list_item ((h2.at fun o e=>ka _ o D.i2z e).extBut sb.extBut D.i12.symm) ((hl2.at fun o e=>ka _ o D.l2z e).extBut sb.extBut D.l2i1) hy fun hc hic sc=>wpAny_pure (wpAny_pure (wpAny_pure ?_)))
 refine wpAny_bind (wpAny_newTuple (wpAny_pure ⟨_,rfl,?_⟩) (by show 2≤sizeLine;rw[sizeLine_eq];decide))
 have ec:hc.objs.size=s.heap.objs.size:=by rw[sc.1,sb.1];exact ea
 have kc:∀ c o,c≠z→c≠i1→c≠i2→s.heap.get? c=some o→hc.get? c=some o:=fun c o c1 c2 c3 e=>sc.extBut _ _ c3 (sb.extBut _ _ c2 (ka c o c1 e))
 show Q (.ref hc.objs.size) { s with heap:=hc.push { cls:=.type "tuple",data:=.seq #[x,y] } }
 rw[ec]
 have up:∀ b o,hc.get? b=some o→(hc.push { cls:=.type "tuple",data:=.seq #[x,y] }).get? b=some o:=fun b o e=>Heap.get?_push_of_some _ e
 refine hQ _ (up _ _ (sc.extBut _ _ D.i2z.symm (sb.extBut _ _ D.i1z.symm hza))) ((hib.extBut sc.extBut D.i12).at fun o e=>up _ o e) (hic.at fun o e=>up _ o e) ?_ (by rw[Heap.size_push,ec]) fun c o c1 c2 c3 e=>up _ _ (kc c o c1 c2 c3 e)
 have:=Heap.get?_push_size hc (o:={ cls:=.type "tuple",data:=.seq #[x,y] }) rfl
 rwa [ec] at this
theorem sB {z TI TO T0 i1 i2 l1 l2:Addr}{f1:Bool}{k1 k2:Nat}{xs ys:Array Value}{Q:Fin→Shared→Prop}(hh:A.handled=none)(D:ZipApart z TI TO i1 i2 l1 l2)
   (hz:lR s.heap z TI TO T0 f1)(hT:∃ o,s.heap.get? T0=some o)(hTI:IsPair s.heap TI (.ref i1) (.ref i2))
   (h1:s.heap.IsListIter i1 l1 k1)(hl1:s.heap.IsList l1 xs)(hx:xs[k1]?=none)
   (hE:∀ h' e,(∀ c o,c≠z→c≠i1→s.heap.get? c=some o→h'.get? c=some o)→(∃ o,h'.get? e=some o∧o.cls=.type "StopIteration")→E (.ref e) { s with heap:=h' }) :
   wpAny (model prog w) A (Builtin.«zip.__next__» ⟨[.ref z],[]⟩) Q E s:=by
 show wpAny _ _ (field (.ref z) 2 >>= _) _ _ _
 refine wpAny_bind (wpAny_field hz rfl (x:=.bool false) rfl (show wpAny _ _ (field (.ref z) 3 >>= _) _ _ _ from wpAny_bind (wpAny_field hz rfl (x:=.ref TI) rfl (wpAny_bind (wpAny_seqItems hTI rfl ?_)))))
 show wpAny _ _ (Builtin.SmallTypes.ownedTupleIsFree (.ref z) >>= _) _ _ _
 refine wpAny_bind (pP hz hT fun ha hza ka hsa=>?_)
 simp only[Bool.false_eq_true,if_false,List.forIn_toArray,List.forIn_cons,List.forIn_nil]
 refine wpAny_bind (wpAny_bind (wpAny_bind (wpAny_holding ?_)))
 show wpAny _ _ (Builtin.SmallTypes.nextOf (.ref i1) >>= _) _ _ _
 refine wpAny_bind (wpAny_nextOf_list_end hh (h1.at fun o e=>ka _ o D.i1z e) (hl1.at fun o e=>ka _ o D.l1z e) hx fun hb e kb he=>?_)
 exact hE hb e (fun c o c1 c2 x=>kb _ _ c2 (ka c o c1 x)) he
theorem oJ {z TI TO T0 i1 i2 l1 l2:Addr}{f1:Bool}{k1 k2:Nat}{xs ys:Array Value}{x y:Value}{Q:Option Value→Shared→Prop}(D:ZipApart z TI TO i1 i2 l1 l2)
   (hz:lR s.heap z TI TO T0 f1)(hT:∃ o,s.heap.get? T0=some o)(hTI:IsPair s.heap TI (.ref i1) (.ref i2))
   (h1:s.heap.IsListIter i1 l1 k1)(h2:s.heap.IsListIter i2 l2 k2)(hl1:s.heap.IsList l1 xs)(hl2:s.heap.IsList l2 ys)(hx:xs[k1]?=some x)(hy:ys[k2]?=some y)
   (hQ:∀ h',lR h' z TI TO T0 true→h'.IsListIter i1 l1 (k1+1)→h'.IsListIter i2 l2 (k2+1)→IsPair h' s.heap.objs.size x y→h'.objs.size=s.heap.objs.size+1 →
     (∀ c o,c≠z→c≠i1→c≠i2→s.heap.get? c=some o→h'.get? c=some o)→Q (some (.ref s.heap.objs.size)) { s with heap:=h' }) :
   wpAny (model prog w) A (pyNext (.ref z)) Q E s:=by
 have hTy:s.TypeIs (.ref z) "zip":=⟨_,hz,rfl⟩
 unfold pyNext
 exact wpAny_bind (wpAny_attempt (wpAny_callSpecial?_slot (name:=Str.ofString "__next__") hTy F.slot_zip_next (wpAny_call_entry F.slot_zip_next hTy F.entry_zip_next
     (qX D hz hT hTI h1 h2 hl1 hl2 hx hy fun h' a1 a2 a3 a4 a5 a6=>wpAny_pure (hQ h' a1 a2 a3 a4 a5 a6)) (F.args_zip_next_1 _))))
theorem qA {z TI TO T0 i1 i2 l1 l2:Addr}{f1:Bool}{k1:Nat}{xs:Array Value}{Q:Option Value→Shared→Prop}(hh:A.handled=none)(D:ZipApart z TI TO i1 i2 l1 l2)
   (hz:lR s.heap z TI TO T0 f1)(hT:∃ o,s.heap.get? T0=some o)(hTI:IsPair s.heap TI (.ref i1) (.ref i2))(h1:s.heap.IsListIter i1 l1 k1)(hl1:s.heap.IsList l1 xs)(hx:xs[k1]?=none)
   (hQ:∀ h',(∀ c o,c≠z→c≠i1→s.heap.get? c=some o→h'.get? c=some o)→Q none { s with heap:=h' }):wpAny (model prog w) A (pyNext (.ref z)) Q E s:=by
 have hTy:s.TypeIs (.ref z) "zip":=⟨_,hz,rfl⟩
 unfold pyNext
 refine wpAny_bind (wpAny_attempt (wpAny_callSpecial?_slot (name:=Str.ofString "__next__") hTy F.slot_zip_next (wpAny_call_entry F.slot_zip_next hTy F.entry_zip_next
   (sB (k2:=0) (ys:=#[]) hh D hz hT hTI h1 hl1 hx fun h' e hk he=>?_) (F.args_zip_next_1 _))))
 obtain⟨o,ho,hc⟩:=he
 exact wpAny_bind (wpAny_isInstance (T:="StopIteration") (b:=true) ⟨o,ho,hc⟩ isSubtype_stop (wpAny_pure (hQ _ hk)))
end
end L2

set_option Elab.async false
set_option linter.all false
set_option maxRecDepth 100000
set_option maxHeartbeats 8000000
namespace L2
open PySem PySem.Spec PyProof.Rows
theorem i8:typeLookup (.type "zip") "__getattr__"=pure none:=by rw[typeLookup_type,builtinLookup_eq_fast];kernel_rfl
theorem lE:typeLookup (.type "zip") "keys"=pure none:=by rw[typeLookup_type,builtinLookup_eq_fast];kernel_rfl
theorem dZ:entryFor table "dict.update.loop"=some Builtin.«dict.update.loop»:=entryFor_of_tree (by kernel_rfl)
theorem cf:plainId "dict.update.loop"=true:=by decide +kernel
theorem nz:entryFor table "zip.__getattribute__"=some Builtin.«object.__getattribute__»:=entryFor_alias (id':="object.__getattribute__") (by kernel_rfl) (by decide +kernel) (by decide +kernel) (by kernel_rfl)
section
variable {prog:Program}{w:World}{A:Around}{E:Value→Shared→Prop}{s:Shared}
theorem oI {z TI TO:Addr}{f0:Value}{Q:Option Value→Shared→Prop}(hh:A.handled=none)(hz:IsZip s.heap z TI TO f0)
   (h:∀ h' tk,(∀ b o,s.heap.get? b=some o→h'.get? b=some o)→Q none { s with heap:=h',toks:=tk }):wpAny (model prog w) A (getAttr? (.ref z) "keys") Q E s:=by
 have f1:=sub_AttributeError
 have f3:=F.slot_zip_getattribute.lookup
 have f4:=F.slot_zip_getattribute.bind (.ref z)
 have f5:=i8
 have f6:=lE
 obtain⟨hp,g,d,tk,os⟩:=s
 have hT:Shared.TypeIs ⟨hp,g,d,tk,os⟩ (.ref z) "zip":=⟨_,hz,rfl⟩
 unfold getAttr? getAttrBy? getAttrBy
 repeat (any_goals (first | assumption | wp_step))
 refine codeAny_call_builtin F.slot_zip_getattribute.plain nz (F.slot_zip_getattribute.check _ _ _ _ _ _ _ _ ⟨_,hz,rfl⟩ (F.args_zip_getattribute_2 _ _) ?_)
 unfold Builtin.«object.__getattribute__»
 repeat (any_goals (first | assumption | wp_step))
 refine wpAny_raiseAttrError (by simpa using hh) (fun h' tk' e hx=>?_) (attrMsg_fits (by decide +kernel) (by rw[sizeLine_eq];decide +kernel))
 obtain⟨t',u',he⟩:=hx.there
 show wpAny _ _ (getattributeRaised _ _ _ _ _ _ _) _ _ _
 unfold getattributeRaised
 repeat (any_goals (first | assumption | wp_step))
 exact h h' tk' hx.keeps
theorem oP {T:Addr}{x y:Value}{Q:List Value→Shared→Prop}(hT:IsPair s.heap T x y)(h:Q [x,y] s):wpAny (model prog w) A (Builtin.Dict.pairItems (.ref T)) Q E s:=by
 unfold Builtin.Dict.pairItems
 refine wpAny_bind (wpAny_typeOf (T:="tuple") ⟨_,hT,rfl⟩ ?_)
 rw[if_pos (by decide)]
 exact wpAny_bind (wpAny_seqItems hT rfl (wpAny_pure h))

def jv (h:Heap)(z TI TO:Addr):Prop:=IsZip h z TI TO .none∨∃ T0 f1,lR h z TI TO T0 f1∧(∃ o,h.get? T0=some o)∧T0≠z
theorem uv {z TI TO i1 i2 l1 l2:Addr}{k1 k2:Nat}{xs ys:Array Value}{x y:Value}{Q:Option Value→Shared→Prop}(D:ZipApart z TI TO i1 i2 l1 l2)
   (hz:jv s.heap z TI TO)(hTI:IsPair s.heap TI (.ref i1) (.ref i2))(hTO:∃ a b,IsPair s.heap TO a b)
   (h1:s.heap.IsListIter i1 l1 k1)(h2:s.heap.IsListIter i2 l2 k2)(hl1:s.heap.IsList l1 xs)(hl2:s.heap.IsList l2 ys)(hx:xs[k1]?=some x)(hy:ys[k2]?=some y)
   (hQ:∀ h' T,jv h' z TI TO→(∃ a b,IsPair h' TO a b)→h'.IsListIter i1 l1 (k1+1)→h'.IsListIter i2 l2 (k2+1)→IsPair h' T x y →
     (∀ c o,c≠z→c≠TO→c≠i1→c≠i2→s.heap.get? c=some o→h'.get? c=some o)→s.heap.objs.size≤T→Q (some (.ref T)) { s with heap:=h' }) :
   wpAny (model prog w) A (pyNext (.ref z)) Q E s:=by
 obtain⟨a,b,hTO⟩:=hTO
 rcases hz with hz | ⟨T0,f1,hz,hT0,hne⟩
 · refine wpAny_pyNext_zip_item D hz hTI hTO h1 h2 hl1 hl2 hx hy fun h' a1 a2 a3 a4 a5 a6 a7=>?_
   exact hQ h' _ (.inr ⟨_,_,a1,⟨_,a5⟩,Nat.ne_of_gt (Heap.lt_size hz)⟩) ⟨_,_,a2⟩ a3 a4 a5 a7 (Nat.le_refl _)
 · refine oJ D hz hT0 hTI h1 h2 hl1 hl2 hx hy fun h' a1 a2 a3 a4 a5 a6=>?_
   have hTO':IsPair h' TO a b:=a6 _ _ D.TOz D.TOi1 D.TOi2 hTO
   have hT0':∃ o,h'.get? T0=some o:=by
     obtain⟨o,ho⟩:=hT0
     by_cases e1:T0=i1
     · subst e1;obtain⟨o',e',_⟩:=a2;exact⟨o',e'⟩
     · by_cases e2:T0=i2
       · subst e2;obtain⟨o',e',_⟩:=a3;exact⟨o',e'⟩
       · exact⟨o,a6 _ _ hne e1 e2 ho⟩
   exact hQ h' _ (.inr ⟨_,_,a1,hT0',hne⟩) ⟨_,_,hTO'⟩ a2 a3 a4 (fun c o c1 _ c3 c4 e=>a6 c o c1 c3 c4 e) (Nat.le_refl _)
theorem vn {z TI TO i1 i2 l1 l2:Addr}{k1 k2:Nat}{xs ys:Array Value}{Q:Option Value→Shared→Prop}(hh:A.handled=none)(D:ZipApart z TI TO i1 i2 l1 l2)
   (hz:jv s.heap z TI TO)(hTI:IsPair s.heap TI (.ref i1) (.ref i2))(hTO:∃ a b,IsPair s.heap TO a b)
   (h1:s.heap.IsListIter i1 l1 k1)(h2:s.heap.IsListIter i2 l2 k2)(hl1:s.heap.IsList l1 xs)(hl2:s.heap.IsList l2 ys)(hx:xs[k1]?=none)
   (hQ:∀ h',(∀ c o,c≠z→c≠TO→c≠i1→c≠i2→s.heap.get? c=some o→h'.get? c=some o)→Q none { s with heap:=h' }):wpAny (model prog w) A (pyNext (.ref z)) Q E s:=by
 obtain⟨a,b,hTO⟩:=hTO
 rcases hz with hz | ⟨T0,f1,hz,hT0,hne⟩
 · exact wpAny_pyNext_zip_end hh D hz hTI hTO h1 h2 hl1 hl2 (.inl hx) hQ
 · exact qA hh D hz hT0 hTI h1 hl1 hx fun h' k=>hQ h' fun c o c1 _ c3 _ e=>k c o c1 c3 e
theorem jv.keep {h h':Heap}{z TI TO d:Addr}(hz:jv h z TI TO)(hd:d≠z)(hs:Heap.SameBut d h h')(hde:∃ o,h'.get? d=some o):jv h' z TI TO:=by
 rcases hz with hz | ⟨T0,f1,hz,⟨o,ho⟩,hne⟩
 · exact .inl (hs.extBut _ _ (Ne.symm hd) hz)
 · refine .inr ⟨T0,f1,hs.extBut _ _ (Ne.symm hd) hz,?_,hne⟩
   by_cases e:T0=d
   · subst e;exact hde
   · exact⟨o,hs.extBut _ _ e ho⟩
end
end L2

set_option Elab.async false
set_option linter.all false
set_option maxRecDepth 100000
set_option maxHeartbeats 8000000
namespace L2
open PySem PySem.Spec PyProof.Rows
section
variable {prog:Program}{w:World}{κ:Type} [DecidableEq κ]{knd:KeyKind prog w κ}
theorem t1 {A:Around}{R:Result→Shared→Prop}{d z TI TO i1 i2 l1 l2:Addr}{xs ys:Array Value}{ks:List κ}(hh:A.in1.handled=none)(D:ZipApart z TI TO i1 i2 l1 l2)(hdz:d≠z)(hdTI:d≠TI)(hdTO:d≠TO)(hd1:d≠i1)(hd2:d≠i2)(hdl1:d≠l1)(hdl2:d≠l2)
   (hks:∀ (i:Nat) x,xs[i]?=some x→∃ k,ks[i]?=some k∧knd.is k x=true)(hxy:xs.size=ys.size)(hkl:ks.length=xs.size)(hsz:xs.size≤1000) :
   ∀ (n i:Nat)(s:Shared),xs.size - i=n→i≤xs.size→jv s.heap z TI TO→IsPair s.heap TI (.ref i1) (.ref i2)→(∃ a b,IsPair s.heap TO a b)→s.heap.IsListIter i1 l1 i→s.heap.IsListIter i2 l2 i→s.heap.IsList l1 xs→s.heap.IsList l2 ys →
     (∃ kvs,kvs.length≤i∧s.heap.DictOf knd d kvs∧kvs=merged [] ((ks.zip ys.toList).take i)) →
     (∀ h' tk,(∀ c o,c≠d→c≠z→c≠TO→c≠i1→c≠i2→s.heap.get? c=some o→h'.get? c=some o)→h'.DictOf knd d (merged [] (ks.zip ys.toList))→R (.ok (.ret .none)) { s with heap:=h',toks:=tk }) →
     codeAny (model prog w) A (.builtin "dict.update.loop" ⟨[.ref d,.ref z,rawInt i,.none],[]⟩) R s:=by
 intro n
 induction n with
 | zero =>
   intro i s hn hi hz hTI hTO h1 h2 hl1 hl2 hD hR
   have e:i=xs.size:=by omega
   refine codeAny_builtin dZ ?_
   rw[Around.under_plainId cf _]
   show wpAny _ A.in1 (pyNext (.ref z) >>= _) _ _ s
   refine wpAny_bind (vn hh D hz hTI hTO h1 h2 hl1 hl2 (by rw[e];simp) fun h' kk=>?_)
   obtain⟨kvs,hkl',hdd,rfl⟩:=hD
   have et:(ks.zip ys.toList).take i=ks.zip ys.toList:=List.take_of_length_le (by rw[List.length_zip,hkl,e];exact Nat.min_le_left _ _)
   rw[et] at hdd
   refine wpAny_bind (wpAny_pure (wpAny_pure (hR h' s.toks (fun c o _ c1 c2 c3 c4 e=>kk c o c1 c2 c3 c4 e) ?_)))
   obtain⟨o,es,ep,ho,cY⟩:=hdd
   exact⟨o,es,ep,kk _ _ hdz hdTO hd1 hd2 ho,cY⟩
 | succ n ih =>
   intro i s hn hi hz hTI hTO h1 h2 hl1 hl2 hD hR
   have hlt:i < xs.size:=by omega
   have hlt2:i < ys.size:=by omega
   refine codeAny_builtin dZ ?_
   rw[Around.under_plainId cf _]
   show wpAny _ A.in1 (pyNext (.ref z) >>= _) _ _ s
   refine wpAny_bind (uv D hz hTI hTO h1 h2 hl1 hl2 (Array.getElem?_eq_getElem hlt) (Array.getElem?_eq_getElem hlt2) fun h' T a1 a2 a3 a4 a5 a6 a7=>?_)
   obtain⟨k,hk,hkis⟩:=hks i _ (Array.getElem?_eq_getElem hlt)
   obtain⟨kvs,hkl',hdd,ekv⟩:=hD
   have hdd':h'.DictOf knd d kvs:=by
     obtain⟨o,es,ep,ho,cY⟩:=hdd
     exact⟨o,es,ep,a6 _ _ hdz hdTO hd1 hd2 ho,cY⟩
   refine wpAny_bind (wpAny_holding (wpAny_bind (wpAny_tryCatch (oP a5 ?_))))
   refine wpAny_holding (wpAny_dictSet_pairs hkis hdd' (fun h2' hdd2 sb=>?_) (by rw[sizeLine_eq];omega))
   have hde:∃ o,h2'.get? d=some o:=by obtain⟨o,es,ep,ho,_⟩:=hdd2;exact⟨o,ho⟩
   have up:∀ b o,b≠d→h'.get? b=some o→h2'.get? b=some o:=fun b o hb e=>sb.extBut _ _ hb e
   have es:(ks.zip ys.toList).take (i+1)=(ks.zip ys.toList).take i++[(k,ys[i])]:=by
     have hzi:(ks.zip ys.toList)[i]?=some (k,ys[i]):=List.getElem?_zip_eq_some.mpr ⟨hk,by simp[hlt2]⟩
     rw[List.take_succ,hzi]
     rfl
   have hst:(stored kvs k ys[i]).length≤kvs.length+1:=by
     unfold stored
     split
     · rw[List.length_map];omega
     · rw[List.length_append];simp
   refine wpAny_pure ⟨plainId_quiet cf _,?_⟩
   have ei:(i:Int)+1=((i+1:Nat):Int):=by omega
   show codeAny (model prog w) A (.builtin "dict.update.loop" ⟨[.ref d,.ref z,rawInt ((i:Int)+1),.none],[]⟩) R _
   rw[ei]
   refine ih (i+1) _ (by omega) hlt (a1.keep hdz sb hde) (up _ _ (Ne.symm hdTI) (a6 _ _ D.TIz D.TITO D.TIi1 D.TIi2 hTI)) ?_ (a3.at fun o e=>up _ o (Ne.symm hd1) e) (a4.at fun o e=>up _ o (Ne.symm hd2) e) (hl1.at fun o e=>up _ o (Ne.symm hdl1) (a6 _ o D.l1z D.l1TO D.l1i1 D.l1i2 e))
     (hl2.at fun o e=>up _ o (Ne.symm hdl2) (a6 _ o D.l2z D.l2TO D.l2i1 D.l2i2 e)) ⟨_,by omega,hdd2,?_⟩ fun h3 tk kk hd3=>?_
   · obtain⟨a,b,e⟩:=a2
     exact⟨a,b,up _ _ (Ne.symm hdTO) e⟩
   · rw[es,ekv]
     unfold merged
     rw[List.foldl_append]
     rfl
   · exact hR h3 tk (fun c o c0 c1 c2 c3 c4 e=>kk c o c0 c1 c2 c3 c4 (up _ _ c0 (a6 c o c1 c2 c3 c4 e))) hd3
theorem rO {A:Around}{E:Value→Shared→Prop}{s:Shared}{Q:Value→Shared→Prop}{z TI TO i1 i2 l1 l2:Addr}{xs ys:Array Value}{ks:List κ}(hh:A.handled=none)(D:ZipApart z TI TO i1 i2 l1 l2)(hz:IsZip s.heap z TI TO .none)
   (hTI:IsPair s.heap TI (.ref i1) (.ref i2))(hTO:∃ a b,IsPair s.heap TO a b)(h1:s.heap.IsListIter i1 l1 0)(h2:s.heap.IsListIter i2 l2 0)(hl1:s.heap.IsList l1 xs)(hl2:s.heap.IsList l2 ys)
   (hks:∀ (i:Nat) x,xs[i]?=some x→∃ k,ks[i]?=some k∧knd.is k x=true)(hxy:xs.size=ys.size)(hkl:ks.length=xs.size)(hsz:xs.size≤1000)
   (h:∀ h' tk,(∀ c o,c≠z→c≠TO→c≠i1→c≠i2→s.heap.get? c=some o→h'.get? c=some o)→h'.DictOf knd s.heap.objs.size (merged [] (ks.zip ys.toList))→Q (.ref s.heap.objs.size) { s with heap:=h',toks:=tk }) :
   wpAny (model prog w) A (call (.type "dict") [.ref z]) Q E s:=by
 refine callType_codes (Q₁:=fun obj s₁=>obj=.ref s.heap.objs.size∧s₁={ s with heap:=s.heap.push { cls:=.type "dict",data:=.dict #[] } }) F.kt_called_dict (F.kt_typeCall_dict_1 _) F.entry_dict_init (kt_code_dict_new _ ⟨rfl,rfl⟩) ?_
 rintro obj s1 ⟨rfl,rfl⟩
 have hnew:(s.heap.push { cls:=.type "dict",data:=.dict #[] }).DictOf knd s.heap.objs.size []:=Heap.DictOf.new s.heap
 have up:∀ b o,s.heap.get? b=some o→(s.heap.push { cls:=.type "dict",data:=.dict #[] }).get? b=some o:=fun b o e=>Heap.get?_push_of_some _ e
 have lt:∀ {b o},s.heap.get? b=some o→s.heap.objs.size≠b:=fun e=>Nat.ne_of_gt (Heap.lt_size e)
 refine⟨hnew.typeIs,F.args_dict_init_2 _ _,?_⟩
 unfold Builtin.«dict.__init__»
 refine wpAny_bind ?_
 unfold Builtin.Dict.selfAndRest
 refine wpAny_bind (wpAny_notOrdered_dict hnew.typeIs (show wpAny _ _ (pure (s.heap.objs.size,[Value.ref z])) _ _ _ from wpAny_pure ?_))
 show wpAny _ _ (Builtin.Dict.updateFrom "dict.__init__" s.heap.objs.size (.ref z) [] .none) _ _ _
 unfold Builtin.Dict.updateFrom
 refine wpAny_bind (wpAny_typeOf (T:="zip") ⟨_,up _ _ hz,rfl⟩ ?_)
 rw[if_pos (by decide)]
 refine wpAny_bind (oI (by simpa using hh) (up _ _ hz) fun h' tk kk=>?_)
 have kz:IsZip h' z TI TO .none:=kk _ _ (up _ _ hz)
 rw[if_pos (by rfl)]
 refine wpAny_bind (wpAny_rule (wpAny_bind (wpAny_pyIter_zip kz (wpAny_pure ⟨plainId_quiet cf _,?_⟩))))
 obtain⟨a,b,hTO⟩:=hTO
 have e1:=h1;have e2:=h2;have e3:=hl1;have e4:=hl2
 obtain⟨o1,ho1,_⟩:=e1
 obtain⟨o2,ho2,_⟩:=e2
 obtain⟨o3,ho3,_⟩:=e3
 obtain⟨o4,ho4,_⟩:=e4
 refine t1 (A:=A.in1) (knd:=knd) (ks:=ks) (by simpa using hh) D (lt hz) (lt hTI) (lt hTO) (lt ho1) (lt ho2) (lt ho3) (lt ho4) hks hxy hkl hsz (xs.size - 0) 0 _ (by omega) (Nat.zero_le _) (.inl kz) (kk _ _ (up _ _ hTI)) ⟨a,b,kk _ _ (up _ _ hTO)⟩
   (h1.at fun o e=>kk _ o (up _ o e)) (h2.at fun o e=>kk _ o (up _ o e)) (hl1.at fun o e=>kk _ o (up _ o e)) (hl2.at fun o e=>kk _ o (up _ o e)) ⟨[],Nat.le_refl _,?_,rfl⟩ fun h3 tk3 k3 hd3=>?_
 · obtain⟨o,es,ep,ho,cY⟩:=hnew
   exact⟨o,es,ep,kk _ _ ho,cY⟩
 · exact⟨rfl,h h3 tk3 (fun c o c1 c2 c3 c4 e=>k3 c o (Ne.symm (lt e)) c1 c2 c3 c4 (kk _ _ (up _ _ e))) hd3⟩
end
end L2

set_option Elab.async false
set_option linter.all false
set_option maxRecDepth 100000
set_option maxHeartbeats 8000000
namespace L2
open PySem PySem.Spec PyProof.Rows
/-! ### a set of texts -/
def wb (P:Program)(w:World)(p:Addr) (n:Nat):HO:=.ext fun h=>∃ S,h.SetOf (strKind P w) p S n
theorem SetOf.at_ {P:Program}{w:World}{h1 h2:Heap}{p:Addr}{n:Nat}(x:∃ S,h1.SetOf (strKind P w) p S n)(k:∀ o,h1.get? p=some o→h2.get? p=some o):∃ S,h2.SetOf (strKind P w) p S n:=by
 obtain⟨S,o,es,ep,t,ho,r⟩:=x
 exact⟨S,o,es,ep,t,k _ ho,r⟩
section
variable {X:Cx}
theorem nP (hc:X.calm=true):cX X (.type "set") (fun xs H Q=>∃ (a:Addr)(ss:List Str),xs=[.ref a]∧SqL X.K H a (ss.map V.str)∧ss.length≤1000∧∀ p,H p=none→Q (.ref p) (upd H p (wb X.prog X.w p (ee ss).length))):=by
 intro pins s σ H xs us Q I r h
 obtain⟨a,ss,rfl,ha,hn,q⟩:=h
 obtain⟨u,rfl,ru⟩:=ef r
 cases ru
 obtain⟨its,rv,pl,_⟩:=I.list ha
 have hl:=rv.length
 rw[List.length_map] at hl
 refine rG (I.ok.hd hc) pl.isList (by simpa using jH rv) (by rw[List.size_toArray];unfold scanBound;omega) fun h' tk kk hS=>?_
 have he:∃ o,h'.get? s.heap.objs.size=some o:=by obtain⟨o,_,_,_,e,_⟩:=hS;exact⟨o,e⟩
 exact⟨.ref s.heap.objs.size,_,I.laid (o:=wb X.prog X.w s.heap.objs.size (ee ss).length) kk (Nat.le_refl _) ⟨⟨_,hS⟩,he,fun h1 h2 x k=>SetOf.at_ x k⟩,rfl,q _ (I.hok.fresh (Nat.le_refl _))⟩
theorem kC:cX X (.builtin "len") (fun xs H Q=>∃ p n,xs=[V.ref p]∧H p=some (wb X.prog X.w p n)∧Q (.int (n:Nat)) H):=by
 intro pins s σ H xs us Q I r h
 obtain⟨p,n,rfl,hp,q⟩:=h
 obtain⟨u,rfl,ru⟩:=ef r
 cases ru
 obtain⟨⟨S,o,es,ep,t,ho,hex,hd,_,_,hb,hf,hn⟩,_⟩:=I.hok p _ hp
 have hfit:(es.size:Int) < 2 ^ 63:=by
   unfold scanBound at hb
   omega
 refine call_len_set ho hex hd hf hfit ?_
 rw[hn]
 exact⟨.int n,H,I.tok _,⟨_,rfl⟩,q⟩

/-! ### dict(zip(a,b)) -/
def bj (ks:List Str)(vs:List V):List (Key×V):=(ks.map fun k=>(Sum.inr k:Key)).zip vs
theorem nX:∀ {ks:List Key}{vs:List V}{us:List Value},Vals vs us→KV (ks.zip vs) (ks.zip us)
 | [],_,_,_=>by simp;exact .nil
 | _::_,_,_,.nil=>by simp;exact .nil
 | k::ks,_,_,.cons r t=>by
   rw[List.zip_cons_cons,List.zip_cons_cons]
   exact .cons ⟨rfl,r⟩ (nX t)
def m4 (K:PySem.W.Frag)(ta:TA):TE:=fun σ H Q=>ta σ H fun xs H1=>∃ (l1 l2:Addr)(ks:List Str)(vs:List V),xs=[.ref l1,.ref l2]∧SqL K H1 l1 (ks.map V.str)∧SqL K H1 l2 vs∧ks.length=vs.length∧ks.length≤1000 ∧
 ∀ p,H1 p=none→Q (.ref p) (upd H1 p (.dK (cC [] (bj ks vs))))
theorem ju {a b:Expr}{ta:TA}{p pos p' pos':Pos}(hc:X.calm=true)(hgd:Gl X "dict")(hmd:X.mg "dict"=none)(hgz:Gl X "zip")(hmz:X.mg "zip"=none)(ha:PA X [a,b] ta)
   (hs:starEach [a,b] X.env=(false,eval a X.env)::starEach [b] X.env:=by rfl)(hpl:(backTo pos' (starEach [b] X.env)).any (·.1)=false:=by rfl)
   (hs2:starEach [.Call (.Name "zip" p') [a,b] [] pos'] X.env=(false,eval (.Call (.Name "zip" p') [a,b] [] pos') X.env)::starEach [] X.env:=by rfl) :
   PE X (.Call (.Name "dict" p) [.Call (.Name "zip" p') [a,b] [] pos'] [] pos) (m4 X.K ta):=by
 intro pins s σ H Q I h
 refine wpAny_Call_Name_kw (g5 I hgd hmd (u:=.type "dict") (by decide +kernel) ?_)
 refine PyProof.Rows.callWith_type1 ?_ hs2 rfl
 rw[hs2]
 show wpAny _ _ (spliced ((false,eval (.Call (.Name "zip" p') [a,b] [] pos') X.env)::backTo pos [])) _ _ s
 refine Calls.spliced_cons ?_
 refine wpAny_Call_Name_kw (g5 I hgz hmz (u:=.type "zip") (by decide +kernel) ?_)
 refine PyProof.Rows.callWith_type1 (thn (ha pos' s σ H _ I h) fun us s1 ⟨xs,H1,I1,r1,q1⟩=>?_) hs hpl
 obtain⟨l1,l2,ks,vs,rfl,h1,h2,hkv,hk,q⟩:=q1
 obtain⟨u1,u2,rfl,e1,e2⟩:=r1.two
 cases e1
 cases e2
 obtain⟨i1,v1,p1,z1⟩:=I1.list h1
 obtain⟨i2,v2,p2,z2⟩:=I1.list h2
 have n1:=v1.length
 have n2:=v2.length
 rw[List.length_map] at n1
 have lt1:l1 < s1.heap.objs.size:=by obtain⟨_,_,e,_⟩:=p1;exact Heap.lt_size e
 have lt2:l2 < s1.heap.objs.size:=by obtain⟨_,_,e,_⟩:=p2;exact Heap.lt_size e
 refine call_zip_2 p1.isList p2.isList fun h' a1 a2 a3 a4 a5 a6 kk=>?_
 refine Calls.spliced_nil ?_
 have I2:Inv X pins σ H1 { s1 with heap:=h' }:=I1.kept (t':=s1.toks) kk
 have hfr:H1 h'.objs.size=none:=I2.hok.fresh (Nat.le_refl _)
 refine rO (s:={ s1 with heap:=h' }) (knd:=bU X.prog X.w) (ks:=ks.map fun k=>(Sum.inr k:Key)) (I1.ok.hd hc) (zipApart_new lt1 lt2) a1 a2 ⟨_,_,a3⟩ a4 a5 (p1.isList.at fun o e=>kk _ o e) (p2.isList.at fun o e=>kk _ o e) ?_ (by simp;omega) (by simp;omega) (by simp;omega) fun h3 tk k3 hd3=>?_
 · intro i x hx
   have hx':i1[i]?=some x:=by simpa using hx
   have hi:i < ks.length:=by rw[n1];exact(List.getElem?_eq_some_iff.mp hx').1
   obtain⟨u,hu,ru⟩:=v1.get (i:=i) (x:=V.str ks[i]) (by rw[List.getElem?_map,List.getElem?_eq_getElem hi];rfl)
   rw[hx'] at hu
   cases hu
   obtain⟨t,rfl⟩:=ru
   exact⟨Sum.inr ks[i],by rw[List.getElem?_map,List.getElem?_eq_getElem hi];rfl,gm _ _ _ _⟩
 · have he:∃ o,h3.get? h'.objs.size=some o:=by obtain⟨o,_,_,e,_⟩:=hd3;exact⟨o,e⟩
   have big:sysModules < h'.objs.size:=I2.big
   have rel:KV (cC [] (bj ks vs)) (merged [] ((ks.map fun k=>(Sum.inr k:Key)).zip i2.toArray.toList)):=KV.merge (nX (by simpa using v2)) .nil
   have hz:(cC [] (bj ks vs)).length≤sizeLine:=by
     have:=d2 (bj ks vs) []
     have l:(bj ks vs).length≤ks.length:=by unfold bj;rw[List.length_zip,List.length_map];exact Nat.min_le_left _ _
     rw[List.length_nil] at this
     rw[sizeLine_eq]
     omega
   have kall:∀ b o,s1.heap.get? b=some o→h3.get? b=some o:=fun b o e=>by
     have hlt:=Heap.lt_size e
     exact k3 b o (Nat.ne_of_lt (Nat.lt_of_lt_of_le hlt (Nat.le_add_right _ _))) (Nat.ne_of_lt (Nat.lt_of_lt_of_le hlt (Nat.le_add_right _ _))) (Nat.ne_of_lt hlt) (Nat.ne_of_lt (Nat.lt_of_lt_of_le hlt (Nat.le_add_right _ _))) (kk b o e)
   have hsz:s1.heap.objs.size≤h'.objs.size:=by rw[a6];omega
   have I3:=I1.laid (a:=h'.objs.size) (o:=.dK (cC [] (bj ks vs))) (h':=h3) (t':=tk) kall hsz (l6 hz (beq_eq_false_iff_ne.mpr (Ne.symm (Nat.ne_of_lt big))) rel hd3)
   exact⟨.ref h'.objs.size,_,I3,rfl,q _ hfr⟩
end
end L2

set_option Elab.async false
set_option linter.all false
set_option maxRecDepth 100000
set_option maxHeartbeats 8000000
namespace L2
open PySem PySem.Spec PyProof.Rows
/-! ### texts in order -/
def leS (a b:Str):Prop:=ltCps b.cps.toList a.cps.toList=false
theorem lJ {a b:Str}:leS a b↔¬b.cps.toList < a.cps.toList:=by unfold leS;rw[ltCps_eq];simp
theorem mR {a b:Str}(h1:leS a b)(h2:leS b a):a=b:=by
 rw[lJ] at h1 h2
 have e:a.cps.toList=b.cps.toList:=by
   have h1':a.cps.toList≤b.cps.toList:=h1
   have h2':b.cps.toList≤a.cps.toList:=h2
   exact List.le_antisymm h1' h2'
 have e2:a.cps=b.cps:=Array.toList_inj.mp e
 cases a
 cases b
 simp only at e2
 rw[e2]
theorem q8 {a b c:Str}(h1:leS a b)(h2:leS b c):leS a c:=by
 rw[lJ] at h1 h2 ⊢
 have h1':a.cps.toList≤b.cps.toList:=h1
 have h2':b.cps.toList≤c.cps.toList:=h2
 exact List.le_trans h1' h2'
theorem ig:∀ (p:Str)(l:List Str),risingS p l=true→(p::l).Pairwise leS
 | p,[],_=>List.pairwise_singleton _ _
 | p,x::r,h=>by
   have h':(!ltCps x.cps.toList p.cps.toList&&risingS x r)=true:=h
   rw[Bool.and_eq_true] at h'
   have ih:=ig x r h'.2
   have hpx:leS p x:=by unfold leS;simpa using h'.1
   refine List.pairwise_cons.mpr ⟨fun y hy=>?_,ih⟩
   rcases List.mem_cons.mp hy with e | hy
   · subst e;exact hpx
   · exact q8 hpx ((List.pairwise_cons.mp ih).1 y hy)
theorem fF:∀ (l:List Str),sortedS l=true→l.Pairwise leS
 | [],_=>List.Pairwise.nil
 | x::r,h=>ig x r h
theorem gi {a b:List Str}(ha:sortedS a=true)(hb:sortedS b=true)(h:a.Perm b):a=b :=
 List.Perm.eq_of_pairwise (fun x y _ _ h1 h2=>mR h1 h2) (fF a ha) (fF b hb) h
theorem i6:∀ {l:List Value}{ks:List Str},l.length=ks.length→(∀ (i:Nat) v,l[i]?=some v→∃ x t,ks[i]?=some x∧v=.str x t)→StrsAre l ks
 | [],[],_,_=>.nil
 | [],_::_,h,_=>by simp at h
 | _::_,[],h,_=>by simp at h
 | v::l,k::ks,h,hv=>by
   obtain⟨x,t,hx,e⟩:=hv 0 v rfl
   simp at hx
   subst hx e
   exact .cons _ t (i6 (by simpa using h) fun i u hu=>by simpa using hv (i+1) u (by simpa using hu))
theorem nq:∀ {xs:List V}{us:List Value},xs.length=us.length→(∀ (i:Nat) u,us[i]?=some u→∃ x,xs[i]?=some x∧bF x u)→Vals xs us
 | [],[],_,_=>.nil
 | [],_::_,h,_=>by simp at h
 | _::_,[],h,_=>by simp at h
 | x::xs,u::us,h,hv=>by
   obtain⟨y,hy,r⟩:=hv 0 u rfl
   simp at hy
   subst hy
   exact .cons r (nq (by simpa using h) fun i w hw=>by simpa using hv (i+1) w (by simpa using hw))
section
variable {X:Cx}
theorem fu:cX X (.builtin "sorted") (fun xs H Q=>∃ (a:Addr)(ss:List Str),xs=[.ref a]∧SqL X.K H a (ss.map V.str)∧ss.length < 64∧∀ p ss',H p=none→ss'.Perm ss→sortedS ss'=true→Q (.ref p) (upd H p (.lst (ss'.map V.str)))):=by
 intro pins s σ H xs us Q I r h
 obtain⟨a,ss,rfl,ha,hn,q⟩:=h
 obtain⟨u,rfl,ru⟩:=ef r
 cases ru
 obtain⟨its,rv,pl,_⟩:=I.list ha
 have hl:=rv.length
 rw[List.length_map] at hl
 refine sorted_strs pl.isList (jH rv) (by omega) fun out ss' a1 a2 a3=>?_
 obtain⟨e,he⟩:=sortedAll_at s.heap its out
 have hp:=a2.length_eq
 refine⟨.ref (s.heap.objs.size+1),_,I.laid (o:=.lst (ss'.map V.str)) (t':=s.toks) (fun b o x=>sortedAll_old x) (Nat.le_succ _) ⟨by rw[List.length_map,sizeLine_eq];omega,out.toList,e,iQ a1,he⟩,rfl,q _ ss' (I.hok.fresh (Nat.le_succ _)) a2 a3⟩
theorem dG (hc:X.calm=true):cX X (.builtin "sorted") (fun xs H Q=>∃ (d:Addr)(ks:List Str)(kvs:List (Key×V)),xs=[.ref d]∧Rd H d (.dK kvs)∧kvs.map (·.1)=ks.map Sum.inr∧ks.length < 64∧∀ p ss',H p=none→ss'.Perm ks→sortedS ss'=true→Q (.ref p) (upd H p (.lst (ss'.map V.str)))):=by
 intro pins s σ H xs us Q I r h
 obtain⟨d,ks,kvs,rfl,hd,hk,hn,q⟩:=h
 obtain⟨u,rfl,ru⟩:=ef r
 cases ru
 obtain⟨z,lo,vs,rel,dd⟩:=jt I.hok hd
 obtain⟨ep,hat⟩:=dd.dictAt
 have hlv:vs.length=ks.length:=by
   have:=congrArg List.length hk
   rw[List.length_map,List.length_map] at this
   rw[←rel.length];exact this
 refine Calls.call_function_entry kind_sorted plain_sorted entry_sorted (args_sorted1 _) ?_
 unfold Builtin.«sorted»
 refine wpAny_bind (m:=checkCount "sorted" 1 1 _) (wpAny_pure ?_)
 refine wpAny_bind (PySem.W.kdu_collect (A:=X.A.in1) (PySem.W.kdl_dict (knd:=bU X.prog X.w) (kvs:=vs) (ep:=ep) lo) (I.ok.hd hc) hat (by rw[hlv,sizeLine_eq];omega) fun h' tk acc kk hacc=>?_)
 have hal:acc.toList.length=ks.length:=by rw[Array.length_toList,hacc.1,hlv]
 have hst:StrsAre acc.toList ks:=by
   refine i6 hal fun i v hv=>?_
   obtain⟨k,x,hx,his⟩:=hacc.2 i v (by rw[←Array.getElem?_toList];exact hv)
   have e1:(vs.map (·.1))[i]?=some k:=by rw[List.getElem?_map,hx];rfl
   rw[←rel.keys,hk,List.getElem?_map] at e1
   obtain⟨y,hy,e2⟩:=Option.map_eq_some_iff.mp e1
   subst e2
   rcases b7 (show iY (Sum.inr y) v=true from his) with ⟨i',t,e,_⟩ | ⟨y',t,e,e'⟩
   · cases e
   · cases e;exact⟨y,t,hy,e'⟩
 refine wpAny_bind (wpAny_newList ?_ (by rw[hal,sizeLine_eq];omega))
 have hoL:(h'.push (seqObj "list" acc.toList.toArray 0)).get? h'.objs.size=some (seqObj "list" acc.toList.toArray 0):=Heap.get?_push_size _ rfl
 refine wpAny_bind (wpAny_holding (wpAny_call_entry slot_list_sort ⟨_,hoL,rfl⟩ entry_list_sort (list_sort_treeK strKind_oneLt hoL hst.keysOf (fun v1 v2 cY e=>keyKind_strs (by rw[←e];exact hst)) (by omega) fun st' a1 a2=>⟨_,rfl,?_⟩) (args_list_sort _)))
 obtain⟨ss',b1,b2,b3⟩:=sorted_out_str hst a1 a2
 have hp:=b2.length_eq
 have I1:Inv X pins σ H { s with heap:=h',toks:=tk }:=I.kept kk
 obtain⟨e,he⟩:=sortedHeap_at (out:=(arrOf st').map (·.2)) hoL
 refine wpAny_pure ⟨_,rfl,?_⟩
 refine⟨.ref h'.objs.size,_,I1.laid (o:=.lst (ss'.map V.str)) (t':=tk) (fun b o x=>?_) (Nat.le_refl _) ⟨by rw[List.length_map,sizeLine_eq];omega,_,e,iQ b1,he⟩,rfl,q _ ss' (I1.hok.fresh (Nat.le_refl _)) b2 b3⟩
 have hlt:=Heap.lt_size x
 rw[sortedHeap_old (Nat.ne_of_lt hlt) (by rw[Heap.size_push];exact Nat.lt_succ_of_lt hlt)]
 exact Heap.get?_push_of_some _ x

/-! ### for k in d: the dict is known while it is walked -/
def Itd (d:Addr)(o:Obj)(kvs:List (Key×V)):It:=⟨fun i H=>H d=some (.frz o (.dK kvs))∧i < kvs.length,fun i H x H'=>H'=H∧∃ k v,kvs[i]?=some (k,v)∧x=kV k,fun i H=>H d=some (.frz o (.dK kvs))∧i=kvs.length⟩
theorem jN {X:Cx}{pins:List (Addr×Obj)}{σ:St}{H:Hp}{s:Shared}{d:Addr}{o:Obj}{kvs:List (Key×V)}(I:Inv X pins σ H s)(h:H d=some (.frz o (.dK kvs))) :
   ∃ vs ep,(∃ es,o.data=.dict es ep)∧s.heap.DictAt (bU X.prog X.w) d vs ep∧KV kvs vs∧(d==sysModules)=false:=by
 obtain⟨e,z,lo,vs,rel,o',es,ep,ho,r1,r2,r3⟩:=(show cg X.prog X.w H s.heap d (.frz o (.dK kvs)) from I.hok d _ h)
 rw[e] at ho
 cases ho
 exact⟨vs,ep,⟨es,r2⟩,⟨o,es,e,r1,r2,r3⟩,rel,lo⟩
theorem vo {k:Key}{v:Value}(h:iY k v=true):bF (kV k) v:=by
 rcases b7 h with ⟨i,t,rfl,rfl⟩ | ⟨x,t,rfl,rfl⟩
 · exact⟨t,rfl⟩
 · exact⟨t,rfl⟩
theorem qB {P:Program}{w:World}{K:PySem.W.Frag}{tg:Expr}(d it:Addr)(o:Obj)(kvs:List (Key×V)) (ep:Nat)(hep:∃ es,o.data=.dict es ep)(hne:d≠it):my P w K tg (Itd d o kvs) [it] it (fun i h=>h.IsKeyIter it d i kvs.length ep) where
 mem:=by simp
 obj:=fun i h st b hb=>by
   have e:b=it:=by simpa using hb
   subst e
   obtain⟨o,e,c,dd⟩:=st
   exact⟨o,e,fun v z=>by rw[dd] at z;cases z⟩
 keep:=fun i h h' st k=>st.at fun o e=>k it (by simp) o e
 item:=by
   intro X hP hw hK hc i pins s σ H E I hf st hg
   subst hP hw hK
   obtain⟨hd,hi⟩:=hg
   obtain⟨f0,f1,f2,f3,f4,f5⟩:=hf it (by simp)
   obtain⟨vs,ep',⟨es',h1⟩,hat,rel,lo⟩:=jN I hd
   obtain⟨es,h2⟩:=hep
   rw[h1] at h2
   cases h2
   have hl:=rel.length
   have st':s.heap.IsKeyIter it d i vs.length ep:=by rw[←hl];exact st
   refine(Walks.dictKeys (knd:=bU X.prog X.w) (I.ok.hd hc) it d hne vs ep).item i s _ _ (by omega) ⟨st',hat⟩ fun v h' tk hv st2 kk=>?_
   have I1:Inv X pins σ H { s with heap:=h',toks:=tk }:=I.turned (fun b o hb e=>kk b o (by simpa using hb) e) f0 f1 f3 f4 f5
   obtain⟨k,x,hx,his⟩:=hv
   obtain⟨oi,ei,ci,di⟩:=id st2.1
   have ek:∃ v0,kvs[i]?=some (k,v0):=by
     have e1:(vs.map (·.1))[i]?=some k:=by rw[List.getElem?_map,hx];rfl
     rw[←rel.keys,List.getElem?_map] at e1
     obtain⟨p,hp,e2⟩:=Option.map_eq_some_iff.mp e1
     exact⟨p.2,by rw[hp,←e2]⟩
   obtain⟨v0,hv0⟩:=ek
   refine⟨_,rfl,nN (s:={ s with heap:=h',toks:=tk }) ei ci di (by decide) ⟨kV k,H,I1,vo his,⟨rfl,k,v0,hv0,rfl⟩,?_,fun b hb=>(hf b hb).1⟩⟩
   rw[hl];exact st2.1
 done:=by
   intro X hP hw hK hc i pins s σ H E I hf st hg
   subst hP hw hK
   obtain⟨hd,rfl⟩:=hg
   obtain⟨f0,f1,f2,f3,f4,f5⟩:=hf it (by simp)
   obtain⟨vs,ep',⟨es',h1⟩,hat,rel,lo⟩:=jN I hd
   obtain⟨es,h2⟩:=hep
   rw[h1] at h2
   cases h2
   have hl:=rel.length
   have st':s.heap.IsKeyIter it d vs.length vs.length ep:=by rw[←hl];exact st
   exact(Walks.dictKeys (knd:=bU X.prog X.w) (I.ok.hd hc) it d hne vs ep).done s _ _ ⟨st',hat⟩ fun h' tk kk=>⟨rfl,I.turned (fun b o hb e=>kk b o (by simpa using hb) e) f0 f1 f3 f4 f5⟩
 self:=fun _ _ _ _ _ st h=>wpAny_pyIter_keyiter st h
theorem Inv.freeze {pins:List (Addr×Obj)}{σ:St}{H:Hp}{s:Shared}{d:Addr}{kvs:List (Key×V)}(I:Inv X pins σ H s)(h:H d=some (.dK kvs)):∃ o,s.heap.get? d=some o∧Inv X pins σ (upd H d (.frz o (.dK kvs))) s:=by
 obtain⟨z,lo,vs,rel,o,es,ep,ho,r⟩:=(show cg X.prog X.w H s.heap d (.dK kvs) from I.hok d _ h)
 refine⟨o,ho,?_⟩
 have:=I.write (x:=d) (e:=d) (o:=.frz o (.dK kvs)) (h':=s.heap) (t':=s.toks) (by rw[h];exact True.intro) (.inl rfl) (fun b u _ e=>e) ⟨o,ho⟩ ⟨ho,z,lo,vs,rel,o,es,ep,ho,r⟩
 exact this
def u9 (td:TE):TI:=fun σ H R=>td σ H fun x H1=>∃ d kvs,x=.ref d∧((H1 d=some (.dK kvs)∧∀ o,R (Itd d o kvs) (upd H1 d (.frz o (.dK kvs))))∨∃ o,H1 d=some (.frz o (.dK kvs))∧R (Itd d o kvs) H1)
theorem fP {tg l:Expr}{tl:TE}(hl:PE X l tl):PI X tg l (u9 tl):=by
 intro pins s σ H R I h
 refine thn (hl s σ H _ I h) fun v s1 ⟨x,H1,I1,r1,d,kvs,e,q1⟩=>?_
 subst e
 cases r1
 have main:∀ (H2:Hp)(o:Obj),Inv X pins σ H2 s1→H2 d=some (.frz o (.dK kvs))→R (Itd d o kvs) H2→wpAny (model X.prog X.w) X.A (pyIter (.ref d)) (PIE X pins σ tg R) X.xe s1:=fun H2 o I2 hd q=>by
   obtain⟨vs,ep,hep,hat,rel,lo⟩:=jN I2 hd
   refine wpAny_pyIter_dict lo hat ?_
   have hlt:d < s1.heap.objs.size:=I2.hok.lt hd
   have hl:=rel.length
   refine⟨s1.heap.objs.size,[s1.heap.objs.size],_,_,H2,rfl,I2.kept (t':=s1.toks) fun b o e=>Heap.get?_push_of_some _ e,qB d _ o kvs ep hep (Nat.ne_of_lt hlt),⟨_,Heap.get?_push_size _ rfl,rfl,by rw[←hl];rfl⟩,fun b hb=>?_,q⟩
   have e:b=s1.heap.objs.size:=by simpa using hb
   subst e
   exact I2.fpOk (Nat.le_refl _) (I2.hok.fresh (Nat.le_refl _))
 rcases q1 with ⟨hd,q⟩ | ⟨o,hd,q⟩
 · obtain⟨o,ho,I2⟩:=I1.freeze hd
   exact main _ o I2 ad (q o)
 · exact main _ o I1 hd q
theorem cZ {H1:Hp}{d:Addr}{o:Obj}{kvs:List (Key×V)}(h:H1 d=some (.frz o (.dK kvs))):d8 (Itd d o kvs) H1 kvs.length (fun i x=>∃ k v,kvs[i]?=some (k,v)∧x=kV k) :=
 ⟨fun i H' hi s=>⟨s _ _ h,hi⟩,fun i H' x H2 hi s y=>y,fun H' s=>⟨s _ _ h,rfl⟩⟩
/-! ### range objects,list(range(n)) -/
theorem iW:cX X (.type "range") (fun xs H Q=>∃ j:Int,xs=[.int j]∧∀ p,H p=none→Q (.ref p) (upd H p (.rng 0 j))):=by
 intro pins s σ H xs us Q I r h
 obtain⟨j,rfl,q⟩:=h
 obtain⟨u,rfl,t,rfl⟩:=ef r
 refine call_range_1 ?_
 refine⟨.ref s.heap.objs.size,_,I.laid (o:=.rng 0 j) (fun b u e=>Heap.get?_push_of_some _ e) (Nat.le_refl _) ⟨_,_,_,Heap.get?_push_size _ rfl⟩,rfl,q _ (I.hok.fresh (Nat.le_refl _))⟩
theorem j8 (hc:X.calm=true):cX X (.type "list") (fun xs H Q=>∃ (p:Addr) (n:Nat),xs=[.ref p]∧H p=some (.rng 0 n)∧n≤1000∧∀ l,H l=none→Q (.ref l) (upd H l (.lst ((List.range n).map fun i:Nat=>V.int i)))):=by
 intro pins s σ H xs us Q I r h
 obtain⟨p,n,rfl,hp,hn,q⟩:=h
 obtain⟨u,rfl,ru⟩:=ef r
 cases ru
 obtain⟨t,u,v,e⟩:=(show cg X.prog X.w H s.heap p (.rng 0 n) from I.hok p _ hp)
 have hrs:Builtin.Range.rangeSize 0 (n:Int) 1=n:=by rw[rangeSize_one];split<;>omega
 refine call_list_range (n:=n) (I.ok.hd hc) e (small_one (by omega) (by omega) (by omega) (by omega)) hrs (by omega) fun h' tk acc c' kk hS hI=>?_
 have hal:acc.toList.length=n:=by rw[Array.length_toList];exact hI.1
 have hv:Vals ((List.range n).map fun i:Nat=>V.int i) acc.toList:=by
   refine nq (by rw[List.length_map,List.length_range,hal]) fun i u hu=>?_
   obtain⟨t,e⟩:=hI.2 i u (by rw[←Array.getElem?_toList];exact hu)
   have hi:i < n:=by rw[←hal];exact(List.getElem?_eq_some_iff.mp hu).1
   refine⟨V.int i,by rw[List.getElem?_map,List.getElem?_range hi];rfl,t,?_⟩
   rw[e];congr 1;omega
 exact⟨.ref s.heap.objs.size,_,I.laid (o:=.lst _) kk (Nat.le_refl _) ⟨by rw[List.length_map,List.length_range,sizeLine_eq];omega,acc.toList,c',hv,by simpa using hS⟩,rfl,q _ (I.hok.fresh (Nat.le_refl _))⟩
end
end L2

set_option Elab.async false
set_option linter.all false
set_option maxRecDepth 100000
set_option maxHeartbeats 8000000
namespace L2
open PySem PySem.Spec PyProof.Rows
/-! ### slices of texts -/
section
variable {X:Cx}
def wU:V→Option Int→Option Int→Hp→VK→Prop:=fun x lo hi H Q=>∃ z,x=.str z∧z.length≤sizeLine∧Q (.str (Txt.slice z lo hi)) H
theorem nW:SlR X wU:=by
 intro pins s σ H x v vl vu lo hi sl Q I rx hs pl pu h
 obtain⟨z,rfl,hz,q⟩:=h
 obtain⟨t,rfl⟩:=rx
 refine⟨"str",_,slot_str_getitem.lookup,typeIs_str s z t,?_⟩
 obtain⟨l,hl1,hl2⟩:∃ l:Option (Int×Tok),vl=partValue l∧l.map (·.1)=lo:=by
   cases pl with
   | none=>exact⟨none,rfl,rfl⟩
   | int i t=>exact⟨some (i,t),rfl,rfl⟩
 obtain⟨u,hu1,hu2⟩:∃ u:Option (Int×Tok),vu=partValue u∧u.map (·.1)=hi:=by
   cases pu with
   | none=>exact⟨none,rfl,rfl⟩
   | int i t=>exact⟨some (i,t),rfl,rfl⟩
 subst hl1 hu1 hl2 hu2
 refine wpAny_getItem_str_slice (l:=l) (u:=u) (st:=none) hs rfl ?_
 have key:∀ P:Prop,True:=fun _=>trivial
 unfold sliceMade
 have e:Txt.slice z (l.map (·.1)) (u.map (·.1))=if(((none:Option (Int×Tok)).map (·.1)).getD 1==1&&(slicePicked z l u none).length==z.length)=true then z else⟨((slicePicked z l u none).filterMap (z.cps[·]?)).toArray⟩:=rfl
 by_cases hc:(((none:Option (Int×Tok)).map (·.1)).getD 1==1&&(slicePicked z l u none).length==z.length)=true
 · rw[if_pos hc] at e ⊢
   rw[e] at q
   exact⟨.str z,H,I,⟨t,rfl⟩,q⟩
 · rw[if_neg hc] at e ⊢
   have hle:=Txt.slice_le z (l.map (·.1)) (u.map (·.1))
   rw[e] at q hle
   exact⟨Nat.le_trans hle hz,⟨.str _,H,I.tok _,⟨_,rfl⟩,q⟩⟩
theorem tq (hc:X.calm=true):MtR X "str.index" (fun x vs H Q=>∃ z y,x=.str z∧vs=[.str y]∧0≤Txt.find z y∧Q (.int (Txt.find z y)) H):=by
 intro pins s σ H x xs v us Q I rx rs h
 obtain⟨z,y,rfl,rfl,h0,q⟩:=h
 obtain⟨t,rfl⟩:=rx
 obtain⟨u,rfl,ru⟩:=rs.one
 obtain⟨t',rfl⟩:=ru
 refine index_or (I.ok.hd hc) (fun e _=>by omega) fun _ _=>⟨.int _,H,I.tok _,⟨_,rfl⟩,q⟩
end
end L2

set_option Elab.async false
set_option linter.all false
set_option maxRecDepth 100000
set_option maxHeartbeats 8000000
namespace L2
open PySem PySem.Spec PyProof.Rows
theorem u3 {X:Cx}{c0 c1 c2 c3 c4 c5 c6 c7:Int} {j0 j1 j2 j3 j4 j5 j6 j7}{p0 p1 p2 p3 p4 p5 p6 p7:Pos}:PA X [.Constant (.int c0) j0 p0,.Constant (.int c1) j1 p1,.Constant (.int c2) j2 p2,.Constant (.int c3) j3 p3,.Constant (.int c4) j4 p4,.Constant (.int c5) j5 p5,.Constant (.int c6) j6 p6,.Constant (.int c7) j7 p7] (dM (tC (.int c0)) (dM (tC (.int c1)) (dM (tC (.int c2)) (dM (tC (.int c3)) (dM (tC (.int c4)) (dM (tC (.int c5)) (dM (tC (.int c6)) (dM (tC (.int c7)) se)))))))):=(aa aj (aa aj (aa aj (aa aj (aa aj (aa aj (aa aj (aa aj ac))))))))
theorem wy {X:Cx}{c0 c1 c2 c3 c4 c5 c6 c7:Str} {j0 j1 j2 j3 j4 j5 j6 j7}{p0 p1 p2 p3 p4 p5 p6 p7:Pos}:PA X [.Constant (.str c0) j0 p0,.Constant (.str c1) j1 p1,.Constant (.str c2) j2 p2,.Constant (.str c3) j3 p3,.Constant (.str c4) j4 p4,.Constant (.str c5) j5 p5,.Constant (.str c6) j6 p6,.Constant (.str c7) j7 p7] (dM (tC (.str c0)) (dM (tC (.str c1)) (dM (tC (.str c2)) (dM (tC (.str c3)) (dM (tC (.str c4)) (dM (tC (.str c5)) (dM (tC (.str c6)) (dM (tC (.str c7)) se)))))))):=(aa bQ (aa bQ (aa bQ (aa bQ (aa bQ (aa bQ (aa bQ (aa bQ ac))))))))
end L2

set_option Elab.async false
set_option linter.all false
set_option maxRecDepth 100000
set_option maxHeartbeats 4000000
namespace L2
open PySem PySem.Spec PyProof.Rows
end L2

set_option Elab.async false
set_option linter.all false
set_option maxRecDepth 100000
set_option maxHeartbeats 4000000
namespace L2
open PySem PySem.Spec PyProof.Rows

def CX1 (P:Program)(w:World):CXT:=fun outer H s E ev s'=>∃ (e:Addr) (cls a0:Value)(H':Hp)(B:Heap),ev=.ref e∧s'.os=s.os∧AllBare s'.gens∧Un (frs outer) [] H H' s.heap s'.heap∧HOk P w H' s'.heap∧Heap.FlyingW B outer e cls a0 s'.heap ∧
 (∀ b o,s.heap.get? b=some o→b∉frs outer→∃ o',B.get? b=some o'∧(H b=none→o'=o))∧(∀ b u,H' b=some u→∀ o,s'.heap.get? b=some o→B.get? b=some o)∧E cls none H'
theorem HOk.by {P:Program}{w:World}{H:Hp}{h h':Heap}(x:HOk P w H h)(k:∀ b u,H b=some u→∀ o,h.get? b=some o→h'.get? b=some o):HOk P w H h':=fun a o e =>
 (x a o e).stay (fun b u hb q=>by
   rcases hb with rfl | hb
   · exact k b o e u q
   · exact k b _ hb u q) (fun _ q=>q) fun _ _ q=>q
theorem HOk.has {P:Program}{w:World}{H:Hp}{h:Heap}(x:HOk P w H h){a:Addr}{o:HO}(e:H a=some o):∃ ob,h.get? a=some ob:=by
 have y:=x a o e
 clear e
 induction o with
 | lst xs=>obtain⟨_,_,_,_,e⟩:=y;exact⟨_,e⟩
 | tup xs=>obtain⟨_,_,_,o,e,_⟩:=y;exact⟨_,e⟩
 | dK kvs=>obtain⟨_,_,_,_,o,_,_,e,_⟩:=y;exact⟨_,e⟩
 | dT kvs=>obtain⟨_,_,_,_,o,_,_,e,_⟩:=y;exact⟨_,e⟩
 | set S n=>obtain⟨o,_,_,_,e,_⟩:=y;exact⟨_,e⟩
 | ins C dx fs=>obtain⟨_,_,_,e,_⟩:=y;exact⟨_,e⟩
 | own z=>obtain⟨_,e⟩:=y;exact⟨_,e⟩
 | xd fs=>obtain⟨_,⟨_,_,_,e,_⟩,_⟩:=y;exact⟨_,e⟩
 | rng lo hi=>obtain⟨_,_,_,e⟩:=y;exact⟨_,e⟩
 | frz ob u ih=>obtain⟨e,_⟩:=y;exact⟨_,e⟩
 | tbl ps=>exact⟨_,y⟩
 | met f z=>exact⟨_,y⟩
 | ext φ=>obtain⟨_,⟨o,e⟩,_⟩:=y;exact⟨o,e⟩

section
variable {X:Cx}{pins:List (Addr×Obj)}{σ:St}{H:Hp}{s:Shared}{h' B:Heap}{e:Addr}{cls a0:Value}{E:XK}
theorem tw (I:Inv X pins σ H s)(hex:X.ex=[])(fl:Heap.FlyingW B X.outer e cls a0 h')(up:s.heap.UpToSlots h')
   (k1:∀ b o,X.s₀.heap.get? b=some o→b∉X.fs→∃ o',B.get? b=some o'∧(X.H₀ b=none→o'=o))(k2:∀ b u,H b=some u→∀ o,s.heap.get? b=some o→B.get? b=some o)(q:E cls none H) :
   CX1 X.prog X.w X.outer X.H₀ X.s₀ E (.ref e) { s with heap:=h' }:=by
 have nox:∀ b:Addr,b∉X.ex:=fun b=>by rw[hex];simp
 have k2':∀ b u,H b=some u→∀ o,s.heap.get? b=some o→h'.get? b=some o:=fun b u hb o ho=>fl.1 b o (k2 b u hb o ho)
 refine⟨e,cls,a0,H,B,rfl,I.os,I.bare,⟨fun b o ho hn hf _=>?_,fun b o ho hn hf _=>?_,fun b o ho hn _=>I.base.free b o ho hn (nox b),fun b o ho _=>?_,I.base.tups,I.base.frzs,I.base.tbls⟩,I.hok.by k2',fl,k1,fun b u hb o ho=>?_,q⟩
 · obtain⟨o',e1,e2⟩:=k1 b o ho hf
   rw[e2 hn] at e1
   exact fl.1 b o e1
 · obtain⟨sl,e1⟩:=I.base.slot b o ho hn hf (nox b)
   obtain⟨_,oo,e2,e3⟩:=I.ok.funs.mem hf
   rw[ho] at e2
   cases e2
   obtain⟨sl2,e4⟩:=up b _ e1 e3
   exact⟨sl2,e4⟩
 · by_cases hf:b∈X.fs
   · obtain⟨_,oo,e2,e3⟩:=I.ok.funs.mem hf
     rw[ho] at e2
     cases e2
     have hn:=I.ok.frf b hf
     obtain⟨sl,e1⟩:=I.base.slot b o ho hn hf (nox b)
     obtain⟨sl2,e4⟩:=up b _ e1 e3
     exact⟨_,e4⟩
   · obtain⟨o',e1,_⟩:=k1 b o ho hf
     exact⟨o',fl.1 b o' e1⟩
 · obtain⟨ob,hob⟩:=I.hok.has hb
   have e1:=k2 b u hb ob hob
   have e2:=fl.1 b ob e1
   have ho':h'.get? b=some o:=ho
   rw[e2] at ho'
   cases ho'
   exact e1
end
theorem cG {P:Program}{w:World}{K:PySem.W.Frag}{mg:Str→Option Value}{base:Heap}{N:List Str}{qual:Str}{scope:Scope}{f:Addr}{cd:Value}{A:Around}{outer:List Env}{s0:Shared}{H0:Hp}{E:XK} :
   fX (CX1 P w) (cJ (CX1 P w) P w K mg base N qual scope f cd A outer s0 H0 E) E:=by
 rintro pins σ H s ev s' I ⟨e,cls,a0,H',B,rfl,hos,hba,hun,hok,hfl,k1,k2,q⟩
 have I':=I.call' (s':=s') (ch:=[]) hos hun hok hba (fun b z=>absurd z (by simp))
 show wpAny (model P w) (A.deeper (envOfC qual scope s0.heap.objs.size f cd)) (leaving (envOfC qual scope s0.heap.objs.size f cd) (.ref e)) _ _ s'
 refine wpAny_leaves_onW (L:=s0.heap.objs.size) I.ok.frames rfl hfl fun h' fl up=>?_
 refine tw I' rfl fl up (fun b o ho hf=>?_) k2 q
 have hbl:b < s0.heap.objs.size:=Heap.lt_size ho
 obtain⟨o1,ho1⟩:=I.base.there b o ho (by simp[cJ])
 have hns:b∉frs (envOfC qual scope s0.heap.objs.size f cd::outer):=fun z=>by
   rcases List.mem_cons.mp (I.stkSub b z) with e1 | e1
   · have e2:b=s0.heap.objs.size:=e1
     rw[e2] at hbl
     exact absurd hbl (Nat.lt_irrefl _)
   · exact hf e1
 obtain⟨o',e1,e2⟩:=k1 b o1 ho1 hns
 refine⟨o',e1,fun hn=>?_⟩
 have hn':H b=none:=I.base.free b o ho hn (by simp[cJ])
 have:=I.base.keep b o ho hn hf (by simp[cJ])
 rw[ho1] at this
 cases this
 exact e2 hn'
theorem vO {P:Program}{w:World}{K:PySem.W.Frag}{mg:Str→Option Value}{base:Heap}{N:List Str}{qual:Str}{scope:Scope}{f:Addr}{cd:Value}{A:Around}{outer:List Env}{s0:Shared}{H0:Hp}{E:XK}
   {pins:List (Addr×Obj)}{σ:St}{H:Hp}{s:Shared}{h1:Heap}{e:Addr}{cls:Value}{args:List Value}(I:Inv (cJ (CX1 P w) P w K mg base N qual scope f cd A outer s0 H0 E) pins σ H s)(hx:Heap.MadeExcOf s.heap h1 e cls args)(q:E cls none H) :
   (cJ (CX1 P w) P w K mg base N qual scope f cd A outer s0 H0 E).xe (.ref e) { s with heap:=h1 }:=by
 have I':=I.kept (t':=s.toks) hx.keeps
 have hfrs:=I.stack
 show wpAny (model P w) (A.deeper (envOfC qual scope s0.heap.objs.size f cd)) (leaving (envOfC qual scope s0.heap.objs.size f cd) (.ref e)) _ _ { s with heap:=h1 }
 have hin:∀ env∈(envOfC qual scope s0.heap.objs.size f cd::outer),∀ b,env.frame=some b→b∈frs (envOfC qual scope s0.heap.objs.size f cd::outer):=fun env he b hb=>List.mem_filterMap.mpr ⟨env,he,hb⟩
 refine wpAny_leaves_madeW (base:=PySem.W.hideAll s.heap (frs (envOfC qual scope s0.heap.objs.size f cd::outer))) (h:=s.heap) (L:=s0.heap.objs.size) I.ok.frames rfl (fun b o q=>PySem.W.of_hideAll _ q) (PySem.W.funFrames_hide hfrs hin) hx fun h' t fl _ _ up=>?_
 refine tw I' rfl fl up (fun b o ho hf=>?_) (fun b u hb o ho=>?_) q
 · have hbl:b < s0.heap.objs.size:=Heap.lt_size ho
   obtain⟨o1,ho1⟩:=I.base.there b o ho (by simp[cJ])
   have hns:b∉frs (envOfC qual scope s0.heap.objs.size f cd::outer):=fun z=>by
     rcases List.mem_cons.mp (I.stkSub b z) with e1 | e1
     · have e2:b=s0.heap.objs.size:=e1
       rw[e2] at hbl
       exact absurd hbl (Nat.lt_irrefl _)
     · exact hf e1
   refine⟨o1,PySem.W.hideAll_get _ ho1 hns,fun hn=>?_⟩
   have:=I.base.keep b o ho hn hf (by simp[cJ])
   rw[ho1] at this
   exact Option.some.inj this
 · obtain⟨ob,hob⟩:=I.hok.has hb
   have e1:h1.get? b=some ob:=hx.keeps b ob hob
   have e2:h1.get? b=some o:=ho
   rw[e1] at e2
   cases e2
   refine PySem.W.hideAll_get _ hob fun z=>?_
   have:=I.stkFree b z
   rw[hb] at this
   cases this
section
variable {P:Program}{w:World}{K:PySem.W.Frag}{mg:Str→Option Value}{base:Heap}
theorem Fun.okX {x qual:Str}{st:Stmt}{f:Addr}{fd:FuncData}{N ps:List Str}{k:Nat}{sp:Sp}(F:Fun K x qual st f fd)(S:aG N ps (af st))(len:∀ vs H Q E,sp vs H Q E→vs.length=ps.length)
   (hbody:∀ (cdv:Value)(A:Around)(outer:List Env)(s:Shared)(H:Hp)(vs:List V)(Q:VK)(E:XK),d9 k (A.deeper (envOfC qual (af st) s.heap.objs.size f cdv))→sp vs H Q E →
     ∃ t,PSs (cJ (CX1 P w) P w K mg base N qual (af st) f cdv A outer s H E) (aC st) t∧t { nx:=fun _ H'=>Q .non H',rt:=Q } (start N vs) H):au P w K mg base (CX1 P w) (k+1) f fd ps sp:=by
 obtain⟨oc,od,kV,doc,pm,an,cdv,ct,osl,rfl,lk,hcd⟩:=F.ex
 exact uZ lk hcd S len fun A outer s H vs Q E hr hsp=>hbody cdv A outer s H vs Q E hr hsp
end
end L2

set_option Elab.async false
set_option linter.all false
set_option maxRecDepth 100000
set_option maxHeartbeats 4000000
namespace L2
open PySem PySem.Spec PyProof.Rows

theorem uE {K:PySem.W.Frag}{h:Heap}{C:Addr}{bmB:List Value}{newId:String}(X:K.In h)(q:PySem.W.excIn K C bmB newId=true) :
   ∃ bm N nm qn bs hdct sn sub ab col dd k0 k1 k2 k3 k5 mN,h.get? C=some (excClassObj nm qn C N bs bm hdct sn sub ab col dd k0 k1 k2 k3 k5 newId)∧h.Ns N mN∧mN "__init__"=none∧OwnTail h bmB bm:=by
 simp only[PySem.W.excIn] at q
 split at q
 case h_2=>cases q
 case h_1 c0 sl0 lk0 =>
   split at q
   case h_2=>cases q
   case h_1 Cc tl z0 z1 z2 z3 nn z5 hmro hslo =>
     rename_i dd0
     rw[Bool.and_eq_true,Bool.and_eq_true,Bool.and_eq_true,Bool.and_eq_true,Bool.and_eq_true] at q
     obtain⟨⟨⟨⟨⟨q1,q2⟩,q3⟩,q4⟩,q5⟩,q6⟩:=q
     obtain rfl:=beq_iff_eq.mp q1
     obtain rfl:=beq_iff_eq.mp q2
     have q3':c0.hasDel=false:=by simpa using q3
     have q6':=beq_iff_eq.mp q6
     obtain⟨c1,c2,c3,c4,c5,c6,c7,c8,c9,c10,c11⟩:=c0
     dsimp only at hmro q3' q5 q6'
     subst hmro
     subst q3'
     have hsl:sl0=#[z0,z1,z2,z3,some (.builtin nn),z5]:=by
       cases sl0
       simp only at hslo
       rw[hslo]
     subst hsl
     exact⟨tl,_,_,_,_,_,_,_,_,_,_,_,_,_,_,_,_,X _ _ lk0,.of_isNs (PySem.W.isNs_of_in X q5),PySem.W.nsMap_none_of_in X q5 q6',PySem.W.tail_of_in X q4⟩

def sD (C:Addr)(E:XK)(ta:TA):TS:=fun D σ H=>ta σ H fun vs H1=>vs.length≤1000∧E (.ref C) none H1
def wu (X:Cx)(E:XK):Prop:=∀ (pins:List (Addr×Obj)) (σ:St)(H:Hp)(s:Shared)(h1:Heap)(e:Addr) (cls:Value)(args:List Value),Inv X pins σ H s→Heap.MadeExcOf s.heap h1 e cls args→E cls none H→X.xe (.ref e) { s with heap:=h1 }
theorem d5 {P:Program}{w:World}{K:PySem.W.Frag}{mg:Str→Option Value}{base:Heap}{N:List Str}{qual:Str}{scope:Scope}{f:Addr}{cd:Value}{A:Around}{outer:List Env}{s0:Shared}{H0:Hp}{E:XK} :
 wu (cJ (CX1 P w) P w K mg base N qual scope f cd A outer s0 H0 E) E:=fun pins σ H s h1 e cls args I hx q=>vO I hx q
theorem b6 {X:Cx}{x:Str}{C:Addr}{a1:Expr}{ta:TA}{E:XK}{bmB:List Value}{B newId initId:String}{np cpos pos:Pos}(hc:X.calm=true)(hg:Gl X x)(hm:X.mg x=some (.ref C))(he:PySem.W.excIn X.K C bmB newId=true)(FB:ExcBaseFacts B newId initId bmB)
   (ha:PA X [a1] ta)(hR:wu X E)(hs:starEach [a1] X.env=[(false,eval a1 X.env)]:=by rfl)(hd:(x==("__debug__":Str))=false:=by decide) :
   PS X (.Raise (some (.Call (.Name x np) [a1] [] cpos)) none pos) (sD C E ta):=by
 intro pins s σ H D I h
 obtain⟨tl,N,nm,q,bs,hdct,sn,sub,ab,col,dd,k0,k1,k2,k3,k5,mN,hC,hN,hni,T⟩:=uE I.mod.kin he
 refine wpAny_Raise_call_subT (C:=C) (nm:=nm) (q:=q) (N:=N) (bs:=bs) (bm:=tl) (hdct:=hdct) (sn:=sn) (sub:=sub) (ab:=ab) (col:=col) (dd:=dd) (k0:=k0) (k1:=k1) (k2:=k2) (k3:=k3) (k5:=k5) FB (mN:=mN) (T.hasType FB.hasBase) (I.ok.hd hc) (by rw[hs];rfl) hni (jk I hg hm ⟨rfl,?_⟩ hd)
 have h2:=ha cpos s σ H _ I h
 rw[hs] at h2 ⊢
 refine Calls.evalArgs_plain (wpAny_mono h2 (fun us s2 h3=>?_) fun _ _ y=>y)
 obtain⟨vs,H1,I1,rv,hl,q1⟩:=h3
 refine⟨rfl,?_,I1.bk _ _ hC,hN.keeps I1.bk,T.keeps I1.bk,fun h' e hx=>hR pins σ H1 s2 h' e _ _ I1 hx q1⟩
 show us.length≤sizeLine
 rw[←rv.length,sizeLine_eq]
 omega
theorem fV {X:Cx}{x:Str}{j:Nat}{value:Expr}{tv:TE}{p1 p2 pos:Pos}(hv:PE X value tv)(hx:x.length≤1000:=by decide)(hev:evalEach [.Constant (.str x) j p1,.FormattedValue value 114 none p2] X.env=[eval (.Constant (.str x) j p1) X.env,eval (.FormattedValue value 114 none p2) X.env]:=by rfl) :
   PE X (.JoinedStr [.Constant (.str x) j p1,.FormattedValue value 114 none p2] pos) (fun σ H Q=>tv σ H fun v H1=>∃ z:Str,v=.str z∧z.length≤1000∧(∀ c∈z.cps.toList,c < 1114112)∧∀ y,Q (.str y) H1):=by
 intro pins s σ H Q I h
 refine wpAny_JoinedStr ?_
 rw[hev]
 have hS:(1000000:Nat)≤sizeLine:=by rw[sizeLine_eq];decide
 refine Calls.Constant_str ⟨x,_,rfl,?_,?_⟩
 · have:(Str.empty++x).length=x.length:=by rw[PySem.Str.length_append];simp[Str.empty,PySem.Str.length]
   rw[this];omega
 refine wpAny_FormattedValue_repr (thn (hv _ σ H _ (I.tok _) h) fun u s1 h1=>?_)
 obtain⟨v,H1,I1,rv,z,rfl,hz,hzc,q⟩:=h1
 obtain⟨t,rfl⟩:=(show ∃ t,u=Value.str z t from rv)
 have hl:(reprText z).length≤10*z.length+2:=StrLaws.reprText_len z (fun c hc=>Nat.lt_of_lt_of_le (hzc c hc) (by decide))
 have e0:(Str.empty++x).length=x.length:=by rw[PySem.Str.length_append];simp[Str.empty,PySem.Str.length]
 refine pyReprObj_str ?_ (by omega)
 have fin:∀ s2 t2,Inv X pins σ H1 s2→∃ y t,(Value.str (reprText z) t2)=.str y t∧(Str.empty++x++y).length≤sizeLine∧Joins (model X.prog X.w) X.A X.xe [] (Str.empty++x++y) (fun out s₁=>out.length≤sizeLine∧EP X pins σ Q (.str out s₁.toks) { s₁ with toks:=s₁.toks+1 }) s2:=fun s2 t2 I2=>by
   have hlen:(Str.empty++x++reprText z).length≤sizeLine:=by rw[PySem.Str.length_append,e0];omega
   exact⟨_,_,rfl,hlen,hlen,.str (Str.empty++x++reprText z),H1,I2.tok _,⟨_,rfl⟩,q _⟩
 exact wpAny_formatField_str (fin _ _ (I1.tok _)) (fin _ _ ((I1.tok _).tok _)) (by omega)
end L2

set_option Elab.async false
set_option linter.all false
set_option maxRecDepth 100000
set_option maxHeartbeats 4000000
namespace L2
open PySem PySem.Spec PyProof.Rows PySem.W Builtin.Getset_descriptor
section
variable {pg:Program}{wd:World}{Ar:Around}{Er:Value→Shared→Prop}{sh:Shared}{KK:Frag}{e C:Addr}
end
structure eJ (K:Frag)(C:Addr):Prop where
 exc:excIn K C [.type "ValueError",.type "Exception",.type "BaseException",.type "object"] "ValueError.__new__"=true
 ga:findIn K (.ref C) "__getattribute__"=some (some (.builtin "BaseException.__getattribute__"))
 gt:findIn K (.ref C) "__getattr__"=some none
 cl:(clsIn K C).isSome=true
 ha:findIn K (.ref C) "__class__"=some (some (.builtin "object.__class__"))
 hn:specialIn K (.builtin "object.__class__") "__get__"=some (some (.builtin "getset_descriptor.__get__"))
 ht:takesIn K (.builtin "object.__class__")=some true
 hm:mroIn K C (.type "object")=some true
 hb:mroIn K C (.type "BaseException")=some true
end L2

set_option Elab.async false
set_option linter.all false
set_option maxRecDepth 100000
set_option maxHeartbeats 4000000
namespace L2
open PySem PySem.Spec PyProof.Rows PySem.W

section
variable {X:Cx}{pins pins':List (Addr×Obj)}{σ:St}{H H':Hp}{s s':Shared}{W:Value→Shared→Prop}
end
end L2

set_option Elab.async false
set_option linter.all false
set_option maxRecDepth 100000
set_option maxHeartbeats 4000000
namespace L2
open PySem PySem.Spec PyProof.Rows PySem.W

end L2

set_option Elab.async false
set_option linter.all false
set_option maxRecDepth 100000
set_option maxHeartbeats 4000000
namespace L2
open PySem PySem.Spec PyProof.Rows

/-! ### [elt for tg in iter if cnd] -/
theorem mM {prog:Program}{w:World}{A:Around}{R:Result→Shared→Prop}{s:Shared}{elt target iter cnd:Expr}{scope:Scope}{pos:Pos}{it acc:Value}{env:Env}(I:Nat→Shared→Prop)
   (turn:∀ n s,I n s→∀ E:Value→Shared→Prop,wpAny (model prog w) A (pyNext it) (fun r s₁=>match r with
     | none=>R (.ok .next) s₁
     | some v=>wpAny (model prog w) A (letOwnedTupleGo target it v) (fun _ s₁'=>wpAny (model prog w) A (assign target env v) (fun _ s₂=>wpAny (model prog w) A (isTrue cnd env (eval cnd env)) (fun ok s₂' =>
       if ok=true then wpAny (model prog w) A (eval elt env) (fun x s₃=>wpAny (model prog w) A (call (.builtin "list.append") [acc,x]) (fun _ s₄=>∃ m,m < n∧I m s₄) E s₃) E s₂' else ∃ m,m < n∧I m s₂') E s₂) E s₁') E s₁) E s)
   (n:Nat)(h:I n s) :
   codeAny (model prog w) A (.compLoop (.ListComp elt [⟨target,iter,[cnd],0⟩] scope pos) 0 it acc env) R s:=by
 refine codeAny_loop rfl I (fun n s hI=>?_) n h
 show wpAny _ _ ((compTurn (.ListComp elt [⟨target,iter,[cnd],0⟩] scope pos) 0 it acc env).onRaise _) _ _ s
 refine wpAny_noted ?_
 rw[compTurn_list]
 refine wpAny_bind (wpAny_standAt (wpAny_bind (wpAny_mono (turn n s hI _) (fun r s₁ h₁=>?_) fun _ _ h'=>h')))
 cases r with
 | none=>exact wpAny_pure h₁
 | some v =>
   refine wpAny_bind (wpAny_mono h₁ (fun _ s₁' h₁=>?_) fun _ _ h'=>h')
   refine wpAny_bind (wpAny_mono h₁ (fun _ s₂ h₂=>?_) fun _ _ h'=>h')
   refine wpAny_bind (wpAny_tests_one (wpAny_mono h₂ (fun ok s₃ h₃=>?_) fun _ _ h'=>h'))
   cases ok with
   | false=>exact wpAny_pure ⟨rfl,h₃⟩
   | true =>
     rw[if_pos rfl] at h₃ ⊢
     exact wpAny_bind (wpAny_bind (wpAny_mono h₃ (fun x s₄ h₄=>wpAny_bind (wpAny_mono h₄ (fun _ s₅ h₅=>wpAny_pure (wpAny_pure ⟨rfl,h₅⟩)) fun _ _ h'=>h')) fun _ _ h'=>h'))
def mj (J:It)(g:TG)(tc:TT)(te:TE)(D:Addr)(Q:Hp→Prop) (σ:St)(H:Hp):Prop :=
 ∃ W:Nat→Nat→St→Hp→Prop,(∃ m,W 0 m σ H)∧∀ i m σ' H',W i m σ' H' →
   (J.stop i H'∧Q H')∨(J.go i H'∧∃ N:St→Hp→Prop,(∀ σ'' H'',N σ'' H''→∃ m',m' < m∧W (i+1) m' σ'' H'') ∧
     ∀ x H2,J.yld i H' x H2→g x σ' H2 fun σ2 H3=>tc σ2 H3 fun b H3'=>if b=true then te σ2 H3' fun v H4=>∃ xs,H4 D=some (.lst xs)∧xs.length < sizeLine∧N σ2 (upd H4 D (.lst (xs++[v]))) else N σ2 H3')
section
variable {X:Cx}{pins:List (Addr×Obj)}{σ:St}{H:Hp}{s:Shared}{scope:Scope}{N':List Str}{pk:List (Option Nat)}{fp:List Addr}
theorem rf {elt tg iter cnd:Expr}{g:TG}{tc:TT}{te:TE}{J:It}{it:Addr}{tn:Nat→Heap→Prop}{pos:Pos}{QD:Addr→Hp→Prop}{E:Value→Shared→Prop}{RR:Value→Addr→Result→Shared→Prop}
   (I:Inv X pins σ H s)(B:cV X.N X.env scope N' pk)(hc:X.calm=true)(T:my X.prog X.w X.K tg J fp it tn)(st:tn 0 s.heap)(hf:∀ b∈fp,fJ X pins H b)
   (hg:∀ s H ex,PG (cxB X N' scope s H ex) tg g)(ht:∀ s H ex,PT (cxB X N' scope s H ex) cnd tc)(he:∀ s H ex,PE (cxB X N' scope s H ex) elt te)
   (hW:∀ D,H D=none→mj J g tc te D (QD D) (gQ pk σ) (upd H D (.lst [])))
   (fin:∀ D C s' H' m,Inv X pins σ H' s'→fJ X pins H' C→s'.heap.Ns C m→QD D H'→RR (.ref D) C (.ok .next) s') :
   wpAny (model X.prog X.w) X.A (newList []) (fun acc s₃=>wpAny (model X.prog X.w) X.A (newFunctionEnv scope X.env.globals (i9 scope X.env) [] X.env.qual none .none (some X.env)) (fun cenv s₄ =>
     codeAny (model X.prog X.w) X.A (.compStart (.ListComp elt [⟨tg,iter,[cnd],0⟩] scope pos) 0 (.ref it) acc { cenv with scope:=relabel scope X.env }) (RR acc cenv.locals) s₄) E s₃) E s:=by
 have hD0:H s.heap.objs.size=none:=I.hok.fresh (Nat.le_refl _)
 refine wpAny_newObj_type (wpAny_newFunctionEnv B.nocell (by intro y hy;simp at hy) (fun h₁ hns₁ hsb₁=>?_) B.kind)
 dsimp only at hns₁ hsb₁ ⊢
 have I3:Inv X pins σ (upd H s.heap.objs.size (.lst [])) { s with heap:=s.heap.push { cls:=.type "list",dict:=none,data:=.seq ([]:List Value).toArray } }:=I.lnew (t':=s.toks) .nil (Nat.zero_le _)
 obtain⟨W,⟨m0,w0⟩,turn⟩:=hW _ hD0
 generalize hs3:({ s with heap:=s.heap.push { cls:=.type "list",dict:=none,data:=.seq ([]:List Value).toArray } }:Shared)=s3 at I3
 have eh:s.heap.push { cls:=.type "list",dict:=none,data:=.seq ([]:List Value).toArray }=s3.heap:=by rw[←hs3]
 have hold:∀ b o,s.heap.get? b=some o→s3.heap.get? b=some o:=fun b o e=>by rw[←eh];exact Heap.get?_push_of_some _ e
 rw[eh] at hns₁ hsb₁
 have hs:∀ b o,s3.heap.get? b=some o→h₁.get? b=some o:=fun b o e=>hsb₁.extBut b o (Nat.ne_of_lt (Heap.lt_size e)) (Heap.get?_push_of_some _ e)
 have hf3:∀ b∈fp,fJ X pins (upd H s.heap.objs.size (.lst [])) b:=fun b hb=>by
   refine⟨?_,(hf b hb).2⟩
   obtain⟨o,e,_⟩:=T.obj 0 _ st b hb
   rw[ag (Nat.ne_of_lt (Heap.lt_size e))]
   exact(hf b hb).1
 have ho3:∀ b∈fp,∃ o,s3.heap.get? b=some o:=fun b hb=>by
   obtain⟨o,e,_⟩:=T.obj 0 _ st b hb
   exact⟨o,hold _ _ e⟩
 have st1:tn 0 h₁:=T.keep 0 _ _ st fun b hb o e=>hs b o (hold b o e)
 have esh:∀ t,({ s with heap:=h₁,toks:=t }:Shared)={ s3 with heap:=h₁,toks:=t }:=fun t=>by rw[←hs3]
 have loop:∀ t,codeAny (model X.prog X.w) X.A (.compLoop (.ListComp elt [⟨tg,iter,[cnd],0⟩] scope pos) 0 (.ref it) (.ref s.heap.objs.size) (compEnvC scope (i9 scope X.env) s3.heap.objs.size X.env))
     (RR (.ref s.heap.objs.size) s3.heap.objs.size) { s with heap:=h₁,toks:=t }:=fun t=>by
   rw[esh t]
   have IB:Inv (cxB X N' scope s3 (upd H s.heap.objs.size (.lst [])) fp) [] (gQ pk σ) (upd H s.heap.objs.size (.lst [])) { s3 with heap:=h₁,toks:=t }:=pZ I3 B hf3 ho3 hns₁ hs
   have f2:∀ b∈fp,fJ (cxB X N' scope s3 (upd H s.heap.objs.size (.lst [])) fp) [] (upd H s.heap.objs.size (.lst [])) b:=fun b hb =>
     ⟨(hf3 b hb).1,(IB.ok.exf b hb).1,IB.ok.exfs b hb,.inl hb,(IB.ok.exf b hb).2,fun p hp=>absurd (show p∈([]:List (Addr×Obj)) from hp) (by simp)⟩
   have stat:∀ {H':Hp},(∀ b∈fp,H' b=none)→∀ b∈fp,fJ (cxB X N' scope s3 (upd H s.heap.objs.size (.lst [])) fp) [] H' b:=fun hn b hb=>⟨hn b hb,(f2 b hb).2⟩
   refine mM (fun n s'=>∃ i σ' H',Inv (cxB X N' scope s3 (upd H s.heap.objs.size (.lst [])) fp) [] σ' H' s'∧tn i s'.heap∧(∀ b∈fp,H' b=none)∧W i n σ' H') ?_ m0 ⟨0,_,_,IB,st1,fun b hb=>(f2 b hb).1,w0⟩
   rintro n s4 ⟨i,σ4,H4,I4,st4,fr4,w4⟩ E'
   rcases turn i n σ4 H4 w4 with ⟨stop,qn⟩ | ⟨go,N,hN,step⟩
   · refine thn (T.done (cxB X N' scope s3 (upd H s.heap.objs.size (.lst [])) fp) rfl rfl rfl hc i [] s4 σ4 H4 E' I4 (stat fr4) st4 stop) fun r s5 ⟨hr,I5⟩=>?_
     subst hr
     obtain⟨m5,hn5,_⟩:=I5.loc
     have IX:Inv X pins σ H4 s5:=I3.call' (ch:=fp) I5.os I5.base I5.hok I5.bare fun b hb=>⟨(hf3 b hb).2.2.2.1,(hf3 b hb).2.1,(hf3 b hb).2.2.2.2.1,(hf3 b hb).2.2.2.2.2⟩
     exact fin _ _ s5 H4 m5 IX (I3.fpOk (Nat.le_refl _) I5.free) hn5 qn
   · refine thn (T.item (cxB X N' scope s3 (upd H s.heap.objs.size (.lst [])) fp) rfl rfl rfl hc i [] s4 σ4 H4 E' I4 (stat fr4) st4 go) fun r s5 ⟨u,hr,h5⟩=>?_
     subst hr
     refine thn h5 fun _ s6 ⟨x,H6,I6,r6,y6,st6,fr6⟩=>?_
     have I6':=I6.pinned (stat fr6) (T.obj _ _ st6)
     refine wpAny_mono (hg _ _ _ s6 σ4 H6 x u _ I6' r6 (step x H6 y6)) (fun _ s7 ⟨σ7,H7,I7,q7⟩=>?_) fun _ _ z=>False.elim z
     refine wpAny_mono (ht _ _ _ s7 σ7 H7 _ I7 q7) (fun bb s7' ⟨H7',I7',q7'⟩=>?_) fun _ _ z=>False.elim z
     have back:∀ H9 s9,Inv (cxB X N' scope s3 (upd H s.heap.objs.size (.lst [])) fp) ([]++jX fp s6.heap) σ7 H9 s9→N σ7 H9→∃ m,m < n∧∃ i σ' H',Inv (cxB X N' scope s3 (upd H s.heap.objs.size (.lst [])) fp) [] σ' H' s9∧tn i s9.heap∧(∀ b∈fp,H' b=none)∧W i m σ' H':=fun H9 s9 I9 n9=>by
       obtain⟨m',hm,w9⟩:=hN σ7 H9 n9
       refine⟨m',hm,i+1,σ7,H9,I9.unpinned,T.keep _ _ _ st6 fun b hb o e=>(I9.pin (b,o) (List.mem_append_right _ (List.mem_append_right _ (dR hb e)))).1,fun b hb=>?_,w9⟩
       obtain⟨o,e,d⟩:=T.obj _ _ st6 b hb
       exact(I9.pin (b,o) (List.mem_append_right _ (List.mem_append_right _ (dR hb e)))).2.1
     cases bb with
     | false=>exact back H7' s7' I7' q7'
     | true =>
       refine wpAny_mono (he _ _ _ s7' σ7 H7' _ I7' q7') (fun w s8 ⟨v,H8,I8,r8,xs,hx8,hl8,n8⟩=>?_) fun _ _ z=>False.elim z
       refine wpAny_mono (cr (X:=cxB X N' scope s3 (upd H s.heap.objs.size (.lst [])) fp) _ s8 σ7 H8 (.ref s.heap.objs.size) [v] (.ref s.heap.objs.size) [w] (fun _ H9=>N σ7 H9) I8 rfl (.cons r8 .nil) ⟨_,xs,v,rfl,rfl,hx8,hl8,n8⟩) (fun _ s9 ⟨_,H9,I9,_,n9⟩=>?_) fun _ _ z=>False.elim z
       exact back H9 s9 I9 n9
 rw[←eh] at loop
 exact codeAny_compStart_list (loop _) (T.self _ _ _ _ _ st1 (loop _))

def sZ (pk:List (Option Nat))(wi:TI)(g:TG)(tc:TT)(te:TE):TE:=fun σ H Q=>wi σ H fun J H1=>∀ D,H1 D=none→mj J g tc te D (fun H'=>Q (.ref D) H') (gQ pk σ) (upd H1 D (.lst []))
theorem jA {elt tg iter cnd:Expr}{wi:TI}{g:TG}{tc:TT}{te:TE}{pos:Pos}(hc:X.calm=true)(B:cV X.N X.env scope N' pk)(hi:PI X tg iter wi)
   (hg:∀ s H ex,PG (cxB X N' scope s H ex) tg g)(ht:∀ s H ex,PT (cxB X N' scope s H ex) cnd tc)(he:∀ s H ex,PE (cxB X N' scope s H ex) elt te)(hs:∀ x,foldedSetIterable iter X.env x=pure x:=by intro _;rfl) :
   PE X (.ListComp elt [⟨tg,iter,[cnd],0⟩] scope pos) (sZ pk wi g tc te):=by
 intro pins s σ H Q I h
 rw[eval_ListComp]
 have hclos:=g4 (jf I B)
 refine wpAny_comprehension_free (use:=none) rfl hs hclos B.kind B.names (thn (hi s σ H _ I h) fun v s1 h1=>thn h1 fun itv s2 h2=>?_)
 obtain⟨it,fp,tn,J,H2,e,I2,T,st2,f2,hW⟩:=h2
 subst e
 refine rf (QD:=fun D H'=>Q (.ref D) H') (RR:=fun acc C=>compPost (model X.prog X.w) X.A X.xe none (EP X pins σ Q) acc C) I2 B hc T st2 f2 hg ht he hW fun D C s' H' m I' f' hn q=>?_
 exact⟨m,hn,fun h' hs'=>⟨.ref D,H',I'.gone f' hs',rfl,q⟩⟩
end
end L2

set_option Elab.async false
set_option linter.all false
set_option maxRecDepth 100000
set_option maxHeartbeats 4000000
namespace L2
open PySem PySem.Spec PyProof.Rows
end L2

set_option Elab.async false
set_option linter.all false
set_option maxRecDepth 100000
set_option maxHeartbeats 8000000
namespace L2
open PySem
section
variable {X:Cx}
end
end L2

set_option Elab.async false
set_option linter.all false
set_option maxRecDepth 100000
set_option maxHeartbeats 8000000
namespace L2
open PySem PySem.Spec PyProof.Rows PySem.W
end L2

set_option Elab.async false
set_option linter.all false
set_option maxRecDepth 100000
set_option maxHeartbeats 8000000
namespace L2
open PySem PySem.Spec PyProof.Rows
def wZ (cs:List Int):TA:=fun _ H Q=>Q (cs.map V.int) H
def wn (cs:List Str):TA:=fun _ H Q=>Q (cs.map V.str) H
abbrev tQ (K:PySem.W.Frag):List V→Hp→VK→Prop:=fun xs H Q=>∃ p ys,xs=[.ref p]∧(SqL K H p ys∨SqT K H p ys)∧∀ l,H l=none→Q (.ref l) (upd H l (.lst ys))
theorem il {P:Program}{w:World}{X:Cx}:fX (CX1 P w) X (fun _ _ _=>False):=fun _ _ _ _ _ _ _ ⟨_,_,_,_,_,_,_,_,_,_,_,_,_,h⟩=>h.elim
theorem bg {t u:TS}{D:jy}{σ:St}{H:Hp}(Pv:St→Hp→Prop)(h:∀ R:St→Hp→Prop,(∀ σ' H',Pv σ' H'→R σ' H')→t { D with nx:=R } σ H)(k:∀ σ' H',Pv σ' H'→u D σ' H'):vA t u D σ H:=⟨Pv,h Pv (fun _ _ x=>x),k⟩
end L2

set_option Elab.async false
set_option linter.all false
set_option maxRecDepth 100000
set_option maxHeartbeats 8000000
namespace L2
open PySem PySem.Spec PyProof.Rows
theorem mm {ns:List Int}:∀ {us:List Value},Vals (ns.map V.int) us→IntsAre us ns:=by
 induction ns with
 | nil=>intro us r;rw[List.map_nil] at r;cases r;exact .nil
 | cons n ns ih =>
   intro us r
   rw[List.map_cons] at r
   cases r with
   | cons r1 r2 =>
     obtain⟨t,e⟩:=r1
     cases e
     exact .cons n t (ih r2)
section
variable {X:Cx}
theorem qP (hc:X.calm=true):cX X (.builtin "max") (fun xs H Q=>∃ (a:Addr)(ns:List Int),xs=[.ref a]∧SqL X.K H a (ns.map V.int)∧0 < ns.length∧∀ M,M∈ns→(∀ a∈ns,a≤M)→Q (.int M) H):=by
 intro pins s σ H xs us Q I r h
 obtain⟨a,ns,rfl,ha,hne,q⟩:=h
 obtain⟨u,rfl,ru⟩:=ef r
 cases ru
 obtain⟨its,rv,pl,_⟩:=I.list ha
 have hl:=pl.isList
 have hi:=mm rv
 obtain⟨xs,e⟩:=hi.allInts.items
 have hns:ns=xs.toList.map (·.1):=by
   rw[←hi.numsOf,←nums_intItems,←e]
 have hsz:0 < xs.size:=by
   have h3:=hne;rw[hns,List.length_map,Array.length_toList] at h3;exact h3
 rw[e] at hl
 refine max_intList (I.ok.hd hc) hl hsz fun v h' tk hv hk=>?_
 obtain⟨t,rfl⟩:=intItems_at hv
 obtain⟨h1,h2⟩:=argBest_gt (numAt xs) (xs.size - 1)
 refine⟨.int _,H,I.kept hk,⟨t,rfl⟩,q _ ?_ fun a ha=>?_⟩
 · rw[hns,numAt_eq];exact getD_mem (by rw[List.length_map,Array.length_toList];omega)
 · rw[hns] at ha
   obtain⟨j,hj,rfl⟩:=mem_getD ha
   rw[List.length_map,Array.length_toList] at hj
   rw[←numAt_eq];exact h2 j (by omega)
end
theorem bf {J:It}{H0:Hp}{n:Nat}{vs:Nat→V→Prop}{g:TG}{tb:TS}{D:jy}{σ:St}{H:Hp}(S:d8 J H0 n vs)(Pv:Nat→St→Hp→Prop)(h0:Pv 0 σ H)(hsame:∀ i σ H,i≤n→Pv i σ H→ae H0 H)
   (hs:∀ i x σ H,i < n→vs i x→Pv i σ H→∀ R:St→Hp→Prop,(∀ σ' H',Pv (i+1) σ' H'→R σ' H')→g x σ H fun σ2 H2=>tb { D with nx:=R,ct:=R,bk:=D.nx } σ2 H2)(hd:∀ σ H,Pv n σ H→D.nx σ H):lU J g tb D σ H :=
 bE S Pv h0 hsame (fun i x σ H hi hx p=>hs i x σ H hi hx p _ fun _ _ z=>z) hd
section
variable {X:Cx}
theorem Inv.thaw {pins:List (Addr×Obj)}{σ:St}{H:Hp}{s:Shared}{d:Addr}{o:Obj}{kvs:List (Key×V)}(I:Inv X pins σ H s)(h:H d=some (.frz o (.dK kvs)))(h0:∀ o u,X.H₀ d≠some (.frz o u)):Inv X pins σ (upd H d (.dK kvs)) s:=by
 have ne:∀ b,H b=none→b≠d:=fun b e z=>by rw[z,h] at e;cases e
 refine⟨I.ok,I.os,I.bare,⟨I.base.keep,I.base.slot,fun b ob e n hx=>?_,I.base.there,fun b xs e=>?_,fun b ob u e=>?_,fun b ps e=>?_⟩,I.loc,I.cell,?_,fun x c e=>?_,fun p hp=>?_,fun a u e=>?_,I.len⟩
 · have:=I.base.free b ob e n hx
   rw[ag (ne b this)];exact this
 · have:=I.base.tups b xs e
   have hb:b≠d:=fun z=>by rw[z,h] at this;cases this
   rw[ag hb];exact this
 · have:=I.base.frzs b ob u e
   have hb:b≠d:=fun z=>by rw[z] at e;exact h0 _ _ e
   rw[ag hb];exact this
 · obtain⟨more,this⟩:=I.base.tbls b ps e
   have hb:b≠d:=fun z=>by rw[z,h] at this;cases this
   exact⟨more,by rw[ag hb];exact this⟩
 · rw[ag (ne _ I.free)];exact I.free
 · rw[ag (ne _ (I.freeC x c e))];exact I.freeC x c e
 · obtain⟨e1,n,r⟩:=I.pin p hp
   exact⟨e1,by rw[ag (ne _ n)];exact n,r⟩
 · have ho:∀ b y,H b=some (.own y)→upd H d (.dK kvs) b=some (.own y):=fun b y q=>by
     have hb:b≠d:=fun z=>by rw[z,h] at q;cases q
     rw[ag hb];exact q
   have ht:∀ b xs,H b=some (.tup xs)→upd H d (.dK kvs) b=some (.tup xs):=fun b xs q=>by
     have hb:b≠d:=fun z=>by rw[z,h] at q;cases q
     rw[ag hb];exact q
   by_cases ha:a=d
   · subst ha
     rw[ad] at e
     cases e
     have:=I.hok a _ h
     exact cg.stay this.2 (fun _ _ _ q=>q) (fun b q=>ho b _ q) ht
   · rw[ag ha] at e
     exact cg.stay (I.hok a _ e) (fun _ _ _ q=>q) (fun b q=>ho b _ q) ht
def u4 (H0:Hp)(te:TE):TE:=fun σ H Q=>te σ H fun v H'=>Q v H'∨∃ d o kvs,H' d=some (.frz o (.dK kvs))∧(∀ o u,H0 d≠some (.frz o u))∧Q v (upd H' d (.dK kvs))
theorem uH {e:Expr}{te:TE}(h:PE X e te):PE X e (u4 X.H₀ te):=by
 intro pins s σ H Q I q
 refine thn (h s σ H _ I q) fun v s1 ⟨x,H1,I1,r1,q1⟩=>?_
 rcases q1 with q1 | ⟨d,o,kvs,hd,h0,q1⟩
 · exact⟨x,H1,I1,r1,q1⟩
 · exact⟨x,_,I1.thaw hd h0,r1,q1⟩
end
theorem uJ {CX:CXT}{P:Program}{w:World}{K:PySem.W.Frag}{mg:Str→Option Value}{base:Heap}{N:List Str}{qual:Str}{scope:Scope}{f:Addr}{cd:Value}{A:Around}{outer:List Env}{s:Shared}{H:Hp}{E:XK}:(cJ CX P w K mg base N qual scope f cd A outer s H E).H₀=H:=rfl
theorem wf {X:Cx}:X.nox.H₀=X.H₀:=rfl
end L2

set_option Elab.async false
set_option linter.all false
set_option maxRecDepth 100000
set_option maxHeartbeats 8000000
namespace L2
open PySem PySem.Spec PyProof.Rows
section
variable {X:Cx}
def xm (xs ys:List V):Bool:=decide (xs.length=ys.length)&&(xs.zip ys).all fun p=>eqV p.1 p.2
def w8 (K:PySem.W.Frag)(neg:Bool):R2:=fun x y H Q=>∃ a b xs ys,x=.ref a∧y=.ref b∧SqL K H a xs∧SqL K H b ys∧((xs.all gv=true∧ys.all gv=true)∨xs.length≠ys.length∨xs=[])∧Q (.bl (neg^^xm xs ys)) H
end
end L2

set_option Elab.async false
set_option linter.all false
set_option maxRecDepth 100000
set_option maxHeartbeats 8000000
namespace L2
open PySem PySem.Spec PyProof.Rows
theorem lQ:typeLookup (.type "list") "keys"=pure none:=by rw[typeLookup_type,builtinLookup_eq_fast];kernel_rfl
theorem jc:typeLookup (.type "list") "__getattr__"=pure none:=by rw[typeLookup_type,builtinLookup_eq_fast];kernel_rfl
theorem ny:entryFor table "list.__getattribute__"=some Builtin.«object.__getattribute__»:=entryFor_alias (id':="object.__getattribute__") (by kernel_rfl) (by decide +kernel) (by decide +kernel) (by kernel_rfl)
section
variable {prog:Program}{w:World}{A:Around}{E:Value→Shared→Prop}{s:Shared}
theorem mF {l:Addr}{o:Obj}{xs:Array Value}{k:Nat}{Q:Option Value→Shared→Prop}(hh:A.handled=none)(hl:s.heap.get? l=some o)(hc:o.cls=.type "list")(hd:o.dict=none)(hdat:o.data=.seq xs k)
   (h:∀ h' tk,(∀ b o,s.heap.get? b=some o→h'.get? b=some o)→Q none { s with heap:=h',toks:=tk }):wpAny (model prog w) A (getAttr? (.ref l) "keys") Q E s:=by
 obtain⟨c,dct,dat,sl⟩:=o
 simp only at hc hd hdat
 subst hc hd hdat
 have f1:=sub_AttributeError
 have f3:=F.slot_list_getattribute.lookup
 have f4:=F.slot_list_getattribute.bind (.ref l)
 have f5:=jc
 have f6:=lQ
 obtain⟨hp,g,d,tk,os⟩:=s
 have hT:Shared.TypeIs ⟨hp,g,d,tk,os⟩ (.ref l) "list":=⟨_,hl,rfl⟩
 unfold getAttr? getAttrBy? getAttrBy
 repeat (any_goals (first | assumption | wp_step))
 refine codeAny_call_builtin F.slot_list_getattribute.plain ny (F.slot_list_getattribute.check _ _ _ _ _ _ _ _ ⟨_,hl,rfl⟩ (F.args_list_getattribute_2 _ _) ?_)
 unfold Builtin.«object.__getattribute__»
 repeat (any_goals (first | assumption | wp_step))
 refine wpAny_raiseAttrError (by simpa using hh) (fun h' tk' e hx=>?_) (attrMsg_fits (by decide +kernel) (by rw[sizeLine_eq];decide +kernel))
 obtain⟨t',u',he⟩:=hx.there
 show wpAny _ _ (getattributeRaised _ _ _ _ _ _ _) _ _ _
 unfold getattributeRaised
 repeat (any_goals (first | assumption | wp_step))
 exact h h' tk' hx.keeps
theorem nC {T:Addr}{x y:Value}{Q:List Value→Shared→Prop}(hT:IsTup s.heap T #[x,y])(h:Q [x,y] s):wpAny (model prog w) A (Builtin.Dict.pairItems (.ref T)) Q E s:=by
 obtain⟨o,ho,hc,n,hd⟩:=hT
 unfold Builtin.Dict.pairItems
 refine wpAny_bind (wpAny_typeOf (T:="tuple") ⟨_,ho,hc⟩ ?_)
 rw[if_pos (by decide)]
 exact wpAny_bind (wpAny_seqItems ho hd (wpAny_pure h))
end
section
variable {prog:Program}{w:World}{κ:Type} [DecidableEq κ]{knd:KeyKind prog w κ}
def pK (knd:KeyKind prog w κ)(h:Heap)(xs:Array Value)(ks:List κ)(ys:List Value):Prop :=
 ∀ (i:Nat) x,xs[i]?=some x→∃ T k kv y,x=.ref T∧ks[i]?=some k∧ys[i]?=some y∧knd.is k kv=true∧IsTup h T #[kv,y]
theorem uc {A:Around}{R:Result→Shared→Prop}{d it l:Addr}{xs:Array Value}{ks:List κ}{ys:List Value}(hh:A.in1.handled=none)(hdi:d≠it)(hdl:d≠l)(hil:it≠l)(hkl:ks.length=xs.size)(hyl:ys.length=xs.size)(hsz:xs.size≤1000) :
   ∀ (n i:Nat)(s:Shared),xs.size - i=n→i≤xs.size→s.heap.IsListIter it l i→s.heap.IsList l xs→pK knd s.heap xs ks ys →
     (∃ kvs,kvs.length≤i∧s.heap.DictOf knd d kvs∧kvs=merged [] ((ks.zip ys).take i)) →
     (∀ h' tk,(∀ c o,c≠d→c≠it→s.heap.get? c=some o→h'.get? c=some o)→h'.DictOf knd d (merged [] (ks.zip ys))→R (.ok (.ret .none)) { s with heap:=h',toks:=tk }) →
     codeAny (model prog w) A (.builtin "dict.update.loop" ⟨[.ref d,.ref it,rawInt i,.none],[]⟩) R s:=by
 intro n
 induction n with
 | zero =>
   intro i s hn hi h1 hl hP hD hR
   have e:i=xs.size:=by omega
   refine codeAny_builtin dZ ?_
   rw[Around.under_plainId cf _]
   show wpAny _ A.in1 (pyNext (.ref it) >>= _) _ _ s
   refine wpAny_bind (wpAny_pyNext_list_end hh h1 hl (by rw[e];simp) fun h' kk=>?_)
   obtain⟨kvs,hkl',hdd,rfl⟩:=hD
   have et:(ks.zip ys).take i=ks.zip ys:=List.take_of_length_le (by rw[List.length_zip,hkl,e];exact Nat.min_le_left _ _)
   rw[et] at hdd
   refine wpAny_bind (wpAny_pure (wpAny_pure (hR h' s.toks (fun c o _ c1 e=>kk c o c1 e) ?_)))
   obtain⟨o,es,ep,ho,cY⟩:=hdd
   exact⟨o,es,ep,kk _ _ hdi ho,cY⟩
 | succ n ih =>
   intro i s hn hi h1 hl hP hD hR
   have hlt:i < xs.size:=by omega
   obtain⟨T,k,kv,y,hxT,hk,hy,hkis,hT⟩:=hP i _ (Array.getElem?_eq_getElem hlt)
   refine codeAny_builtin dZ ?_
   rw[Around.under_plainId cf _]
   show wpAny _ A.in1 (pyNext (.ref it) >>= _) _ _ s
   refine wpAny_bind (wpAny_pyNext_list_item h1 hl (Array.getElem?_eq_getElem hlt) fun h' a3 sbi=>?_)
   rw[hxT]
   obtain⟨kvs,hkl',hdd,ekv⟩:=hD
   have ui:∀ b o,b≠it→s.heap.get? b=some o→h'.get? b=some o:=fun b o hb e=>sbi.extBut _ _ hb e
   have ne:∀ {T:Addr}{ts:Array Value},IsTup s.heap T ts→T≠it∧T≠d:=fun {T ts} ht=>by
     obtain⟨o,ho,hc,_⟩:=ht
     constructor
     · rintro rfl
       obtain⟨o2,ho2,hc2,_⟩:=h1
       rw[ho] at ho2;cases ho2
       rw[hc] at hc2;exact absurd hc2 (by decide +kernel)
     · rintro rfl
       obtain⟨o2,ho2,hc2⟩:=hdd.typeIs
       rw[ho] at ho2;cases ho2
       rw[hc] at hc2;exact absurd hc2 (by decide +kernel)
   have hT':IsTup h' T #[kv,y]:=by
     obtain⟨o,ho,r⟩:=hT
     exact⟨o,ui _ _ (ne ⟨o,ho,r⟩).1 ho,r⟩
   have hdd':h'.DictOf knd d kvs:=by
     obtain⟨o,es,ep,ho,cY⟩:=hdd
     exact⟨o,es,ep,ui _ _ hdi ho,cY⟩
   refine wpAny_bind (wpAny_holding (wpAny_bind (wpAny_tryCatch (nC hT' ?_))))
   refine wpAny_holding (wpAny_dictSet_pairs hkis hdd' (fun h2' hdd2 sb=>?_) (by rw[sizeLine_eq];omega))
   have up:∀ b o,b≠d→h'.get? b=some o→h2'.get? b=some o:=fun b o hb e=>sb.extBut _ _ hb e
   have es:(ks.zip ys).take (i+1)=(ks.zip ys).take i++[(k,y)]:=by
     have hzi:(ks.zip ys)[i]?=some (k,y):=List.getElem?_zip_eq_some.mpr ⟨hk,hy⟩
     rw[List.take_succ,hzi]
     rfl
   have hst:(stored kvs k y).length≤kvs.length+1:=by
     unfold stored
     split
     · rw[List.length_map];omega
     · rw[List.length_append];simp
   refine wpAny_pure ⟨plainId_quiet cf _,?_⟩
   have ei:(i:Int)+1=((i+1:Nat):Int):=by omega
   show codeAny (model prog w) A (.builtin "dict.update.loop" ⟨[.ref d,.ref it,rawInt ((i:Int)+1),.none],[]⟩) R _
   rw[ei]
   refine ih (i+1) _ (by omega) hlt (a3.at fun o e=>up _ o (Ne.symm hdi) e) (hl.at fun o e=>up _ o (Ne.symm hdl) (ui _ o (Ne.symm hil) e)) (fun j x hx=>?_) ⟨_,by omega,hdd2,?_⟩ fun h3 tk kk hd3=>?_
   · obtain⟨T2,k2,kv2,y2,q1,q2,q3,q4,o,ho,r⟩:=hP j x hx
     obtain⟨n1,n2⟩:=ne ⟨o,ho,r⟩
     exact⟨T2,k2,kv2,y2,q1,q2,q3,q4,o,up _ _ n2 (ui _ _ n1 ho),r⟩
   · rw[es,ekv]
     unfold merged
     rw[List.foldl_append]
     rfl
   · exact hR h3 tk (fun c o c0 c1 e=>kk c o c0 c1 (up _ _ c0 (ui c o c1 e))) hd3
theorem qx {A:Around}{E:Value→Shared→Prop}{s:Shared}{Q:Value→Shared→Prop}{l:Addr}{xs:Array Value}{ks:List κ}{ys:List Value}(hh:A.handled=none)(hPl:PlainL s.heap l xs)
   (hP:pK knd s.heap xs ks ys)(hkl:ks.length=xs.size)(hyl:ys.length=xs.size)(hsz:xs.size≤1000)
   (h:∀ h' tk,(∀ c o,s.heap.get? c=some o→h'.get? c=some o)→h'.DictOf knd s.heap.objs.size (merged [] (ks.zip ys))→Q (.ref s.heap.objs.size) { s with heap:=h',toks:=tk }) :
   wpAny (model prog w) A (call (.type "dict") [.ref l]) Q E s:=by
 obtain⟨ol,m,hl,hlc,hld,hldat⟩:=hPl
 refine callType_codes (Q₁:=fun obj s₁=>obj=.ref s.heap.objs.size∧s₁={ s with heap:=s.heap.push { cls:=.type "dict",data:=.dict #[] } }) F.kt_called_dict (F.kt_typeCall_dict_1 _) F.entry_dict_init (kt_code_dict_new _ ⟨rfl,rfl⟩) ?_
 rintro obj s1 ⟨rfl,rfl⟩
 have hnew:(s.heap.push { cls:=.type "dict",data:=.dict #[] }).DictOf knd s.heap.objs.size []:=Heap.DictOf.new s.heap
 have up:∀ b o,s.heap.get? b=some o→(s.heap.push { cls:=.type "dict",data:=.dict #[] }).get? b=some o:=fun b o e=>Heap.get?_push_of_some _ e
 have lt:∀ {b o},s.heap.get? b=some o→s.heap.objs.size≠b:=fun e=>Nat.ne_of_gt (Heap.lt_size e)
 refine⟨hnew.typeIs,F.args_dict_init_2 _ _,?_⟩
 unfold Builtin.«dict.__init__»
 refine wpAny_bind ?_
 unfold Builtin.Dict.selfAndRest
 refine wpAny_bind (wpAny_notOrdered_dict hnew.typeIs (show wpAny _ _ (pure (s.heap.objs.size,[Value.ref l])) _ _ _ from wpAny_pure ?_))
 show wpAny _ _ (Builtin.Dict.updateFrom "dict.__init__" s.heap.objs.size (.ref l) [] .none) _ _ _
 unfold Builtin.Dict.updateFrom
 refine wpAny_bind (wpAny_typeOf (T:="list") ⟨_,up _ _ hl,hlc⟩ ?_)
 rw[if_pos (by decide)]
 refine wpAny_bind (mF (by simpa using hh) (up _ _ hl) hlc hld hldat fun h' tk kk=>?_)
 have kl:=kk _ _ (up _ _ hl)
 have hL:h'.IsList l xs:=⟨_,kl,hlc,_,hldat⟩
 rw[if_pos (by rfl)]
 refine wpAny_bind (wpAny_rule (wpAny_bind (wpAny_pyIter_list hL (wpAny_pure ⟨plainId_quiet cf _,?_⟩))))
 have lt2:∀ {b o},s.heap.get? b=some o→b≠h'.objs.size:=fun e=>Nat.ne_of_lt (Heap.lt_size (kk _ _ (up _ _ e)))
 have hds:s.heap.objs.size < h'.objs.size:=by
   obtain⟨o,_,_,ho,_⟩:=hnew
   exact Heap.lt_size (kk _ _ ho)
 have up2:∀ b o,h'.get? b=some o→(h'.push { cls:=.type "list_iterator",data:=.fields #[.ref l,.int 0 0] }).get? b=some o:=fun b o e=>Heap.get?_push_of_some _ e
 refine uc (A:=A.in1) (knd:=knd) (ks:=ks) (by simpa using hh) (Nat.ne_of_lt hds) (lt hl) (Ne.symm (lt2 hl)) hkl hyl hsz (xs.size - 0) 0 _ (by omega) (Nat.zero_le _) ⟨_,Heap.get?_push_size _ rfl,rfl,rfl⟩ (hL.at fun o e=>up2 _ o e) (fun j x hx=>?_) ⟨[],Nat.le_refl _,?_,rfl⟩ fun h3 tk3 k3 hd3=>?_
 · obtain⟨T2,k2,kv2,y2,q1,q2,q3,q4,o,ho,r⟩:=hP j x hx
   exact⟨T2,k2,kv2,y2,q1,q2,q3,q4,o,up2 _ _ (kk _ _ (up _ _ ho)),r⟩
 · obtain⟨o,es,ep,ho,cY⟩:=hnew
   exact⟨o,es,ep,up2 _ _ (kk _ _ ho),cY⟩
 · exact⟨rfl,h h3 tk3 (fun c o e=>k3 c o (Ne.symm (lt e)) (lt2 e) (up2 _ _ (kk _ _ (up _ _ e)))) hd3⟩
end
end L2

set_option Elab.async false
set_option linter.all false
set_option maxRecDepth 100000
set_option maxHeartbeats 8000000
namespace L2
open PySem PySem.Spec PyProof.Rows
theorem jw {X:Cx}(hc:X.calm=true):cX X (.type "dict") (fun xs H Q=>∃ (l:Addr)(ps:List Addr)(L:List (Str×V)),xs=[.ref l]∧SqL X.K H l (ps.map V.ref)∧ps.length=L.length∧(∀ (i:Nat) p e,ps[i]?=some p→L[i]?=some e→H p=some (.tup [.str e.1,e.2]))∧L.length≤1000 ∧
   ∀ p,H p=none→Q (.ref p) (upd H p (.dK (cC [] (bj (L.map (·.1)) (L.map (·.2))))))):=by
 intro pins s σ H xs us Q I r h
 obtain⟨l,ps,L,rfl,hl,hpl,hP,hL,q⟩:=h
 obtain⟨u,rfl,r1⟩:=ef r
 cases r1
 obtain⟨its,rv,pl,_⟩:=I.list hl
 have hil:=rv.length
 rw[List.length_map] at hil
 have key:∀ (L2:List (Str×V))(ps2:List Addr),ps2.length=L2.length→(∀ (i:Nat) p e,ps2[i]?=some p→L2[i]?=some e→H p=some (.tup [.str e.1,e.2])) →
     ∃ ys:List Value,Vals (L2.map (·.2)) ys∧∀ (i:Nat) p,ps2[i]?=some p→∃ k kv y,(L2.map fun e=>(Sum.inr e.1:Key))[i]?=some k∧ys[i]?=some y∧(bU X.prog X.w).is k kv=true∧IsTup s.heap p #[kv,y]:=by
   intro L2
   induction L2 with
   | nil =>
     intro ps2 h1 h2
     rw[List.length_eq_zero_iff.mp h1]
     exact⟨[],.nil,fun i p e=>by cases e⟩
   | cons e L2 ih =>
     intro ps2 h1 h2
     cases ps2 with
     | nil=>cases h1
     | cons p ps2 =>
       obtain⟨ys,v1,v2⟩:=ih ps2 (by simpa using h1) fun i q x hq hx=>h2 (i+1) q x hq hx
       obtain⟨ts,rt,tp,_⟩:=I.tuple (SqT.of (h2 0 p e rfl rfl))
       obtain⟨u1,u2,rfl,e1,e2⟩:=rt.two
       obtain⟨t,rfl⟩:=e1
       refine⟨u2::ys,.cons e2 v1,fun i q hq=>?_⟩
       cases i with
       | zero=>cases hq;exact⟨_,_,u2,rfl,rfl,gm _ _ _ t,tp⟩
       | succ i=>exact v2 i q hq
 obtain⟨ys,v1,v2⟩:=key L ps hpl hP
 have hyl:=v1.length
 rw[List.length_map] at hyl
 refine qx (knd:=bU X.prog X.w) (ks:=L.map fun e=>(Sum.inr e.1:Key)) (ys:=ys) (I.ok.hd hc) pl (fun i x hx=>?_) (by simp;omega) (by simp;omega) (by simp;omega) fun h3 tk k3 hd3=>?_
 · have hx':its[i]?=some x:=by simpa using hx
   have hi:i < ps.length:=by rw[hil];exact(List.getElem?_eq_some_iff.mp hx').1
   obtain⟨u,hu,ru⟩:=rv.get (i:=i) (x:=V.ref ps[i]) (by rw[List.getElem?_map,List.getElem?_eq_getElem hi];rfl)
   rw[hx'] at hu
   cases hu
   cases ru
   obtain⟨k,kv,y,e1,e2,e3,e4⟩:=v2 i ps[i] (List.getElem?_eq_getElem hi)
   exact⟨_,k,kv,y,rfl,e1,e2,e3,e4⟩
 · have big:sysModules < s.heap.objs.size:=I.big
   have rel:KV (cC [] (bj (L.map (·.1)) (L.map (·.2)))) (merged [] ((L.map fun e=>(Sum.inr e.1:Key)).zip ys)):=by
     have e:(L.map (·.1)).map (fun k=>(Sum.inr k:Key))=L.map fun e=>(Sum.inr e.1:Key):=by rw[List.map_map];rfl
     have:=KV.merge (nX (ks:=(L.map (·.1)).map (fun k=>(Sum.inr k:Key))) v1) .nil
     rw[e] at this
     unfold bj
     rw[e]
     exact this
   have hz:(cC [] (bj (L.map (·.1)) (L.map (·.2)))).length≤sizeLine:=by
     have:=d2 (bj (L.map (·.1)) (L.map (·.2))) []
     have l:(bj (L.map (·.1)) (L.map (·.2))).length≤L.length:=by unfold bj;rw[List.length_zip,List.length_map,List.length_map];exact Nat.min_le_left _ _
     rw[List.length_nil] at this
     rw[sizeLine_eq]
     omega
   have I3:=I.laid (a:=s.heap.objs.size) (o:=.dK (cC [] (bj (L.map (·.1)) (L.map (·.2))))) (h':=h3) (t':=tk) k3 (Nat.le_refl _) (l6 hz (beq_eq_false_iff_ne.mpr (Ne.symm (Nat.ne_of_lt big))) rel hd3)
   exact⟨.ref _,_,I3,rfl,q _ (I.hok.fresh (Nat.le_refl _))⟩
/-! ### order of texts -/
section
variable {X:Cx}
theorem qj:OpR X (compareOp .LtE) (fun x y H Q=>∃ i j,x=.str i∧y=.str j∧Q (.bl (!decide (j.cps.toList < i.cps.toList))) H):=by
 intro pins s σ H x y v u Q I rx ry h
 obtain⟨i,j,rfl,rfl,q⟩:=h
 obtain⟨t,rfl⟩:=rx
 obtain⟨t',rfl⟩:=ry
 exact PySem.P.le_str (bx I q rfl)
theorem q9:OpR X (compareOp .GtE) (fun x y H Q=>∃ i j,x=.str i∧y=.str j∧Q (.bl (!decide (i.cps.toList < j.cps.toList))) H):=by
 intro pins s σ H x y v u Q I rx ry h
 obtain⟨i,j,rfl,rfl,q⟩:=h
 obtain⟨t,rfl⟩:=rx
 obtain⟨t',rfl⟩:=ry
 exact PySem.P.ge_str (bx I q rfl)
end
end L2

set_option Elab.async false
set_option linter.all false
set_option maxRecDepth 100000
set_option maxHeartbeats 8000000
namespace L2
open PySem PySem.Spec PyProof.Rows
section
variable {X:Cx}{pins:List (Addr×Obj)}{σ:St}{H:Hp}{s:Shared}{h':Heap}
end
def Ite (K:PySem.W.Frag)(a:Addr):It :=
 ⟨fun i H=>∃ xs x,SqL K H a xs∧xs[i]?=some x,fun i H v H'=>∃ T x,H T=none∧v=.ref T∧H'=upd H T (.tup [.int i,x])∧∀ xs,SqL K H a xs→xs[i]?=some x,fun i H=>∃ xs,SqL K H a xs∧xs.length≤i⟩
def wM (K:PySem.W.Frag)(ta:TA):TI:=fun σ H R=>ta σ H fun vs H1=>∃ a,vs=[.ref a]∧(∃ xs,SqL K H1 a xs)∧R (Ite K a) H1
section
variable {X:Cx}
end
def Itz (K:PySem.W.Frag)(a b:Addr):It :=
 ⟨fun i H=>∃ xs x ys y,SqL K H a xs∧xs[i]?=some x∧SqL K H b ys∧ys[i]?=some y,fun i H v H'=>∃ T x y,H T=none∧v=.ref T∧H'=upd H T (.tup [x,y])∧(∀ xs,SqL K H a xs→xs[i]?=some x)∧∀ ys,SqL K H b ys→ys[i]?=some y,
   fun i H=>∃ xs ys,SqL K H a xs∧SqL K H b ys∧(xs.length≤i∨ys.length≤i)⟩
def wF (K:PySem.W.Frag)(ta:TA):TI:=fun σ H R=>ta σ H fun vs H1=>∃ a b,vs=[.ref a,.ref b]∧(∃ xs,SqL K H1 a xs)∧(∃ ys,SqL K H1 b ys)∧R (Itz K a b) H1
section
variable {X:Cx}
end
end L2

set_option Elab.async false
set_option linter.all false
set_option maxRecDepth 100000
set_option maxHeartbeats 8000000
namespace L2
open PySem PySem.Spec PyProof.Rows
end L2

set_option Elab.async false
set_option linter.all false
set_option maxRecDepth 100000
set_option maxHeartbeats 8000000
namespace L2
open PySem PySem.Spec PyProof.Rows
section
variable {X:Cx}
end
end L2

set_option Elab.async false
set_option linter.all false
set_option maxRecDepth 100000
set_option maxHeartbeats 8000000
namespace L2
open PySem PySem.Spec PyProof.Rows

/-! ### a set's table: its places rise -/
end L2

set_option Elab.async false
set_option linter.all false
set_option maxRecDepth 100000
set_option maxHeartbeats 8000000
namespace L2
open PySem PySem.Spec PyProof.Rows
section
variable {prog:Program}{w:World}{K:Type} [DecidableEq K](knd:KeyKind prog w K)
variable {knd}
variable {A:Around}{E:Value→Shared→Prop}{s:Shared}

end
end L2

set_option Elab.async false
set_option linter.all false
set_option maxRecDepth 100000
set_option maxHeartbeats 8000000
namespace L2
open PySem PySem.Spec PyProof.Rows
section
variable {K:Type} [DecidableEq K]
end

section
variable {prog:Program}{w:World}{K:Type} [DecidableEq K]{knd:KeyKind prog w K}{led:Bool}
end
end L2

set_option Elab.async false
set_option linter.all false
set_option maxRecDepth 100000
set_option maxHeartbeats 8000000
namespace L2
open PySem PySem.Spec PyProof.Rows
section
variable {prog:Program}{w:World}{A:Around}{E:Value→Shared→Prop}{s:Shared}
end
end L2

set_option Elab.async false
set_option linter.all false
set_option maxRecDepth 100000
set_option maxHeartbeats 8000000
namespace L2
open PySem PySem.Spec PyProof.Rows
/-! ### orders -/
section
variable {prog:Program}{w:World}{A:Around}{E:Value→Shared→Prop}{s:Shared}
end
end L2

set_option Elab.async false
set_option linter.all false
set_option maxRecDepth 100000
set_option maxHeartbeats 8000000
namespace L2
open PySem PySem.Spec PyProof.Rows
section
variable {prog:Program}{w:World}{A:Around}{E:Value→Shared→Prop}{s:Shared}{I a:Addr}{n ep k:Nat}{oS:Obj}{es:Array (Int×Value)}{t:SetTable}
end
end L2

set_option Elab.async false
set_option linter.all false
set_option maxRecDepth 100000
set_option maxHeartbeats 8000000
namespace L2
open PySem PySem.Spec PyProof.Rows
section
variable {prog:Program}{w:World}{A:Around}{E:Value→Shared→Prop}{s:Shared}{I a:Addr}{n ep k:Nat}{oS:Obj}{es:Array (Int×Value)}{t:SetTable}
end
end L2

set_option Elab.async false
set_option linter.all false
set_option maxRecDepth 100000
set_option maxHeartbeats 8000000
namespace L2
open PySem PySem.Spec PyProof.Rows PySem.W
section
variable {prog:Program}{w:World}{A:Around}{E:Value→Shared→Prop}{s:Shared}{a:Addr}{n:Nat}{K:Type} [DecidableEq K]{knd:KeyKind prog w K}{S:K→Bool}
end
end L2

set_option Elab.async false
set_option linter.all false
set_option maxRecDepth 100000
set_option maxHeartbeats 8000000
namespace L2
open PySem PySem.Spec PyProof.Rows PySem.W
section
variable {prog:Program}{w:World}{A:Around}{E:Value→Shared→Prop}{s:Shared}{a:Addr}{n:Nat}{K:Type} [DecidableEq K]{knd:KeyKind prog w K}{S:K→Bool}
end
end L2

set_option Elab.async false
set_option linter.all false
set_option maxRecDepth 100000
set_option maxHeartbeats 8000000
namespace L2
open PySem PySem.Spec PyProof.Rows PySem.W
section
variable {X:Cx}
end
end L2

set_option Elab.async false
set_option linter.all false
set_option maxRecDepth 100000
set_option maxHeartbeats 8000000
namespace L2
open PySem PySem.Spec PyProof.Rows
section
variable {X:Cx}{N':List Str}{pk:List (Option Nat)}{scope:Scope}
end
end L2

set_option Elab.async false
set_option linter.all false
set_option maxRecDepth 100000
set_option maxHeartbeats 8000000
namespace L2
open PySem PySem.Spec PyProof.Rows
/-! ### zip of three lists -/
section
variable {prog:Program}{w:World}{A:Around}{E:Value→Shared→Prop}{s:Shared}
end
end L2

set_option Elab.async false
set_option linter.all false
set_option maxRecDepth 100000
set_option maxHeartbeats 8000000
namespace L2
open PySem PySem.Spec PyProof.Rows
section
variable {prog:Program}{w:World}{A:Around}{E:Value→Shared→Prop}{s:Shared}{z TI TO i1 i2 i3 l1 l2 l3:Addr}{k:Nat}{xs ys us:Array Value}{x y u a b c:Value}
end
end L2

set_option Elab.async false
set_option linter.all false
set_option maxRecDepth 100000
set_option maxHeartbeats 8000000
namespace L2
open PySem PySem.Spec PyProof.Rows
section
variable {prog:Program}{w:World}{A:Around}{E:Value→Shared→Prop}{s:Shared}{z TI TO i1 i2 i3 l1 l2 l3:Addr}{k:Nat}{xs ys us:Array Value}{x y u a b c:Value}
end
def It3 (K:PySem.W.Frag)(a b c:Addr):It :=
 ⟨fun i H=>∃ xs x ys y us u,SqL K H a xs∧xs[i]?=some x∧SqL K H b ys∧ys[i]?=some y∧SqL K H c us∧us[i]?=some u,
   fun i H v H'=>∃ T x y u,H T=none∧v=.ref T∧H'=upd H T (.tup [x,y,u])∧(∀ xs,SqL K H a xs→xs[i]?=some x)∧(∀ ys,SqL K H b ys→ys[i]?=some y)∧∀ us,SqL K H c us→us[i]?=some u,
   fun i H=>∃ xs ys us,SqL K H a xs∧SqL K H b ys∧SqL K H c us∧xs.length≤i⟩
def wC (K:PySem.W.Frag)(ta:TA):TI:=fun σ H R=>ta σ H fun vs H1=>∃ a b c,vs=[.ref a,.ref b,.ref c]∧(∃ xs,SqL K H1 a xs)∧(∃ ys,SqL K H1 b ys)∧(∃ us,SqL K H1 c us)∧R (It3 K a b c) H1
section
variable {X:Cx}
end
end L2

set_option Elab.async false
set_option linter.all false
set_option maxRecDepth 100000
set_option maxHeartbeats 8000000
namespace L2
open PySem PySem.Spec PyProof.Rows
def xb (K:PySem.W.Frag)(te:TE)(ts:TO):TE:=fun σ H Q=>te σ H fun x H1=>ts σ H1 fun st H2=>st=some (-1)∧∃ a xs,x=.ref a∧SqL K H2 a xs∧∀ p,H2 p=none→Q (.ref p) (upd H2 p (.lst xs.reverse))
section
variable {X:Cx}{te:TE}{ts:TO}{e ce:Expr}{p2 p3 pos:Pos}
end
end L2

set_option Elab.async false
set_option linter.all false
namespace L2
open PySem
section
variable {X:Cx}
end
end L2

set_option Elab.async false
set_option linter.all false
set_option maxRecDepth 100000
set_option maxHeartbeats 8000000
namespace DM
open PySem L2
def top (i:Nat):Stmt:=PySem.Challenge.pw_dipmaps_k39_whole_plan_dipped.main.body.getD i (.Pass ⟨0,0,0,0⟩)
abbrev ip:Stmt:=cb (top 33) 0
abbrev fY:Stmt:=cb (top 33) 1
abbrev lx:Stmt:=cb (top 33) 4
abbrev eI:Stmt:=cb (top 33) 6
abbrev gT:Stmt:=cb (top 33) 7
abbrev fQ:Stmt:=cb (top 33) 8
abbrev gC:Stmt:=cb (top 33) 9
abbrev iU:Stmt:=cb (top 33) 10
abbrev fj:Stmt:=cb (top 33) 11
abbrev eF:Stmt:=cb (top 33) 12
abbrev iB:Stmt:=cb (top 33) 13
abbrev kR:Stmt:=top 32
abbrev gJ:Stmt:=top 47
abbrev ly:Stmt:=top 18
abbrev sAt:Stmt:=top 35
abbrev iT:Stmt:=top 36
abbrev kt:Stmt:=top 37
abbrev iD:Stmt:=top 38
abbrev gA:Stmt:=top 39
abbrev ll:Stmt:=top 40
abbrev iA:Stmt:=top 41
abbrev iR:Stmt:=top 42
abbrev iK:Stmt:=top 43
abbrev iJ:Stmt:=top 44
abbrev fw:Stmt:=top 45
abbrev gD:Stmt:=top 46
abbrev kg:Stmt:=top 58
abbrev fE:Stmt:=top 22
abbrev eU:Stmt:=top 23
abbrev gW:Stmt:=top 24
abbrev fq:Stmt:=top 25
abbrev hU:Stmt:=cb (top 26) 0
abbrev fc:Stmt:=cb (top 26) 1
abbrev gz:Stmt:=cb (top 26) 2
abbrev fU:Stmt:=cb (top 26) 3
abbrev jI:Stmt:=cb (top 26) 4
abbrev eu:Stmt:=cb (top 26) 5
abbrev ej:Stmt:=cb (top 26) 6
abbrev eM:Stmt:=cb (top 26) 7
abbrev qq:Stmt:=top 48
abbrev k7:Stmt:=top 52
abbrev g3:Stmt:=top 2
abbrev ow:Stmt:=top 3
abbrev fb:Stmt:=top 53
abbrev dW:Stmt:=top 54
abbrev fH:Stmt:=top 49
abbrev eG:Stmt:=top 50
abbrev el:Stmt:=top 51
abbrev jJ:Stmt:=top 55
abbrev gS:Stmt:=top 56
abbrev eB:Stmt:=top 57
local macro_rules | `(tactic| walk_at "dm")=>`(tactic| simp only[wH,wV,uP,tOp,rn,tCB,dM,se,wW,tC,rI0,rI,re,wQ,wJ,tX,cP,uV,uO,tOr,wB,wS,tB,uY,xc,wI,tIf,wP,vQ,tz,uU,ua,tUn,rU,tSl,wU,pD,uT,rIn,wm,tG,pI,qa,m4,u9,vc,sU,vF,sD,sZ,vQ,wO,pG,uR,wt,uS,wA,  uQ,wF,wC,xb,wM,xh,ipI,wv,vf,vi,wG,dq,me,wo,tBM,xf,vV,rF,wZ,wn,tQ,w8,u4,vh,mh,uJ,wf,gQ,rEq,rNe,u6,uD,w5,vG,vj,ww,rD,List.map_cons,List.map_nil,List.length_cons,List.length_nil,List.cons_append,List.nil_append,Nat.sub_self,Nat.reduceSub,Nat.reduceAdd,List.replicate,List.getElem?_cons_zero,List.getElem?_cons_succ,List.getElem?_nil,Option.bind_some,Option.bind_none,id_eq,Option.some.injEq,exists_eq_left',exists_eq_left,V.int.injEq,V.ref.injEq,V.str.injEq,V.bl.injEq,V.ty.injEq,List.cons.injEq,and_true,true_and,List.set_cons_zero,List.set_cons_succ,List.append_nil,exists_and_left,exists_and_right,and_assoc,exists_const,decide_eq_true_eq,Bool.not_eq_true',decide_eq_false_iff_not,if_true,if_false,Bool.false_eq_true])
def bX:Str:="abcdefghijklmnopqrstuvwxyz"
def inS (z:Str):Bool:=!(Builtin.Str.occurrences bX z 0 bX.length 1).isEmpty
def inL (c:Nat):Bool:=inS ⟨#[c]⟩
def cq (z:Str):Bool:=(decide (1≤z.length)&&decide (z.length≤8))&&z.cps.toList.all inL
def atL (ns:List Int) (k:Int):Int:=if k < ns.length then ns.getD k.toNat 0 else 0
def nU (K:PySem.W.Frag):Sp:=fun vs H Q _=>∃ (a:Addr)(ns:List Int) (k:Int),vs=[.ref a,.int k]∧SqL K H a (ns.map V.int)∧0≤k∧Q (.int (atL ns k)) H
def l4:Sp:=fun vs H Q _=>∃ z:Str,vs=[.str z]∧z.length≤1000∧∀ H',ae H H'→Q (.bl (cq z)) H'
theorem dF {K:PySem.W.Frag}{H:Hp}{a:Addr}{ns:List Int}{k:Int}{Q:VK}{E:XK}(ha:SqL K H a (ns.map V.int))(h0:0≤k)(q:Q (.int (atL ns k)) H):nU K [.ref a,.int k] H Q E:=⟨a,ns,k,rfl,ha,h0,q⟩
structure Txt (mg:Str→Option Value):Prop where
 len:mg "len"=none
 all:mg "all"=none
 range:mg "range"=none
 isi:mg "isinstance"=none
 list:mg "list"=none
 str:mg "str"=none
 sorted:mg "sorted"=none
 tuple:mg "tuple"=none
 dict:mg "dict"=none
 zip:mg "zip"=none
 set:mg "set"=none
 min:mg "min"=none
 int:mg "int"=none
 lett:∃ t,mg "LETTERS"=some (.str bX t)
 long:∃ t,mg "LONGEST"=some (.int 8 t)
theorem bi:(1000:Nat)≤sizeLine:=by rw[sizeLine_eq];decide
theorem dP {α:Type} (n:Nat)(l:List α)(f:Nat→V)(h:α→V)(hl:l.length=n)(e:∀ i x,l[i]?=some x→f i=h x):(List.range n).map f=l.map h:=by
 refine List.ext_getElem? fun i=>?_
 rw[List.getElem?_map,List.getElem?_map]
 by_cases hi:i < n
 · rw[List.getElem?_range hi,List.getElem?_eq_getElem (by omega)]
   show some (f i)=some (h _)
   rw[e i _ (List.getElem?_eq_getElem (by omega))]
 · rw[List.getElem?_eq_none (by simpa using hi),List.getElem?_eq_none (by omega)]
   rfl
section
variable {P:Program}{w:World}{K:PySem.W.Frag}{mg:Str→Option Value}{base:Heap}
theorem xk:aG ["_law_script", "_law_k"] ["_law_script", "_law_k"] (af sAt):=⟨rfl,rfl,rfl,by decide +kernel,rfl,by decide +kernel,by decide +kernel⟩
theorem wE {f:Addr}{fd:FuncData}(F:Fun K "_law_at" "_law_at" sAt f fd)(T:Txt mg):au P w K mg base CX0 1 f fd ["_law_script", "_law_k"] (nU K):=by
 refine F.ok xk (fun vs H Q E h=>?_) (fun cdv A outer s H vs Q E hr h=>?_)
 · obtain⟨a,ns,k,rfl,_⟩:=h
   rfl
 · obtain⟨a,ns,k,rfl,ha,h0,q⟩:=h
   refine⟨_,aq (aV (ax iV (pv 1) (al ao (by rfl) T.len PySem.boot_len (aa (pv 0) ac)) (aK _)) (ai (az (bc aP (pv 0) (pv 1) (fun _ _=>rfl)))) ar) (ai (az aj)),?_⟩
   walk_at "dm"
   refine⟨_,.inl ha,?_⟩
   rw[List.length_map]
   unfold atL at q
   refine aY (fun hk=>?_) (fun hk=>?_)
   · rw[if_pos hk] at q
     refine⟨_,ha,_,?_,q⟩
     obtain⟨j,rfl⟩:=Int.eq_ofNat_of_zero_le h0
     have hl:j < ns.length:=by omega
     refine eW ?_
     rw[List.getElem?_map,List.getD_eq_getElem?_getD,Int.toNat_natCast,List.getElem?_eq_getElem hl]
     rfl
   · rw[if_neg hk] at q
     exact q
theorem vp:aG ["text"] ["text"] (af ly):=⟨rfl,rfl,rfl,by decide +kernel,rfl,by decide +kernel,by decide +kernel⟩
theorem ug {f:Addr}{fd:FuncData}(F:Fun K "good_name" "good_name" ly f fd)(T:Txt mg):au P w K mg base CX0 1 f fd ["text"] l4:=by
 refine F.ok vp (fun vs H Q E h=>?_) (fun cdv A outer s H vs Q E hr h=>?_)
 · obtain⟨z,rfl,_⟩:=h
   rfl
 · obtain⟨z,rfl,hz,q⟩:=h
   obtain⟨tl,hlett⟩:=T.lett
   obtain⟨tg,hlong⟩:=T.long
   refine⟨_,aq (aV (PW.pt (dC (ax iV (al ii (by rfl) T.len PySem.boot_len (aa (pv 0) ac)) aj (aK _)) (dB (ax gh (al ii (by rfl) T.len PySem.boot_len (aa (pv 0) ac)) (df (v:=.int 8) rfl hlong ⟨_,rfl⟩) (aK _))))) (ai (az cv)) ar)
     (ai (az (al (rL rfl) (by rfl) T.all (by decide +kernel) (aa (er (N':=["sign"]) (pk:=[none]) rfl (cV.of (by rfl)) (vY (pv 0)) (fun s H ex=>ap (i:=0) (by show(["sign"]:List Str).Nodup;decide) rfl (Or.inl rfl)) (fun s H ex=>dw rc (pv 0) (df (v:=.str bX) rfl hlett ⟨_,rfl⟩) (by with_unfolding_all rfl))) ac)))),?_⟩
   have hsz:=bi
   walk_at "dm"
   have main:1≤z.length→z.length≤8→∀ (D:Addr),H D=none→kj (Itw z.cps.size fun i v=>∃ c,z.cps[i]?=some c∧v=V.str ⟨#[c]⟩) (cP 0)
         (tOp (fun x y H Q=>∃ i,x=V.str i∧∃ x,y=V.str x∧Q (V.bl !(Builtin.Str.occurrences x i 0 x.length 1).isEmpty) H) (rn 0) (tC (V.str bX)))
         D (fun H'=>∃ x,SqL K H' D (List.map V.bl x)∧Q (V.bl (x.all id)) H') [none] (upd H D (HO.lst [])):=fun h1 h8 D hD=>by
     have hsize:z.cps.size=z.length:=rfl
     refine dg mz (by omega) hD (fun σ=>∃ o,σ=[o]) (fun i=>.bl (inL (z.cps.getD i 0))) ⟨none,rfl⟩ ?_ ?_
     · rintro i x σ' H' hi ⟨c,hc,rfl⟩ ⟨o,rfl⟩ hS R hR
       walk_at "dm"
       have e:inL (z.cps.getD i 0)=!(Builtin.Str.occurrences bX ⟨#[c]⟩ 0 bX.length 1).isEmpty:=by
         rw[Array.getD_eq_getD_getElem?,hc]
         rfl
       rw[←e]
       exact hR _ ⟨_,rfl⟩
     · have e:(List.range z.cps.size).map (fun i=>V.bl (inL (z.cps.getD i 0)))=(z.cps.toList.map inL).map V.bl:=by
         rw[List.map_map]
         refine dP _ z.cps.toList _ _ (by simp) fun i x hx=>?_
         have hx':z.cps[i]?=some x:=by simpa using hx
         rw[Array.getD_eq_getD_getElem?,hx']
         rfl
       rw[e]
       refine⟨z.cps.toList.map inL,SqL.of ad,?_⟩
       have e2:(z.cps.toList.map inL).all id=cq z:=by
         unfold cq
         rw[List.all_map,decide_eq_true h1,decide_eq_true h8]
         rfl
       rw[e2]
       exact q _ (ae.updN hD)
   have f0:¬(1≤z.length∧z.length≤8)→cq z=false:=fun h=>by
     unfold cq
     by_cases h1:1≤z.length
     · rw[decide_eq_false (p:=z.length≤8) (fun h8=>h ⟨h1,h8⟩)];simp
     · rw[decide_eq_false h1];simp
   refine⟨by omega,aY (fun h1=>?_) (fun h1=>⟨by omega,aY (fun h2=>?_) (fun h2=>main (by omega) (by omega))⟩)⟩
   · rw[←f0 (by omega)];exact q H (ae.refl H)
   · rw[←f0 (by omega)];exact q H (ae.refl H)
def dst (cell bound mixed:Int):Nat→Int×Int×List Int
 | 0=>(cell,(cell % 2147483647*48271+11) % 2147483647,[])
 | i+1=>((dst cell bound mixed i).1 / bound,((dst cell bound mixed i).2.1*69621+40014+i) % 2147483647,
     (dst cell bound mixed i).2.2++[if mixed=0 then(dst cell bound mixed i).1 % bound else((dst cell bound mixed i).2.1*69621+40014+i) % 2147483647 / 8 % bound])
def gU (cell bound mixed:Int) (n:Nat):List Int:=(dst cell bound mixed n).2.2
theorem eA (cell bound mixed:Int):∀ n,(gU cell bound mixed n).length=n
 | 0=>rfl
 | n+1=>by
   have ih:=eA cell bound mixed n
   unfold gU at ih ⊢
   show((dst cell bound mixed n).2.2++_).length=n+1
   rw[List.length_append,ih]
   rfl
theorem gL {cell bound mixed:Int}(hb:0 < bound):∀ n,∀ x∈gU cell bound mixed n,0≤x∧x < bound
 | 0,x,h=>by cases h
 | n+1,x,h=>by
   have h':x∈(dst cell bound mixed n).2.2++[if mixed=0 then(dst cell bound mixed n).1 % bound else((dst cell bound mixed n).2.1*69621+40014+n) % 2147483647 / 8 % bound]:=h
   rcases List.mem_append.mp h' with q | q
   · exact gL hb n x q
   · rw[List.mem_singleton.mp q]
     split
     · exact⟨Int.emod_nonneg _ (by omega),Int.emod_lt_of_pos _ hb⟩
     · exact⟨Int.emod_nonneg _ (by omega),Int.emod_lt_of_pos _ hb⟩
def ia:Sp:=fun vs H Q _=>∃ cell many bound mixed:Int,vs=[.int cell,.int many,.int bound,.int mixed]∧0≤many∧many≤1000∧0 < bound∧bound < 2 ^ 62∧(mixed=0∨mixed=1) ∧
 ∀ l H',H l=none→ae H H'→H' l=some (.lst ((gU cell bound mixed many.toNat).map V.int))→Q (.ref l) H'
theorem fK:aG ["_law_cell", "_law_many", "_law_bound", "_law_mixed", "_law_drawn_here", "_law_rest", "_law_spun", "_law_k"] ["_law_cell", "_law_many", "_law_bound", "_law_mixed"] (af iT):=⟨rfl,rfl,rfl,by decide +kernel,rfl,by decide +kernel,by decide +kernel⟩
theorem sN {f:Addr}{fd:FuncData}(F:Fun K "_law_draws" "_law_draws" iT f fd)(T:Txt mg):au P w K mg base CX0 1 f fd ["_law_cell", "_law_many", "_law_bound", "_law_mixed"] ia:=by
 refine F.ok fK (fun vs H Q E h=>?_) (fun cdv A outer s H vs Q E hr h=>?_)
 · obtain⟨_,_,_,_,rfl,_⟩:=h
   rfl
 · obtain⟨cell,many,bound,mixed,rfl,hm0,hm1,hb0,hb1,hmix,q⟩:=h
   refine⟨_,aq (aB (i:=4) fK.nd rfl (Or.inl rfl) (cn ac))
     (aq (aB (i:=5) fK.nd rfl (Or.inl rfl) (pv 0))
     (aq (aB (i:=6) fK.nd rfl (Or.inl rfl) (aH bK (aH b9 (aH fr (aH bK (pv 0) aj) aj) aj) aj))
     (aq (bu PassesOwn.never rfl (cu rfl T.range (aa (pv 1) ac)) (ap (i:=7) fK.nd rfl (Or.inl rfl))
       (aq (aB (i:=6) fK.nd rfl (Or.inl rfl) (aH bK (aH b9 (aH b9 (aH fr (pv 6) aj) aj) (pv 7)) aj))
       (aq (aW (gc PySem.F.plainAttrs_list PySem.F.slot_list_append PySem.F.type_list_append cr (pv 4) (aa (bc aP (cn (aa (aH bK (pv 5) (pv 2)) (aa (aH bK (aH dc (pv 6) aj) (pv 2)) ac))) (pv 3) (fun _ _=>rfl)) ac)))
       (ai (aB (i:=5) fK.nd rfl (Or.inl rfl) (aH dc (pv 5) (pv 2)))))))
     (ai (az (pv 4)))))),?_⟩
   have hs:=bi
   walk_at "dm"
   refine⟨by omega,fun l hl=>⟨by omega,.inr ⟨by omega,by omega⟩,by omega,by omega,by omega,?_⟩⟩
   refine bE (H0:=H) bJ (fun i σ H'=>∃ o,σ=[some (V.int cell),some (V.int many),some (V.int bound),some (V.int mixed),some (V.ref l),some (V.int (dst cell bound mixed i).1),some (V.int (dst cell bound mixed i).2.1),o]∧ae H H'∧H' l=some (.lst ((gU cell bound mixed i).map V.int)))
     ⟨none,rfl,ae.updN hl,ad⟩ (fun _ _ _ _ ⟨_,_,h,_⟩=>h) ?_ ?_
   · rintro i x σ H' hi rfl ⟨o,rfl,hS,hH⟩
     walk_at "dm"
     have ne:∀ p,H' p=none→l≠p:=fun p hp=>aw hH hp
     refine⟨.inr ⟨by omega,by omega⟩,by omega,.inl ⟨rfl,_,SqL.of hH⟩,hb0,by omega,by omega,hb0,by omega,fun p hp=>?_⟩
     have hz:(0:Int)+(i:Int)=i:=by omega
     rw[hz]
     refine⟨_,SqL.of ad,(V.int (if mixed=0 then(dst cell bound mixed i).1 % bound else((dst cell bound mixed i).2.1*69621+40014+i) % 2147483647 / 8 % bound)),?_,_,by rw[ag (ne p hp)];exact hH,?_,hb0,by omega,rfl,rfl,?_,?_⟩
     · rcases hmix with rfl | rfl
       · rfl
       · rfl
     · rw[List.length_map,eA];omega
     · exact(hS.step (hS.free hp)).step hl
     · rw[ad]
       unfold gU
       rw[show(dst cell bound mixed (i+1)).2.2=(dst cell bound mixed i).2.2++[if mixed=0 then(dst cell bound mixed i).1 % bound else((dst cell bound mixed i).2.1*69621+40014+i) % 2147483647 / 8 % bound] from rfl,List.map_append]
       rfl
   · rintro σ H' ⟨o,rfl,hS,hH⟩
     walk_at "dm"
     exact q l H' hl hS hH
end

section
variable {P:Program}{w:World}{K:PySem.W.Frag}{mg:Str→Option Value}{base:Heap}
def dD (c:Nat):Prop:=97≤c∧c≤122
theorem sR:bX.cps.toList=(List.range 26).map (fun i=>97+i):=by decide +kernel
theorem tR {j:Nat}(h:j < 26):bX.cps.toList[j]?=some (97+j):=by rw[sR,List.getElem?_map,List.getElem?_range h];rfl
theorem oE {i:Int}(h0:0≤i)(h1:i < 26):atI bX.cps.toList i=some (97+i.toNat):=by
 obtain⟨j,rfl⟩:=Int.eq_ofNat_of_zero_le h0
 exact eW (tR (by omega))
theorem tZ {c:Nat}(h:dD c):inL c=true:=by
 have key:∀ i:_root_.Fin 26,inL (97+i.val)=true:=by decide +kernel
 have:=key ⟨c - 97,by unfold dD at h;omega⟩
 have e:97+(c - 97)=c:=by unfold dD at h;omega
 rw[show(97+(⟨c - 97,by unfold dD at h;omega⟩:_root_.Fin 26).val)=c from e] at this
 exact this
theorem rM {c:Nat}(h:dD c):Txt.find bX ⟨#[c]⟩=((c - 97:Nat):Int):=by
 have key:∀ i:_root_.Fin 26,Txt.find bX ⟨#[97+i.val]⟩=(i.val:Int):=by decide +kernel
 have:=key ⟨c - 97,by unfold dD at h;omega⟩
 have e:97+(c - 97)=c:=by unfold dD at h;omega
 rw[show(97+(⟨c - 97,by unfold dD at h;omega⟩:_root_.Fin 26).val)=c from e] at this
 exact this
structure Nm (z:Str):Prop where
 lo:1≤z.length
 hi:z.length≤8
 all:∀ c∈z.cps.toList,dD c
theorem Nm.good {z:Str}(h:Nm z):cq z=true:=by
 unfold cq
 rw[decide_eq_true h.lo,decide_eq_true h.hi,Bool.true_and,Bool.true_and]
 exact List.all_eq_true.mpr fun c hc=>tZ (h.all c hc)
theorem Nm.of_list {z:Str}{l:List Nat}(e:z.cps.toList=l)(h1:1≤l.length)(h8:l.length≤8)(ha:∀ c∈l,dD c):Nm z:=by
 have hl:z.length=l.length:=by rw[←e];exact Array.length_toList.symm
 exact⟨by omega,by omega,by rw[e];exact ha⟩
theorem ib (a y:Str):(a++y).cps.toList=a.cps.toList++y.cps.toList:=by
 rw[Str.cps_append,Array.toList_append]
theorem pF (a y:Str):(a++y).length=a.length+y.length:=PySem.Str.length_append a y
theorem d3 (z:Str):z.length=z.cps.toList.length:=Array.length_toList.symm
theorem jO:(Str.ofString "").cps.toList=[]:=by decide +kernel
def sK:Sp:=fun vs H Q _=>∃ seed style:Int,vs=[.int seed,.int style]∧0≤style∧style < 4∧∀ z H',Nm z→ae H H'→Q (.str z) H'
theorem qW:∀ (i:_root_.Fin 8),(Txt.slice (Str.ofString "mmmmmmmm") none (some (i.val:Int))).cps.toList=List.replicate i.val 109∧(Txt.slice (Str.ofString "mmmmmmmm") (some ((i.val:Int)+1)) none).cps.toList=List.replicate (7 - i.val) 109:=by decide +kernel
end

section
variable {P:Program}{w:World}{K:PySem.W.Frag}{mg:Str→Option Value}{base:Heap}
theorem gp:aG ["_law_seed", "_law_style", "_law_letters", "_law_rest", "_law_wide", "_law_word", "_law_k"] ["_law_seed", "_law_style"] (af kt):=⟨rfl,rfl,rfl,by decide +kernel,rfl,by decide +kernel,by decide +kernel⟩
theorem ul {f:Addr}{fd:FuncData}(F:Fun K "_law_name" "_law_name" kt f fd)(T:Txt mg):au P w K mg base CX0 1 f fd ["_law_seed", "_law_style"] sK:=by
 refine F.ok gp (fun vs H Q E h=>?_) (fun cdv A outer s H vs Q E hr h=>?_)
 · obtain⟨_,_,rfl,_⟩:=h
   rfl
 · obtain⟨seed,style,rfl,h0,h4,q⟩:=h
   refine⟨_,aq (aB (i:=2) gp.nd rfl (Or.inl rfl) bQ)
     (aq (aB (i:=3) gp.nd rfl (Or.inl rfl) (aH dc (pv 0) aj))
     (ak (aV (ax dt (pv 1) aj (aK _)) (ai (az (aH fM (aH fM (gl nW bQ ji (gG (aH bK (pv 3) aj))) (bc mo (pv 2) (aH bK (aH dc (pv 3) aj) aj) (fun _ _=>rfl))) (gl nW bQ (gG (aH b9 (aH bK (pv 3) aj) aj)) ji)))) ar)
     (ak (aV (ax dt (pv 1) aj (aK _)) (ai (az (bc aP (cn wy) (aH bK (pv 0) aj) (fun _ _=>rfl)))) ar)
     (ak (aB (i:=4) gp.nd rfl (Or.inl rfl) (bc aP (cn (aa aj (aa aj ac))) (pv 1) (fun _ _=>rfl)))
     (aq (aB (i:=5) gp.nd rfl (Or.inl rfl) bQ)
     (aq (bu PassesOwn.never rfl (cu rfl T.range (aa (aH b9 aj (aH bK (pv 0) aj)) ac)) (ap (i:=6) gp.nd rfl (Or.inl rfl))
       (aq (aB (i:=5) gp.nd rfl (Or.inl rfl) (aH fM (pv 5) (bc mo (pv 2) (aH bK (pv 3) (pv 4)) (fun _ _=>rfl))))
       (ai (aB (i:=3) gp.nd rfl (Or.inl rfl) (aH dc (pv 3) (pv 4))))))
     (ai (az (pv 5))))))))),?_⟩
   have hs:=bi
   walk_at "dm"
   refine⟨by decide,by decide,?_⟩
   refine cut (fun σ' H'=>σ'=[some (.int seed),some (.int style),some (.str bX),some (.int (seed / 8)),none,none,none]∧H'=H∧style≠2) ?_ ?_
   · walk_at "dm"
     refine⟨rfl,aY (fun _=>?_) (fun h=>⟨rfl,h⟩)⟩
     have hi:∃ i:_root_.Fin 8,seed / 8 % 8=(i.val:Int):=⟨⟨(seed / 8 % 8).toNat,by omega⟩,by show seed / 8 % 8=(((seed / 8 % 8).toNat:Nat):Int);omega⟩
     obtain⟨i,hi⟩:=hi
     rw[hi]
     obtain⟨m1,m2⟩:=qW i
     have l1:(Txt.slice (Str.ofString "mmmmmmmm") none (some (i.val:Int))).length=i.val:=by rw[d3,m1,List.length_replicate]
     have l2:(Txt.slice (Str.ofString "mmmmmmmm") (some ((i.val:Int)+1)) none).length=7 - i.val:=by rw[d3,m2,List.length_replicate]
     have hl:=i.isLt
     refine⟨by decide,by decide +kernel,by decide,by decide,by decide,by decide +kernel,_,oE (by omega) (by omega),?_⟩
     have l3:∀ c:Nat,(⟨#[c]⟩:Str).length=1:=fun _=>rfl
     rw[l1,l3,pF,l1,l3,l2]
     refine⟨by omega,by decide,by decide +kernel,by omega,q _ H (Nm.of_list (l:=List.replicate i.val 109++[97+(seed / 8 / 8 % 26).toNat]++List.replicate (7 - i.val) 109) ?_ ?_ ?_ ?_) (ae.refl H)⟩
     · rw[ib,ib,m1,m2]
     · simp only[List.length_append,List.length_replicate,List.length_singleton];omega
     · simp only[List.length_append,List.length_replicate,List.length_singleton];omega
     · intro c hc
       rcases List.mem_append.mp hc with hc | hc
       · rcases List.mem_append.mp hc with hc | hc
         · rw[(List.mem_replicate.mp hc).2];exact⟨by decide,by decide⟩
         · rw[List.mem_singleton.mp hc];unfold dD;omega
       · rw[(List.mem_replicate.mp hc).2];exact⟨by decide,by decide⟩
   rintro σ1 H1 ⟨rfl,rfl,h2⟩
   refine cut (fun σ' H'=>σ'=[some (.int seed),some (.int style),some (.str bX),some (.int (seed / 8)),none,none,none]∧H'=H1∧style≠3) ?_ ?_
   · walk_at "dm"
     refine⟨rfl,aY (fun _=>⟨by omega,fun p hp=>⟨by decide,_,SqL.of ad,?_⟩⟩) (fun h=>h)⟩
     have h8:seed % 8=0∨seed % 8=1∨seed % 8=2∨seed % 8=3∨seed % 8=4∨seed % 8=5∨seed % 8=6∨seed % 8=7:=by omega
     have nm:∀ z:Str,(decide (1≤z.length)&&decide (z.length≤8)&&z.cps.toList.all fun c=>decide (97≤c)&&decide (c≤122))=true→Nm z:=fun z h=>by
       rw[Bool.and_eq_true,Bool.and_eq_true] at h
       refine⟨by simpa using h.1.1,by simpa using h.1.2,fun c hc=>?_⟩
       have:=List.all_eq_true.mp h.2 c hc
       simpa [dD] using this
     rcases h8 with e | e | e | e | e | e | e | e<;>(rw[e];exact⟨_,rfl,q _ _ (nm _ (by decide +kernel)) (ae.updN hp)⟩)
   rintro σ2 H2 ⟨rfl,rfl,h3⟩
   refine cut (fun σ' H'=>∃ wd:Int,(wd=26∨wd=2)∧σ'=[some (.int seed),some (.int style),some (.str bX),some (.int (seed / 8)),some (.int wd),none,none]∧ae H2 H') ?_ ?_
   · walk_at "dm"
     refine⟨by omega,fun p hp=>⟨_,SqL.of ad,?_⟩⟩
     have h01:style=0∨style=1:=by omega
     rcases h01 with e | e
     · rw[e];exact⟨_,rfl,26,.inl rfl,rfl,ae.updN hp⟩
     · rw[e];exact⟨_,rfl,2,.inr rfl,rfl,ae.updN hp⟩
   rintro σ3 H3 ⟨wd,hwd,rfl,S3⟩
   walk_at "dm"
   refine⟨by decide,by omega,by omega,?_⟩
   refine bE (H0:=H3) bJ (fun i σ' H'=>∃ (cY:Int) (z:Str)(o:Option V),σ'=[some (.int seed),some (.int style),some (.str bX),some (.int cY),some (.int wd),some (.str z),o]∧H'=H3∧z.length=i∧∀ c∈z.cps.toList,dD c)
     ⟨_,_,none,rfl,rfl,by decide +kernel,fun c hc=>by rw[jO] at hc;cases hc⟩ (fun _ _ _ _ ⟨_,_,_,_,e,_⟩=>by rw[e];exact ae.refl _) ?_ ?_
   · rintro i x σ H' hi rfl ⟨cY,z,o,rfl,rfl,hl,ha⟩
     have hw0:0 < wd:=by omega
     have hm0:=Int.emod_nonneg cY (show wd≠0 by omega)
     have hm1:=Int.emod_lt_of_pos cY hw0
     have hi8:i < 8:=by omega
     have l3:∀ c:Nat,(⟨#[c]⟩:Str).length=1:=fun _=>rfl
     walk_at "dm"
     refine⟨hw0,by decide +kernel,_,oE hm0 (by omega),by rw[l3];omega,⟨_,rfl⟩,hw0,by omega,by rw[pF,l3,hl],fun c hc=>?_⟩
     rw[ib] at hc
     rcases List.mem_append.mp hc with hc | hc
     · exact ha c hc
     · rw[List.mem_singleton.mp hc];unfold dD;omega
   · rintro σ H' ⟨cY,z,o,rfl,rfl,hl,ha⟩
     walk_at "dm"
     exact q z _ ⟨by omega,by omega,ha⟩ S3
end

section
variable {P:Program}{w:World}{K:PySem.W.Frag}{mg:Str→Option Value}{base:Heap}
theorem jM (l:List Nat):∀ n,n≤l.length→(List.range n).filterMap (fun i=>l[i]?)=l.take n
 | 0,_=>by simp
 | n+1,h=>by
   rw[List.range_succ,List.filterMap_append,jM l n (by omega),List.take_succ,List.getElem?_eq_getElem (by omega)]
   simp[List.getElem?_eq_getElem (show n < l.length by omega)]
theorem rZ (n:Nat)(h:1≤n):Builtin.Str.strSliceIndices none (some (-1)) 1 n=List.range (n - 1):=by
 rw[StrLaws.sliceIdx_neg_hi none n (by decide) (by omega)]
 have e:(-1:Int)+(n:Int)=((n - 1:Nat):Int):=by omega
 rw[e]
 have h0:=StrLaws.strSliceIndices_plain (a:=0) (b:=n - 1) (len:=n) (by omega) (by omega)
 have e0:Builtin.Str.strSliceIndices none (some ((n - 1:Nat):Int)) 1 n=Builtin.Str.strSliceIndices (some ((0:Nat):Int)) (some ((n - 1:Nat):Int)) 1 n:=by
   have m0:max (0:Int) (min (0:Int) (n:Int))=0:=by omega
   simp[Builtin.Str.strSliceIndices,m0]
 rw[e0,h0]
 simp
theorem oe (z:Str)(h:1≤z.length):(Txt.slice z none (some (-1))).cps.toList=z.cps.toList.dropLast:=by
 unfold Txt.slice
 rw[rZ _ h,List.length_range]
 have hne:¬((1:Int)==1&&(z.length - 1)==z.length)=true:=by
   rw[Bool.and_eq_true]
   intro hh
   have:=of_decide_eq_true hh.2
   omega
 rw[if_neg hne]
 show(List.filterMap (fun i=>z.cps[i]?) (List.range (z.length - 1))).toArray.toList=_
 have e:(fun i:Nat=>z.cps[i]?)=fun i=>z.cps.toList[i]?:=by funext i;simp
 rw[e,jM _ _ (by rw[Array.length_toList];exact Nat.sub_le _ _),List.dropLast_eq_take,←d3]
def mkN (p:List Nat) (k:Nat):Str:=⟨(p++[97+k % 26]).toArray⟩
theorem eD (p:List Nat) (k:Nat):(mkN p k).cps.toList=p++[97+k % 26]:=by simp[mkN]
theorem pq (p:List Nat) (k:Nat):(mkN p k).length=p.length+1:=by rw[d3,eD];simp
theorem t8 {p:List Nat}{j k:Nat}(h:mkN p j=mkN p k):j % 26=k % 26:=by
 have:=congrArg (fun z:Str=>z.cps.toList) h
 simp only[eD] at this
 have:=List.append_cancel_left this
 simp at this
 exact this
theorem px {a b:Str}(h:a.cps.toList=b.cps.toList):a=b:=by
 have e2:a.cps=b.cps:=Array.toList_inj.mp h
 cases a
 cases b
 simp only at e2
 rw[e2]
theorem Nm.toMk {z:Str}(h:Nm z):∃ p k,z=mkN p k∧p.length≤7∧∀ c∈p,dD c:=by
 have hne:z.cps.toList≠[]:=by
   intro e
   have:=h.lo
   rw[d3,e] at this
   simp at this
 have hl:=h.all _ (List.getLast_mem hne)
 refine⟨z.cps.toList.dropLast,z.cps.toList.getLast hne - 97,px ?_,?_,fun c hc=>h.all c (List.dropLast_subset _ hc)⟩
 · rw[eD]
   have e:97+(z.cps.toList.getLast hne - 97) % 26=z.cps.toList.getLast hne:=by unfold dD at hl;omega
   rw[e];exact(List.dropLast_concat_getLast hne).symm
 · have:=h.hi
   rw[d3] at this
   rw[List.length_dropLast]
   omega
theorem Nm.of_mk {p:List Nat}{k:Nat}(hp:p.length≤7)(ha:∀ c∈p,dD c):Nm (mkN p k):=by
 refine Nm.of_list (eD p k) (by simp) (by simp;omega) fun c hc=>?_
 rcases List.mem_append.mp hc with hc | hc
 · exact ha c hc
 · rw[List.mem_singleton.mp hc];unfold dD;omega
theorem eK:∀ {l m:List Str},l.Nodup→(∀ x∈l,x∈m)→l.length≤m.length
 | [],m,_,_=>Nat.zero_le _
 | a::l,m,hn,hs=>by
   obtain⟨h1,h2⟩:=List.nodup_cons.mp hn
   have ham:a∈m:=hs a List.mem_cons_self
   have:=eK (l:=l) (m:=m.erase a) h2 fun x hx=>(List.mem_erase_of_ne (fun e=>h1 (by rw[←e];exact hx))).mpr (hs x (List.mem_cons_of_mem _ hx))
   rw[List.length_erase_of_mem ham] at this
   have hpos:=List.length_pos_of_mem ham
   rw[List.length_cons]
   omega
theorem mw (p:List Nat) (k:Nat)(ws:List Str)(h:ws.length≤25):∃ t,t≤25∧mkN p (k+t)∉ws:=by
 refine Classical.byContradiction fun hno=>?_
 have hall:∀ t,t≤25→mkN p (k+t)∈ws:=fun t ht=>Classical.byContradiction fun hn=>hno ⟨t,ht,hn⟩
 have hnd:((List.range 26).map fun t=>mkN p (k+t)).Nodup:=by
   refine List.pairwise_map.mpr ?_
   refine List.Pairwise.imp_of_mem ?_ List.nodup_range
   intro a b ha hb hab e
   have:=t8 e
   have:=List.mem_range.mp ha
   have:=List.mem_range.mp hb
   omega
 have:=eK hnd fun x hx=>by
   obtain⟨t,ht,rfl⟩:=List.mem_map.mp hx
   exact hall t (by have:=List.mem_range.mp ht;omega)
 rw[List.length_map,List.length_range] at this
 omega
theorem cW (x:Str):∀ ws:List Str,inV (.str x) (ws.map V.str)=decide (x∈ws)
 | []=>rfl
 | y::r=>by
   have ih:=cW x r
   unfold inV at ih ⊢
   rw[List.map_cons,List.any_cons,ih]
   show((y==x)||decide (x∈r))=decide (x∈y::r)
   rw[Bool.eq_iff_iff]
   simp only[Bool.or_eq_true,beq_iff_eq,decide_eq_true_eq,List.mem_cons]
   constructor
   · rintro(h | h)
     · exact .inl h.symm
     · exact .inr h
   · rintro(h | h)
     · exact .inl h.symm
     · exact .inr h
theorem cj (ws:List Str):(ws.map V.str).all gv=true:=by
 rw[List.all_map]
 exact List.all_eq_true.mpr fun _ _=>rfl
end

section
variable {P:Program}{w:World}{K:PySem.W.Frag}{mg:Str→Option Value}{base:Heap}
def pV:Sp:=fun vs H Q _=>∃ cell many style mixed:Int,vs=[.int cell,.int many,.int style,.int mixed]∧0≤many∧many≤20∧0≤style∧style < 4∧(mixed=0∨mixed=1) ∧
 ∀ l (ws:List Str) H',H l=none→ae H H'→H' l=some (.lst (ws.map V.str))→(ws.length:Int)=many→ws.Nodup→(∀ x∈ws,Nm x)→Q (.ref l) H'
theorem gB:aG ["_law_cell", "_law_many", "_law_style", "_law_mixed", "_law_letters", "_law_words", "_law_seed", "_law_one"] ["_law_cell", "_law_many", "_law_style", "_law_mixed"] (af iD):=⟨rfl,rfl,rfl,by decide +kernel,rfl,by decide +kernel,by decide +kernel⟩
theorem sX {f fD fN:Addr}{fd fdD fdN:FuncData}(F:Fun K "_law_names" "_law_names" iD f fd)(T:Txt mg)(GD:au P w K mg base CX0 1 fD fdD ["_law_cell", "_law_many", "_law_bound", "_law_mixed"] ia)(kD:PySem.W.keepIn K (.ref fD)=true)(bD:aE K fdD ["_law_cell", "_law_many", "_law_bound", "_law_mixed"] [])(mD:mg "_law_draws"=some (.ref fD))
   (GN:au P w K mg base CX0 1 fN fdN ["_law_seed", "_law_style"] sK)(kN:PySem.W.keepIn K (.ref fN)=true)(bN:aE K fdN ["_law_seed", "_law_style"] [])(mN:mg "_law_name"=some (.ref fN)) :
   au P w K mg base CX0 2 f fd ["_law_cell", "_law_many", "_law_style", "_law_mixed"] pV:=by
 refine F.ok gB (fun vs H Q E h=>?_) (fun cdv A outer s H vs Q E hr h=>?_)
 · obtain⟨_,_,_,_,rfl,_⟩:=h
   rfl
 · obtain⟨cell,many,style,mixed,rfl,hm0,hm1,hs0,hs4,hmix,q⟩:=h
   refine⟨_,aq (aB (i:=4) gB.nd rfl (Or.inl rfl) bQ)
     (aq (aB (i:=5) gB.nd rfl (Or.inl rfl) (cn ac))
     (aq (bu PassesOwn.never rfl (br (ay GD hr rfl mD kD bD .nil aZ (aa (pv 0) (aa (pv 1) (aa (aH fr aj (aH vS aj aj)) (aa (pv 3) ac)))))) (ap (i:=6) gB.nd rfl (Or.inl rfl))
       (aq (aB (i:=7) gB.nd rfl (Or.inl rfl) (ay GN hr rfl mN kN bN .nil aZ (aa (pv 6) (aa (pv 2) ac))))
       (ak (m3 PassesOwn.never (ax lB (pv 7) (pv 5) (by with_unfolding_all rfl)) (ai (aB (i:=7) gB.nd rfl (Or.inl rfl) (aH fM (gl nW (pv 7) ji (gG (m9 jR aj))) (bc mo (pv 4) (aH bK (aH b9 (gc PySem.F.plainAttrs_str PySem.F.slot_str_index PySem.F.type_str_index (tq rfl) (pv 4) (aa (bc mo (pv 7) (m9 jR aj) (fun _ _=>rfl)) ac)) aj) aj) (fun _ _=>rfl))))))
       (ai (aW (gc PySem.F.plainAttrs_list PySem.F.slot_list_append PySem.F.type_list_append cr (pv 5) (aa (pv 7) ac)))))))
     (ai (az (pv 5))))),?_⟩
   have hs:=bi
   walk_at "dm"
   refine⟨by omega,fun p hp=>⟨⟨by decide,by decide,by decide⟩,.inl ⟨by decide,by decide⟩,_,_,_,_,rfl,hm0,by omega,by decide,by decide,hmix,fun l H1 hl S1 hH1=>?_⟩⟩
   walk_at "dm"
   have hpl:p≠l:=fun e=>by rw[e,ad] at hl;cases hl
   have hHl:H l=none:=by rw[ag (Ne.symm hpl)] at hl;exact hl
   have hL:=eA cell (8*26 ^ Int.toNat 8) mixed many.toNat
   generalize gU cell (8*26 ^ Int.toNat 8) mixed many.toNat=L at hH1 hL
   have S0:ae (upd H l (.lst (L.map V.int))) H1:=fun b o e=>by
     by_cases hb:b=l
     · rw[hb,ad] at e;rw[hb,←e];exact hH1
     · rw[ag hb] at e
       exact S1 b o (by rw[ag (aw e hp)];exact e)
   have hp0:(upd H l (.lst (L.map V.int))) p=none:=by rw[ag hpl];exact hp
   refine⟨⟨_,SqL.of hH1⟩,?_⟩
   refine bE (H0:=upd H l (.lst (L.map V.int))) (aJ (SqL.of ad)) (fun i σ' H'=>∃ (ws:List Str)(o1 o2:Option V),σ'=[some (.int cell),some (.int many),some (.int style),some (.int mixed),some (.str bX),some (.ref p),o1,o2] ∧
     ae (upd H l (.lst (L.map V.int))) H'∧H' p=some (.lst (ws.map V.str))∧ws.length=i∧ws.Nodup∧∀ x∈ws,Nm x)
     ⟨[],none,none,rfl,S0,S1 _ _ ad,rfl,List.nodup_nil,fun x hx=>by cases hx⟩ (fun _ _ _ _ ⟨_,_,_,_,h,_⟩=>h) ?_ ?_
   · rintro i x σ H' hi hx ⟨ws,o1,o2,rfl,hS,hH,hwl,hnd,hnm⟩
     rw[List.getElem?_map] at hx
     obtain⟨y,hy,rfl⟩:=Option.map_eq_some_iff.mp hx
     rw[List.length_map] at hi
     walk_at "dm"
     refine⟨_,_,rfl,hs0,hs4,fun z H2 hz S2=>?_⟩
     have hH2:H2 p=some (.lst (ws.map V.str)):=S2 _ _ hH
     refine cut (fun σ' H'=>∃ z',Nm z'∧z'∉ws∧σ'=[some (.int cell),some (.int many),some (.int style),some (.int mixed),some (.str bX),some (.ref p),some (.int y),some (.str z')]∧H'=H2) ?_ ?_
     · obtain⟨pp,k0,rfl,hp7,hpa⟩:=hz.toMk
       obtain⟨t0,ht0,hfree⟩:=mw pp k0 ws (by omega)
       refine⟨fun m σ' H'=>∃ k t,t≤m∧mkN pp (k+t)∉ws∧σ'=[some (.int cell),some (.int many),some (.int style),some (.int mixed),some (.str bX),some (.ref p),some (.int y),some (.str (mkN pp k))]∧H'=H2,⟨25,k0,t0,ht0,hfree,rfl,rfl⟩,?_⟩
       rintro m σ' H' ⟨k,t,htm,hfr,rfl,rfl⟩
       walk_at "dm"
       refine⟨_,.inl (SqL.of hH2),rfl,cj ws,?_⟩
       rw[cW]
       refine aY (fun hin=>?_) (fun hin=>?_)
       · have hin':mkN pp k∈ws:=of_decide_eq_true hin
         have ht:t≠0:=fun e=>hfr (by rw[e];exact hin')
         have hlen8:(mkN pp k).length≤8:=by rw[pq];omega
         have hlet:dD (97+k % 26):=by unfold dD;omega
         have hf:=rM hlet
         have hn1:97+k % 26 - 97=k % 26:=by omega
         rw[hn1] at hf
         have hsl:(Txt.slice (mkN pp k) none (some (-1))).cps.toList=pp:=by rw[oe _ (by rw[pq];omega),eD,List.dropLast_concat]
         have hsll:(Txt.slice (mkN pp k) none (some (-1))).length=pp.length:=by rw[d3,hsl]
         have e1:(((k % 26:Nat):Int)+1) % 26=(((k+1) % 26:Nat):Int):=by omega
         have hnew:Txt.slice (mkN pp k) none (some (-1))++(⟨#[97+(((k+1) % 26:Nat):Int).toNat]⟩:Str)=mkN pp (k+1):=by
           refine px ?_
           rw[ib,hsl,eD,Int.toNat_natCast]
         refine⟨fun σ' H''=>σ'=[some (.int cell),some (.int many),some (.int style),some (.int mixed),some (.str bX),some (.ref p),some (.int y),some (.str (mkN pp (k+1)))]∧H''=H',?_,by omega,rfl,by omega,_,by rw[eD];exact ic _ _,by rw[hf];omega,by decide,by decide +kernel,_,by rw[hf,e1];exact oE (by omega) (by omega),?_,?_⟩
         · rintro σ' H'' ⟨rfl,rfl⟩
           refine⟨m - 1,by omega,k+1,t - 1,by omega,?_,rfl,rfl⟩
           rw[show k+1+(t - 1)=k+t by omega]
           exact hfr
         · rw[hsll];show pp.length+1≤sizeLine;omega
         · rw[hnew];exact⟨rfl,rfl⟩
       · have hin':mkN pp k∉ws:=of_decide_eq_false (by simpa using hin)
         exact⟨mkN pp k,Nm.of_mk hp7 hpa,hin',rfl⟩
     rintro σ2 H3 ⟨z',hz',hnin,rfl,rfl⟩
     walk_at "dm"
     have hnd':(ws++[z']).Nodup:=g7 hnd hnin
     refine⟨.inl ⟨rfl,_,SqL.of hH2⟩,_,hH2,by rw[List.length_map];omega,⟨_,rfl⟩,(fun b o e=>by rw[ag (aw e hp0)];exact S2 b o (hS b o e)),ws++[z'],?_,?_,hnd',?_⟩
     · rw[ad,List.map_append];rfl
     · rw[List.length_append,hwl];rfl
     · intro x hx
       rcases List.mem_append.mp hx with hx | hx
       · exact hnm x hx
       · rw[List.mem_singleton.mp hx];exact hz'
   · rintro σ H' ⟨ws,o1,o2,rfl,hS,hH,hwl,hnd,hnm⟩
     walk_at "dm"
     refine q p ws H' hp (fun b o e=>hS b o (by rw[ag (aw e hHl)];exact e)) hH ?_ hnd hnm
     rw[hwl,List.length_map];omega
end

section
variable {P:Program}{w:World}{K:PySem.W.Frag}{mg:Str→Option Value}{base:Heap}
def inR (n:Nat)(l:List Int):Prop:=l.length=n∧∀ x∈l,0≤x∧x < n
def mZ (K:PySem.W.Frag):Sp:=fun vs H Q _=>∃ (n:Nat) (shape:Int)(a:Addr)(L:List Int),vs=[.int n,.int shape,.ref a]∧1≤n∧n≤12∧SqL K H a (L.map V.int)∧inR n L ∧
 ∀ l (os:List Int) H',H l=none→ae H H'→H' l=some (.lst (os.map V.int))→inR n os→Q (.ref l) H'
theorem jd {n:Nat}{l:List Int}(h:inR n l){i:Nat}(hi:i < n):∃ x,l[i]?=some x∧0≤x∧x < n:=by
 have hl:i < l.length:=by rw[h.1];exact hi
 exact⟨l[i],List.getElem?_eq_getElem hl,h.2 _ (List.getElem_mem hl)⟩
theorem jU {n k:Nat}{l:List Int}{x:Int}(h:l.length=k∧∀ y∈l,0≤y∧y < n)(h0:0≤x)(h1:x < n):(l++[x]).length=k+1∧∀ y∈l++[x],0≤y∧y < n:=by
 refine⟨by rw[List.length_append,h.1];rfl,fun y hy=>?_⟩
 rcases List.mem_append.mp hy with hy | hy
 · exact h.2 y hy
 · rw[List.mem_singleton.mp hy];exact⟨h0,h1⟩
theorem jl {L:List Int}{i:Nat}{x:Int}(h:L[i]?=some x):atI (L.map V.int) (i:Int)=some (V.int x):=eW (by rw[List.getElem?_map,h];rfl)
theorem eE:aG ["_law_many", "_law_shape_here", "_law_drawn_here", "_law_outs_here", "_law_k", "_law_low", "_law_high"] ["_law_many", "_law_shape_here", "_law_drawn_here"] (af gA):=⟨rfl,rfl,rfl,by decide +kernel,rfl,by decide +kernel,by decide +kernel⟩
theorem qO {f:Addr}{fd:FuncData}(F:Fun K "_law_turned" "_law_turned" gA f fd)(T:Txt mg):au P w K mg base CX0 1 f fd ["_law_many", "_law_shape_here", "_law_drawn_here"] (mZ K):=by
 refine F.ok eE (fun vs H Q E h=>?_) (fun cdv A outer s H vs Q E hr h=>?_)
 · obtain⟨_,_,_,_,rfl,_⟩:=h
   rfl
 · obtain⟨n,shape,a,L,rfl,hn1,hn12,ha,hL,q⟩:=h
   refine⟨_,ak (aV (ax dt (pv 1) aj (aK _)) (ai (az (er (N':=["_law_k", "_law_many", "_law_drawn_here"]) (pk:=[none,some 0,some 2]) rfl (cV.of (by rfl)) (cu rfl T.range (aa (pv 0) ac)) (fun s H ex=>ap (i:=0) (by show(["_law_k", "_law_many", "_law_drawn_here"]:List Str).Nodup;decide +kernel) rfl (Or.inl rfl))
         (fun s H ex=>al (fk rfl) (by rfl) T.min (by decide +kernel) (aa (aH b9 (pv 0) (aH bK (bc (aP:IxR _ (re K)) (pv 2) (pv 0) (fun _ _=>rfl)) aj)) (aa (aH jK (pv 1) aj) ac)))))) ar)
     (ak (aV (ax dt (pv 1) aj (aK _)) (ai (az (aH vW (cn (aa (bc aP (pv 2) aj (fun _ _=>rfl)) ac)) (pv 0)))) ar)
     (aq (aB (i:=3) eE.nd rfl (Or.inl rfl) (cn ac))
     (aq (bu PassesOwn.never rfl (cu rfl T.range (aa (pv 0) ac)) (ap (i:=4) eE.nd rfl (Or.inl rfl))
       (ak (aB (i:=5) eE.nd rfl (Or.inl rfl) (bc aP (cn (aa aj (aa (aH dc (pv 0) aj) ac))) (bw dX (by rfl) T.int (by decide +kernel) (aa (dw i5 (pv 4) (aH dc (pv 0) aj) (aK _)) ac)) (fun _ _=>rfl)))
       (ak (aB (i:=6) eE.nd rfl (Or.inl rfl) (bc aP (cn (aa (aH dc (pv 0) aj) (aa (pv 0) ac))) (bw dX (by rfl) T.int (by decide +kernel) (aa (dw i5 (pv 4) (aH dc (pv 0) aj) (aK _)) ac)) (fun _ _=>rfl)))
       (ai (aV (ax dt (pv 1) aj (aK _))
         (ak (aB (i:=5) eE.nd rfl (Or.inl rfl) (bc aP (cn (aa aj (aa aj (aa aj ac)))) (aH b9 (bw dX (by rfl) T.int (by decide +kernel) (aa (dw i5 (pv 4) aj (aK _)) ac)) (bw dX (by rfl) T.int (by decide +kernel) (aa (dw i5 (pv 4) aj (aK _)) ac))) (fun _ _=>rfl)))
         (ak (aB (i:=6) eE.nd rfl (Or.inl rfl) (al (fk rfl) (by rfl) T.min (by decide +kernel) (aa (bc aP (cn (aa aj (aa aj (aa aj ac)))) (aH b9 (bw dX (by rfl) T.int (by decide +kernel) (aa (dw i5 (pv 4) aj (aK _)) ac)) (bw dX (by rfl) T.int (by decide +kernel) (aa (dw i5 (pv 4) aj (aK _)) ac))) (fun _ _=>rfl)) (aa (pv 0) ac))))
         (ai (aW (gc PySem.F.plainAttrs_list PySem.F.slot_list_append PySem.F.type_list_append cr (pv 3) (aa (bc aP (cn (aa (pv 5) (aa (aH b9 (pv 4) aj) ac))) (bw dX (by rfl) T.int (by decide +kernel) (aa (dw iV (aH b9 (pv 4) aj) (pv 6) (aK _)) ac)) (fun _ _=>rfl)) ac))))))
         (ai (aW (gc PySem.F.plainAttrs_list PySem.F.slot_list_append PySem.F.type_list_append cr (pv 3) (aa (aH b9 (pv 5) (aH bK (bc aP (pv 2) (pv 4) (fun _ _=>rfl)) (aH jK (pv 6) (pv 5)))) ac)))))))))
     (ai (az (pv 3)))))),?_⟩
   have hs:=bi
   refine cut (fun σ' H'=>σ'=[some (.int n),some (.int shape),some (.ref a),none,none,none,none]∧H'=H) ?_ ?_
   · walk_at "dm"
     refine⟨rfl,aY (fun h4=>⟨by omega,by omega,fun D hD=>?_⟩) (fun _=>trivial)⟩
     have out:∀ i,∃ y:Int,i < n→∃ x,L[i]?=some x∧(0≤y∧y < n)∧y=(if(n:Int) - 1 < (0+(i:Int))+x % 2 then(n:Int) - 1 else(0+(i:Int))+x % 2):=fun i=>by
       by_cases hi:i < n
       · obtain⟨x,hx,h0,h1⟩:=jd hL hi
         refine⟨_,fun _=>⟨x,hx,?_,rfl⟩⟩
         split<;>omega
       · exact⟨0,fun h=>absurd h hi⟩
     refine dg bJ (by omega) hD (fun σ=>∃ o,σ=[o,some (.int n),some (.ref a)]) (fun i=>.int (out i).choose) ⟨none,rfl⟩ ?_ ?_
     · rintro i x σ' H' hi rfl ⟨o,rfl⟩ hS R hR
       obtain⟨x,hx,_,e⟩:=(out i).choose_spec (by omega)
       walk_at "dm"
       refine⟨_,hS.seq ha,V.int x,?_,_,rfl,by decide,?_⟩
       · rw[show(0:Int)+(i:Int)=(i:Int) by omega];exact jl hx
       · rw[←e];exact hR _ ⟨_,rfl⟩
     · have en:((n:Int)).toNat=n:=by omega
       rw[en]
       refine q D ((List.range n).map fun i=>(out i).choose) _ hD (ae.updN hD) ?_ ⟨by rw[List.length_map,List.length_range],fun x hx=>?_⟩
       · rw[ad,List.map_map];rfl
       · obtain⟨i,hi,rfl⟩:=List.mem_map.mp hx
         obtain⟨_,_,h,_⟩:=(out i).choose_spec (List.mem_range.mp hi)
         exact h
   rintro σ1 H1 ⟨rfl,rfl⟩
   refine cut (fun σ' H'=>σ'=[some (.int n),some (.int shape),some (.ref a),none,none,none,none]∧H'=H1) ?_ ?_
   · walk_at "dm"
     refine⟨rfl,aY (fun h6=>?_) (fun _=>trivial)⟩
     obtain⟨x,hx,h0,h1⟩:=jd hL (show 0 < n by omega)
     refine⟨_,ha,_,jl hx,by omega,fun p hp=>⟨_,ad,by omega,by omega,?_,fun p1 hp1=>?_⟩⟩
     · rw[List.length_singleton];omega
     · have en:((n:Int)).toNat=n:=by omega
       rw[en]
       have hp1':H1 p1=none:=(ae.updN hp).free hp1
       refine q p1 (List.replicate n x) _ hp1' ((ae.updN hp).step hp1') ?_ ⟨List.length_replicate,fun y hy=>?_⟩
       · rw[ad,List.map_replicate,List.flatten_replicate_singleton]
       · rw[(List.mem_replicate.mp hy).2];exact⟨h0,h1⟩
   rintro σ2 H2 ⟨rfl,rfl⟩
   walk_at "dm"
   refine⟨by omega,fun p hp=>⟨by omega,by omega,?_⟩⟩
   refine bE (H0:=H2) bJ (fun i σ' H'=>∃ (os:List Int)(o4 o5 o6:Option V),σ'=[some (.int n),some (.int shape),some (.ref a),some (.ref p),o4,o5,o6]∧ae H2 H'∧H' p=some (.lst (os.map V.int))∧os.length=i∧∀ y∈os,0≤y∧y < n)
     ⟨[],none,none,none,rfl,ae.updN hp,ad,rfl,fun y hy=>by cases hy⟩ (fun _ _ _ _ ⟨_,_,_,_,_,h,_⟩=>h) ?_ ?_
   · rintro i x σ H' hi rfl ⟨os,o4,o5,o6,rfl,hS,hH,hl⟩
     have hin:i < n:=by omega
     have ei:(0:Int)+(i:Int)=i:=by omega
     rw[ei]
     walk_at "dm"
     refine cut (fun σ' H''=>∃ lo:Int,lo=(if(n:Int) / 2≤i then(n:Int) / 2 else 0)∧σ'=[some (.int n),some (.int shape),some (.ref a),some (.ref p),some (.int i),some (.int lo),o6]∧ae H2 H''∧H'' p=some (.lst (os.map V.int))) ?_ ?_
     · walk_at "dm"
       refine⟨by decide,by decide,by omega,fun p1 hp1=>⟨by decide,by decide,.inr ⟨_,SqL.of ad,V.int (if(n:Int) / 2≤i then(n:Int) / 2 else 0),?_,rfl,hS.step (hS.free hp1),?_⟩⟩⟩
       · split<;>rfl
       · rw[ag (aw hH hp1)];exact hH
     rintro σ3 H3 ⟨lo,hlo,rfl,S3,hH3⟩
     refine cut (fun σ' H''=>∃ hi:Int,hi=(if(n:Int) / 2≤i then(n:Int) else(n:Int) / 2)∧σ'=[some (.int n),some (.int shape),some (.ref a),some (.ref p),some (.int i),some (.int lo),some (.int hi)]∧ae H2 H''∧H'' p=some (.lst (os.map V.int))) ?_ ?_
     · walk_at "dm"
       refine⟨by decide,by decide,by omega,fun p1 hp1=>⟨by decide,by decide,.inr ⟨_,SqL.of ad,V.int (if(n:Int) / 2≤i then(n:Int) else(n:Int) / 2),?_,rfl,S3.step (S3.free hp1),?_⟩⟩⟩
       · split<;>rfl
       · rw[ag (aw hH3 hp1)];exact hH3
     rintro σ4 H4 ⟨hi,hhi,rfl,S4,hH4⟩
     walk_at "dm"
     refine⟨rfl,aY (fun h7=>?_) (fun h7=>?_)⟩
     · refine cut (fun σ' H''=>∃ lo:Int,(0≤lo∧lo≤i)∧σ'=[some (.int n),some (.int shape),some (.ref a),some (.ref p),some (.int i),some (.int lo),some (.int hi)]∧ae H2 H''∧H'' p=some (.lst (os.map V.int))) ?_ ?_
       · walk_at "dm"
         refine⟨by omega,fun p1 hp1=>.inr (.inr ?_)⟩
         refine⟨_,SqL.of ad,V.int (if(7:Int)≤i then 7 else if(3:Int)≤i then 3 else 0),?_,_,?_,?_,rfl,S4.step (S4.free hp1),?_⟩
         · by_cases c7:(7:Int)≤i
           · rw[if_pos c7,if_pos c7,if_pos (show(3:Int)≤i by omega)];rfl
           · rw[if_neg c7,if_neg c7];split<;>rfl
         · split<;>(try split)<;>omega
         · split<;>(try split)<;>omega
         · rw[ag (aw hH4 hp1)];exact hH4
       rintro σ5 H5 ⟨lo',hlo',rfl,S5,hH5⟩
       refine cut (fun σ' H''=>∃ hi:Int,hi≤n∧σ'=[some (.int n),some (.int shape),some (.ref a),some (.ref p),some (.int i),some (.int lo'),some (.int hi)]∧ae H2 H''∧H'' p=some (.lst (os.map V.int))) ?_ ?_
       · walk_at "dm"
         refine⟨by omega,fun p1 hp1=>.inr (.inr ?_)⟩
         refine⟨_,SqL.of ad,V.int (if(7:Int)≤i then 12 else if(3:Int)≤i then 7 else 3),?_,_,rfl,_,?_,rfl,S5.step (S5.free hp1),?_⟩
         · by_cases c7:(7:Int)≤i
           · rw[if_pos c7,if_pos c7,if_pos (show(3:Int)≤i by omega)];rfl
           · rw[if_neg c7,if_neg c7];split<;>rfl
         · split<;>omega
         · rw[ag (aw hH5 hp1)];exact hH5
       rintro σ6 H6 ⟨hi',hhi',rfl,S6,hH6⟩
       walk_at "dm"
       refine⟨.inl ⟨rfl,_,SqL.of hH6⟩,by omega,fun p1 hp1=>.inr ⟨_,SqL.of ad,V.int (if(i:Int)+1 < hi' then(i:Int)+1 else lo'),?_,_,by rw[ag (aw hH6 hp1)];exact hH6,by rw[List.length_map];omega,⟨_,rfl⟩,(S6.step (S6.free hp1)).step hp,os++[if(i:Int)+1 < hi' then(i:Int)+1 else lo'],?_,jU hl ?_ ?_⟩⟩
       · split<;>rfl
       · rw[ad,List.map_append];rfl
       · split<;>omega
       · split<;>omega
     · obtain⟨x,hx,h0,h1⟩:=jd hL hin
       have hpos:0 < hi - lo:=by rw[hhi,hlo];split<;>omega
       have hm0:=Int.emod_nonneg x (show hi - lo≠0 by omega)
       have hm1:=Int.emod_lt_of_pos x hpos
       have hlo0:0≤lo:=by rw[hlo];split<;>omega
       have hhin:hi≤n:=by rw[hhi];split<;>omega
       refine⟨.inl ⟨rfl,_,SqL.of hH4⟩,_,S4.seq ha,_,jl hx,_,rfl,hpos,_,hH4,by rw[List.length_map];omega,⟨_,rfl⟩,S4.step hp,os++[lo+x % (hi - lo)],?_,jU hl (by omega) (by omega)⟩
       rw[ad,List.map_append];rfl
   · rintro σ H' ⟨os,o4,o5,o6,rfl,hS,hH,hl⟩
     walk_at "dm"
     have en:((n:Int)).toNat=n:=by omega
     rw[en] at hl
     exact q p os H' hp hS hH hl
end

section
variable {P:Program}{w:World}{K:PySem.W.Frag}{mg:Str→Option Value}{base:Heap}
def rW:Sp:=fun vs H Q _=>∃ (cell:Int) (n:Nat) (shape mixed:Int),vs=[.int cell,.int n,.int shape,.int mixed]∧1≤n∧n≤12∧(mixed=0∨mixed=1) ∧
 ∀ l (os:List Int) H',H l=none→ae H H'→H' l=some (.lst (os.map V.int))→inR n os→Q (.ref l) H'
theorem pX {n j:Nat}(h:j < n):ixN n (j:Int)=some j:=by
 unfold ixN
 rw[if_pos (by omega),if_pos (by omega)]
 simp
theorem vU {n:Nat}{k:Int}(h0:0≤k)(h1:k < n):seqIndex? k n=some k.toNat:=by
 obtain⟨j,rfl⟩:=Int.eq_ofNat_of_zero_le h0
 rw[Int.toNat_natCast]
 exact(lS (pX (by omega))).1
theorem t7 {n i:Nat}{l:List Int}{x:Int}(h:inR n l)(h0:0≤x)(h1:x < n):inR n (l.set i x):=by
 refine⟨by rw[List.length_set];exact h.1,fun y hy=>?_⟩
 rcases List.mem_or_eq_of_mem_set hy with hy | hy
 · exact h.2 y hy
 · rw[hy];exact⟨h0,h1⟩
theorem qH {L:List Int}(h:1≤L.length):∃ x∈L,atI (L.map V.int) (-1)=some (V.int x):=by
 have hne:L≠[]:=fun e=>by rw[e] at h;simp at h
 refine⟨L.getLast hne,List.getLast_mem hne,?_⟩
 have e:L.map V.int=L.dropLast.map V.int++[V.int (L.getLast hne)]:=by
   rw[←List.map_singleton,←List.map_append,List.dropLast_concat_getLast hne]
 rw[e]
 exact ic _ _
theorem qL {n m i:Nat}{l:List Int}(h:l.length=m+1∧∀ y∈l,0≤y∧y < n)(hi:i < m+1):(l.eraseIdx i).length=m∧∀ y∈l.eraseIdx i,0≤y∧y < n:=by
 refine⟨by rw[List.length_eraseIdx_of_lt (by omega)];omega,fun y hy=>h.2 y (List.mem_of_mem_eraseIdx hy)⟩
theorem sv {α β:Type}(f:α→β):∀ (l:List α) (i:Nat),(l.map f).eraseIdx i=(l.eraseIdx i).map f
 | [],_=>rfl
 | _::_,0=>rfl
 | x::r,i+1=>congrArg (f x::·) (sv f r i)
theorem mY (n:Nat):(List.range n).map (fun i:Nat=>V.int i)=((List.range n).map fun i:Nat=>(i:Int)).map V.int:=by rw[List.map_map];rfl
theorem sQ (n:Nat):inR n ((List.range n).map fun i:Nat=>(i:Int)):=⟨by rw[List.length_map,List.length_range],fun x hx=>by
 obtain⟨i,hi,rfl⟩:=List.mem_map.mp hx
 have:=List.mem_range.mp hi
 omega⟩
theorem iy:aG ["_law_cell", "_law_many", "_law_shape_here", "_law_mixed", "_law_drawn_here", "_law_left", "_law_outs_here", "_law_one"] ["_law_cell", "_law_many", "_law_shape_here", "_law_mixed"] (af ll):=⟨rfl,rfl,rfl,by decide +kernel,rfl,by decide +kernel,by decide +kernel⟩
theorem uK {f fD fT:Addr}{fd fdD fdT:FuncData}(F:Fun K "_law_outs" "_law_outs" ll f fd)(T:Txt mg)(GD:au P w K mg base CX0 1 fD fdD ["_law_cell", "_law_many", "_law_bound", "_law_mixed"] ia)(kD:PySem.W.keepIn K (.ref fD)=true)(bD:aE K fdD ["_law_cell", "_law_many", "_law_bound", "_law_mixed"] [])(mD:mg "_law_draws"=some (.ref fD))
   (GT:au P w K mg base CX0 1 fT fdT ["_law_many", "_law_shape_here", "_law_drawn_here"] (mZ K))(kT:PySem.W.keepIn K (.ref fT)=true)(bT:aE K fdT ["_law_many", "_law_shape_here", "_law_drawn_here"] [])(mT:mg "_law_turned"=some (.ref fT)) :
   au P w K mg base CX0 2 f fd ["_law_cell", "_law_many", "_law_shape_here", "_law_mixed"] rW:=by
 refine F.ok iy (fun vs H Q E h=>?_) (fun cdv A outer s H vs Q E hr h=>?_)
 · obtain⟨_,_,_,_,rfl,_⟩:=h
   rfl
 · obtain⟨cell,n,shape,mixed,rfl,hn1,hn12,hmix,q⟩:=h
   refine⟨_,ak (aB (i:=4) iy.nd rfl (Or.inl rfl) (ay GD hr rfl mD kD bD .nil aZ (aa (pv 0) (aa (pv 1) (aa (pv 1) (aa (pv 3) ac))))))
     (ak (aV (ax dt (pv 2) aj (aK _)) (ai (az (pv 4))) ar)
     (ak (aV (ax dt (pv 2) aj (aK _))
       (aq (aB (i:=5) iy.nd rfl (Or.inl rfl) (bw (j8 rfl) (by rfl) T.list (by decide +kernel) (aa (bw iW (by rfl) T.range (by decide +kernel) (aa (pv 1) ac)) ac)))
       (aq (aB (i:=6) iy.nd rfl (Or.inl rfl) (cn ac))
       (aq (bu PassesOwn.never rfl (br (pv 4)) (ap (i:=7) iy.nd rfl (Or.inl rfl))
         (ai (aW (gc PySem.F.plainAttrs_list PySem.F.slot_list_append PySem.F.type_list_append cr (pv 6) (aa (gc PySem.F.plainAttrs_list PySem.F.slot_list_pop PySem.F.type_list_pop sH (pv 5) (aa (aH bK (pv 7) (al ao (by rfl) T.len PySem.boot_len (aa (pv 5) ac))) ac)) ac)))))
       (ai (az (pv 6)))))) ar)
     (ak (aV (ax dt (pv 2) aj (aK _)) (ai (az (er (N':=["_law_k", "_law_many"]) (pk:=[none,some 1]) rfl (cV.of (by rfl)) (cu rfl T.range (aa (pv 1) ac)) (fun s H ex=>ap (i:=0) (by show(["_law_k", "_law_many"]:List Str).Nodup;decide +kernel) rfl (Or.inl rfl))
         (fun s H ex=>aH bK (aH b9 (pv 0) aj) (pv 1))))) ar)
     (ak (aV (ax dt (pv 2) aj (aK _))
       (aq (aB (i:=6) iy.nd rfl (Or.inl rfl) (bw (j8 rfl) (by rfl) T.list (by decide +kernel) (aa (bw iW (by rfl) T.range (by decide +kernel) (aa (pv 1) ac)) ac)))
       (aq (lY (bc aP (pv 4) (m9 jR aj) (fun _ _=>rfl)) (v5 (pv 6) (bc aP (pv 4) aj (fun _ _=>rfl)) tI))
       (ai (az (pv 6))))) ar)
     (ai (az (ay GT hr rfl mT kT bT .nil aZ (aa (pv 1) (aa (pv 2) (aa (pv 4) ac)))))))))),?_⟩
   have hs:=bi
   refine cut (fun σ' H'=>∃ d L,σ'=[some (.int cell),some (.int n),some (.int shape),some (.int mixed),some (.ref d),none,none,none]∧H d=none∧ae H H'∧H' d=some (.lst (L.map V.int))∧inR n L) ?_ ?_
   · walk_at "dm"
     refine⟨_,_,_,_,rfl,by omega,by omega,by omega,by omega,hmix,fun l H' hl S1 hH=>⟨l,rfl,hl,S1,_,hH,?_⟩⟩
     have en:((n:Int)).toNat=n:=by omega
     rw[en]
     exact⟨eA _ _ _ _,gL (by omega) _⟩
   rintro σ1 H1 ⟨d,L,rfl,hd,S1,hH1,hL⟩
   refine cut (fun σ' H'=>σ'=[some (.int cell),some (.int n),some (.int shape),some (.int mixed),some (.ref d),none,none,none]∧H'=H1) ?_ ?_
   · walk_at "dm"
     exact⟨rfl,aY (fun _=>q d L H1 hd S1 hH1 hL) (fun _=>trivial)⟩
   rintro σ2 H2 ⟨rfl,rfl⟩
   refine cut (fun σ' H'=>σ'=[some (.int cell),some (.int n),some (.int shape),some (.int mixed),some (.ref d),none,none,none]∧H'=H2) ?_ ?_
   · walk_at "dm"
     refine⟨rfl,aY (fun _ p hp=>⟨n,ad,by omega,fun l hl=>⟨by omega,fun p1 hp1=>?_⟩⟩) (fun _=>trivial)⟩
     have Sa:ae H2 (upd H2 p (.rng 0 n)):=ae.updN hp
     have hl2:H2 l=none:=Sa.free hl
     have Sb:ae H2 (upd (upd H2 p (.rng 0 n)) l (.lst ((List.range n).map fun i:Nat=>V.int i))):=Sa.step hl2
     have hp12:H2 p1=none:=Sb.free hp1
     have hlp1:l≠p1:=fun e=>by rw[←e,ad] at hp1;cases hp1
     have Sc:=Sb.step (o:=HO.lst []) hp12
     refine⟨⟨_,SqL.of (Sc _ _ hH1)⟩,?_⟩
     refine bE (H0:=H2) (aJ (SqL.of hH1)) (fun i σ' H'=>∃ (ls os:List Int)(o:Option V),σ'=[some (.int cell),some (.int n),some (.int shape),some (.int mixed),some (.ref d),some (.ref l),some (.ref p1),o]∧ae H2 H'∧H' l=some (.lst (ls.map V.int))∧H' p1=some (.lst (os.map V.int)) ∧
       (ls.length=n - i∧∀ y∈ls,0≤y∧y < n)∧(os.length=i∧∀ y∈os,0≤y∧y < n))
       ⟨(List.range n).map fun i:Nat=>(i:Int),[],none,rfl,Sc,?_,ad,sQ n,rfl,fun y hy=>by cases hy⟩ (fun _ _ _ _ ⟨_,_,_,_,h,_⟩=>h) ?_ ?_
     · rw[ag hlp1,ad,mY]
     · rintro i x σ H' hi hx ⟨ls,os,o,rfl,hS,hHl,hHp,hls,hos⟩
       rw[List.getElem?_map] at hx
       obtain⟨y,hy,rfl⟩:=Option.map_eq_some_iff.mp hx
       rw[List.length_map,hL.1] at hi
       have hpos:(0:Int) < (ls.length:Nat):=by rw[hls.1];omega
       have hm0:=Int.emod_nonneg y (show((ls.length:Nat):Int)≠0 by omega)
       have hm1:=Int.emod_lt_of_pos y hpos
       have hk:(y % (ls.length:Nat)).toNat < ls.length:=by omega
       obtain⟨z,hz⟩:∃ z,ls[(y % (ls.length:Nat)).toNat]?=some z:=⟨_,List.getElem?_eq_getElem hk⟩
       have hzm:z∈ls:=List.mem_of_getElem? hz
       walk_at "dm"
       refine⟨.inl ⟨rfl,_,SqL.of hHp⟩,.inl ⟨rfl,_,SqL.of hHl⟩,_,.inl (SqL.of hHl),?_⟩
       rw[List.length_map]
       refine⟨hpos,_,hHl,by omega,by omega,_,by rw[List.length_map];exact vU hm0 hm1,_,by rw[List.getElem?_map,hz];rfl,_,by rw[ag (Ne.symm hlp1)];exact hHp,by rw[List.length_map];omega,(hS.step hl2).step hp12,ls.eraseIdx (y % (ls.length:Nat)).toNat,?_,?_⟩
       · rw[ag hlp1,ad,sv]
       · have e1:=qL (m:=n - (i+1)) (n:=n) (l:=ls) (i:=(y % (ls.length:Nat)).toNat) ⟨by omega,hls.2⟩ (by omega)
         have e2:=jU hos (hls.2 z hzm).1 (hls.2 z hzm).2
         exact⟨os++[z],by rw[ad,List.map_append];rfl,e1.1,e1.2,e2.1,e2.2⟩
     · rintro σ H' ⟨ls,os,o,rfl,hS,hHl,hHp,hls,hos⟩
       walk_at "dm"
       rw[List.length_map,hL.1] at hos
       exact q p1 os H' (S1.free hp12) (S1.trans hS) hHp hos
   rintro σ3 H3 ⟨rfl,rfl⟩
   refine cut (fun σ' H'=>σ'=[some (.int cell),some (.int n),some (.int shape),some (.int mixed),some (.ref d),none,none,none]∧H'=H3) ?_ ?_
   · walk_at "dm"
     refine⟨rfl,aY (fun _=>⟨by omega,by omega,fun D hD=>?_⟩) (fun _=>trivial)⟩
     refine dg bJ (by omega) hD (fun σ=>∃ o,σ=[o,some (.int n)]) (fun i=>.int ((0+(i:Int)+1) % n)) ⟨none,rfl⟩ ?_ ?_
     · rintro i x σ' H' hi rfl ⟨o,rfl⟩ hS R hR
       walk_at "dm"
       exact⟨by omega,hR _ ⟨_,rfl⟩⟩
     · have en:((n:Int)).toNat=n:=by omega
       rw[en]
       refine q D ((List.range n).map fun i:Nat=>(0+(i:Int)+1) % n) _ (S1.free hD) (S1.step (S1.free hD)) ?_ ⟨by rw[List.length_map,List.length_range],fun x hx=>?_⟩
       · rw[ad,List.map_map];rfl
       · obtain⟨i,hi,rfl⟩:=List.mem_map.mp hx
         exact⟨Int.emod_nonneg _ (by omega),Int.emod_lt_of_pos _ (by omega)⟩
   rintro σ4 H4 ⟨rfl,rfl⟩
   refine cut (fun σ' H'=>σ'=[some (.int cell),some (.int n),some (.int shape),some (.int mixed),some (.ref d),none,none,none]∧H'=H4) ?_ ?_
   · walk_at "dm"
     refine⟨rfl,aY (fun _ p hp=>⟨n,ad,by omega,fun l hl=>?_⟩) (fun _=>trivial)⟩
     have Sa:ae H4 (upd H4 p (.rng 0 n)):=ae.updN hp
     have hl2:H4 l=none:=Sa.free hl
     have Sb:ae H4 (upd (upd H4 p (.rng 0 n)) l (.lst ((List.range n).map fun i:Nat=>V.int i))):=Sa.step hl2
     obtain⟨z,hzm,hz⟩:=qH (L:=L) (by rw[hL.1];omega)
     obtain⟨y,hy,hy0,hy1⟩:=jd hL (show 0 < n by omega)
     refine⟨_,SqL.of (Sb _ _ hH1),_,hz,_,SqL.of (Sb _ _ hH1),_,jl hy,_,_,rfl,ad,y.toNat,?_,?_⟩
     · rw[List.length_map,List.length_range]
       have:=pX (n:=n) (j:=y.toNat) (by omega)
       rwa [Int.toNat_of_nonneg hy0] at this
     · refine q l (((List.range n).map fun i:Nat=>(i:Int)).set y.toNat z) _ (S1.free hl2) (S1.trans (Sb.step hl2)) ?_ (t7 (sQ n) (hL.2 z hzm).1 (hL.2 z hzm).2)
       rw[ad,mY,List.map_set]
   rintro σ5 H5 ⟨rfl,rfl⟩
   walk_at "dm"
   refine⟨_,_,_,_,rfl,hn1,hn12,SqL.of hH1,hL,fun l os H' hl S2 hH hos=>q l os H' (S1.free hl) (S1.trans S2) hH hos⟩
end

section
variable {P:Program}{w:World}{K:PySem.W.Frag}{mg:Str→Option Value}{base:Heap}
def pz:Sp:=fun vs H Q _=>∃ pick k:Int,vs=[.int pick,.int k]∧∀ r H',ae H H'→Q (.int r) H'
theorem uj:aG ["_law_pick", "_law_k"] ["_law_pick", "_law_k"] (af iA):=⟨rfl,rfl,rfl,by decide +kernel,rfl,by decide +kernel,by decide +kernel⟩
theorem uX {a0 a1 a2 a3 a4 a5 a6 a7:Int}{k:Int}(h0:0≤k)(h8:k < 8):∃ r,atI [V.int a0,V.int a1,V.int a2,V.int a3,V.int a4,V.int a5,V.int a6,V.int a7] k=some (V.int r):=by
 have h:k=0∨k=1∨k=2∨k=3∨k=4∨k=5∨k=6∨k=7:=by omega
 rcases h with e | e | e | e | e | e | e | e<;>(rw[e];exact⟨_,rfl⟩)
theorem rN {f:Addr}{fd:FuncData}(F:Fun K "_law_shape" "_law_shape" iA f fd)(T:Txt mg):au P w K mg base CX0 1 f fd ["_law_pick", "_law_k"] pz:=by
 refine F.ok uj (fun vs H Q E h=>?_) (fun cdv A outer s H vs Q E hr h=>?_)
 · obtain⟨_,_,rfl,_⟩:=h
   rfl
 · obtain⟨pick,k,rfl,q⟩:=h
   refine⟨_,aq (aV (ax dt (aH bK (pv 0) aj) aj (aK _)) (ai (az (aH bK (aH b9 (pv 1) (aH dc (pv 0) aj)) aj))) ar)
     (aq (aV (ax dt (pv 1) aj (aK _)) (ai (az (bc aP (cn u3) (aH bK (pv 0) aj) (fun _ _=>rfl)))) ar)
     (ai (az (bc aP (cn u3) (aH bK (pv 0) aj) (fun _ _=>rfl))))),?_⟩
   have hs:=bi
   walk_at "dm"
   refine⟨by decide,rfl,aY (fun _=>⟨by decide,by decide,by decide,q _ H (ae.refl H)⟩) (fun _=>⟨rfl,aY (fun _=>⟨by omega,fun p hp=>⟨by decide,_,SqL.of ad,?_⟩⟩) (fun _=>⟨by omega,fun p hp=>⟨by decide,_,SqL.of ad,?_⟩⟩)⟩)⟩
   · obtain⟨r,hr⟩:=uX (k:=pick % 8) (a0:=0) (a1:=1) (a2:=0) (a3:=2) (a4:=4) (a5:=5) (a6:=3) (a7:=7) (by omega) (by omega)
     exact⟨_,hr,q _ _ (ae.updN hp)⟩
   · obtain⟨r,hr⟩:=uX (k:=pick % 8) (a0:=0) (a1:=1) (a2:=0) (a3:=3) (a4:=4) (a5:=5) (a6:=1) (a7:=1) (by omega) (by omega)
     exact⟨_,hr,q _ _ (ae.updN hp)⟩
structure NmL (ws:List Str) (n:Nat):Prop where
 len:ws.length=n
 nd:ws.Nodup
 nm:∀ x∈ws,Nm x
def pQ (K:PySem.W.Frag):Sp:=fun vs H Q _=>∃ (a:Addr)(ns:List Int) (n c:Nat),vs=[.ref a,.int n,.int c]∧SqL K H a (ns.map V.int)∧n≤12∧c≤12 ∧
 ∀ p l1 l2 (ws ts:List Str) H',ae H H'→H' p=some (.tup [.ref l1,.ref l2])→H' l1=some (.lst (ws.map V.str))→H' l2=some (.lst (ts.map V.str))→NmL ws (n+1)→NmL ts (c+1)→Q (.ref p) H'
abbrev pAt:List Str:=["_law_script", "_law_k"]
abbrev sF:List Str:=["_law_cell", "_law_many", "_law_style", "_law_mixed"]
theorem je:aG ["_law_script", "_law_many", "_law_count", "_law_mixed", "_law_style", "_law_shades"] ["_law_script", "_law_many", "_law_count"] (af iR):=⟨rfl,rfl,rfl,by decide +kernel,rfl,by decide +kernel,by decide +kernel⟩
theorem rS {f fA fN:Addr}{fd fdA fdN:FuncData}(F:Fun K "_law_named" "_law_named" iR f fd)(T:Txt mg)(GA:au P w K mg base CX0 1 fA fdA pAt (nU K))(kA:PySem.W.keepIn K (.ref fA)=true)(bA:aE K fdA pAt [])(mA:mg "_law_at"=some (.ref fA))
   (GN:au P w K mg base CX0 2 fN fdN sF pV)(kN:PySem.W.keepIn K (.ref fN)=true)(bN:aE K fdN sF [])(mN:mg "_law_names"=some (.ref fN)) :
   au P w K mg base CX0 3 f fd ["_law_script", "_law_many", "_law_count"] (pQ K):=by
 refine F.ok je (fun vs H Q E h=>?_) (fun cdv A outer s H vs Q E hr h=>?_)
 · obtain⟨_,_,_,_,rfl,_⟩:=h
   rfl
 · obtain⟨a,ns,n,c,rfl,ha,hn,hc,q⟩:=h
   have hr1:=hr.mono (j:=1) (by omega)
   refine⟨_,aq (aB (i:=3) je.nd rfl (Or.inl rfl) (aH bK (ay GA hr1 rfl mA kA bA .nil aZ (aa (pv 0) (aa aj ac))) aj))
     (aq (aB (i:=4) je.nd rfl (Or.inl rfl) (aH bK (aH dc (ay GA hr1 rfl mA kA bA .nil aZ (aa (pv 0) (aa aj ac))) aj) aj))
     (aq (aB (i:=5) je.nd rfl (Or.inl rfl) (ay GN hr rfl mN kN bN .nil aZ (aa (ay GA hr1 rfl mA kA bA .nil aZ (aa (pv 0) (aa aj ac))) (aa (aH b9 (pv 1) aj) (aa (pv 4) (aa (pv 3) ac))))))
     (ai (az (ed (aa (pv 5) (aa (ay GN hr rfl mN kN bN .nil aZ (aa (ay GA hr1 rfl mA kA bA .nil aZ (aa (pv 0) (aa aj ac))) (aa (aH b9 (pv 2) aj) (aa (pv 4) (aa (pv 3) ac))))) ac))))))),?_⟩
   have hs:=bi
   walk_at "dm"
   refine dF ha (by decide) ⟨_,rfl,by decide,dF ha (by decide) ⟨_,rfl,by decide,by decide,by decide,dF ha (by decide) ⟨_,_,_,_,rfl,by omega,by omega,by omega,by omega,by omega,fun l1 ws H1 hl1 S1 hH1 hw1 hd1 hm1=>?_⟩⟩⟩
   refine dF (S1.seq ha) (by decide) ⟨_,_,_,_,rfl,by omega,by omega,by omega,by omega,by omega,fun l2 ts H2 hl2 S2 hH2 hw2 hd2 hm2=>⟨by omega,fun p hp=>?_⟩⟩
   have S3:=(S1.trans S2)
   refine q p l1 l2 ws ts _ (S3.step (S3.free hp)) ad ?_ ?_ ⟨by omega,hd1,hm1⟩ ⟨by omega,hd2,hm2⟩
   · rw[ag (aw (S2 _ _ hH1) hp)];exact S2 _ _ hH1
   · rw[ag (aw hH2 hp)];exact hH2
end

section
variable {P:Program}{w:World}{K:PySem.W.Frag}{mg:Str→Option Value}{base:Heap}
def k6 (H:Hp)(p:Addr)(b:Str×List Str):Prop:=∃ o,H p=some (.tup [.str b.1,.ref o])∧H o=some (.lst (b.2.map V.str))
def ik (H:Hp)(lb:Addr)(bs:List (Str×List Str)):Prop:=∃ ps:List Addr,H lb=some (.lst (ps.map V.ref))∧ps.length=bs.length∧∀ (i:Nat) p b,ps[i]?=some p→bs[i]?=some b→k6 H p b
theorem ae.bthAt {H H':Hp}{p:Addr}{b:Str×List Str}(S:ae H H')(h:k6 H p b):k6 H' p b:=by
 obtain⟨o,h1,h2⟩:=h
 exact⟨o,S _ _ h1,S _ _ h2⟩
theorem ae.bths {H H':Hp}{lb:Addr}{bs:List (Str×List Str)}(S:ae H H')(h:ik H lb bs):ik H' lb bs:=by
 obtain⟨ps,h1,h2,h3⟩:=h
 exact⟨ps,S _ _ h1,h2,fun i p b hp hb=>ae.bthAt S (h3 i p b hp hb)⟩
def Shw (z:Str):Prop:=z.length≤1000∧∀ c∈z.cps.toList,c < 1114112
theorem Nm.shw {z:Str}(h:Nm z):Shw z:=⟨by have:=h.hi;omega,fun c hc=>by have:=(h.all c hc).2;omega⟩
structure aR (ss:List Str)(bs:List (Str×List Str)):Prop where
 s1:1≤ss.length
 s12:ss.length≤12
 snd:ss.Nodup
 snm:∀ x∈ss,cq x=true
 snw:∀ x∈ss,Shw x
 b8:bs.length≤8
 bnd:(bs.map (·.1)).Nodup
 bnm:∀ b∈bs,cq b.1=true
 bnw:∀ b∈bs,Shw b.1
 bln:∀ b∈bs,b.2.length=ss.length
 bin:∀ b∈bs,∀ x∈b.2,x∈ss
theorem sI {ws:List Str}{n:Nat}(h:n≤ws.length):mf (ws.map V.str) none (some (n:Int))=(ws.take n).map V.str:=by
 unfold mf
 have e1:HT.sIx (ws.map V.str).length 0 none=0:=rfl
 have e2:HT.sIx (ws.map V.str).length (ws.map V.str).length (some (n:Int))=n:=by
   rw[List.length_map,HT.sIx_nat]
   omega
 rw[e1,e2,List.drop_zero,Nat.sub_zero,List.map_take]
theorem dj {L:List Str}{i:Nat}{x:Str}(h:L[i]?=some x):atI (L.map V.str) (i:Int)=some (V.str x):=eW (by rw[List.getElem?_map,h];rfl)
def pe (K:PySem.W.Frag):Sp:=fun vs H Q _=>∃ (a:Addr)(ns:List Int) (n c:Nat),vs=[.ref a,.int n,.int c]∧SqL K H a (ns.map V.int)∧1≤n∧n≤12∧c≤8 ∧
 ∀ p l lb (ss:List Str)(bs:List (Str×List Str)) (spare other:Str) H',ae H H'→H' p=some (.tup [.ref l,.ref lb,.str spare,.str other])→H l=none→H' l=some (.lst (ss.map V.str))→H lb=none→ik H' lb bs→aR ss bs →
   ss.length=n→bs.length=c→Nm spare→spare∉ss→Nm other→other∉bs.map (·.1)→Q (.ref p) H'
abbrev vg:List Str:=["_law_cell", "_law_many", "_law_shape_here", "_law_mixed"]
abbrev sq:List Str:=["_law_pick", "_law_k"]
abbrev l0:List Str:=["_law_script", "_law_many", "_law_count"]
theorem eY:aG ["_law_script", "_law_many", "_law_count", "_law_mixed", "_law_shades", "_law_titles", "_law_baths", "_law_k", "_law_cell", "_law_outs_here"] ["_law_script", "_law_many", "_law_count"] (af iK):=⟨rfl,rfl,rfl,by decide +kernel,rfl,by decide +kernel,by decide +kernel⟩
theorem jm {ws:List Str}{n:Nat}{x:Str}(hd:ws.Nodup)(hx:ws[n]?=some x):x∉ws.take n:=fun hm=>by
 rw[←List.take_append_drop n ws] at hd
 have hx2:x∈ws.drop n:=List.mem_of_getElem? (i:=0) (by rw[List.getElem?_drop];exact hx)
 exact(List.nodup_append.mp hd).2.2 x hm x hx2 rfl
def hide (H:Hp)(p:Addr):Hp:=fun b=>if b=p then none else H b
theorem ae.hide {H H2:Hp}{p:Addr}(S:ae H H2):ae (hide H p) (DM.hide H2 p):=fun b o e=>by
 unfold DM.hide at e ⊢
 by_cases h:b=p
 · rw[if_pos h] at e;cases e
 · rw[if_neg h] at e ⊢;exact S b o e
theorem d7 {H:Hp}{p:Addr}{o:HO}:hide (upd H p o) p=hide H p:=by
 funext b
 unfold hide upd
 by_cases h:b=p
 · rw[if_pos h,if_pos h]
 · rw[if_neg h,if_neg h,if_neg h]
theorem cz {H:Hp}{p:Addr}:ae (hide H p) H:=fun b o e=>by
 unfold hide at e
 by_cases h:b=p
 · rw[if_pos h] at e;cases e
 · rw[if_neg h] at e;exact e
theorem bP {H:Hp}{p q:Addr}(h:q≠p):hide H p q=H q:=by unfold hide;rw[if_neg h]
theorem e6 {K:PySem.W.Frag}{H:Hp}{a:Addr}{x y:V}{i j:Nat}{σ:St}{Q:St→Hp→Prop}(h:H a=some (.tup [x,y]))(q:Q ((σ.set i (some x)).set j (some y)) H):ng K 2 (dq (cP i) (dq (cP j) me)) (.ref a) σ H Q :=
 ⟨a,[x,y],rfl,SqT.of h,rfl,x,[y],rfl,y,[],rfl,rfl,q⟩
theorem sf {K:PySem.W.Frag}{H:Hp}{a:Addr}{x y z u:V}{i j k l:Nat}{σ:St}{Q:St→Hp→Prop}(h:H a=some (.tup [x,y,z,u]))(q:Q ((((σ.set i (some x)).set j (some y)).set k (some z)).set l (some u)) H):ng K 4 (dq (cP i) (dq (cP j) (dq (cP k) (dq (cP l) me)))) (.ref a) σ H Q :=
 ⟨a,[x,y,z,u],rfl,SqT.of h,rfl,x,[y,z,u],rfl,y,[z,u],rfl,z,[u],rfl,u,[],rfl,rfl,q⟩
def e7 (ws:List Str) (x:Int):Str:=ws.getD x.toNat ⟨#[]⟩
theorem ke {ws:List Str}{x:Int}(h0:0≤x)(h1:x.toNat < ws.length):atI (ws.map V.str) x=some (V.str (e7 ws x)):=by
 have e:ws[x.toNat]?=some (e7 ws x):=by
   unfold e7
   rw[List.getD_eq_getElem?_getD,List.getElem?_eq_getElem h1]
   rfl
 have:=dj e
 rwa [Int.toNat_of_nonneg h0] at this
theorem jC {ws:List Str}{x:Int}{n:Nat}(h0:0≤x)(h1:x < n)(hn:n≤ws.length):e7 ws x∈ws.take n:=by
 have hl:x.toNat < ws.length:=by omega
 refine List.mem_of_getElem? (i:=x.toNat) ?_
 rw[List.getElem?_take,if_pos (by omega)]
 unfold e7
 rw[List.getD_eq_getElem?_getD,List.getElem?_eq_getElem hl]
 rfl
theorem tF {f fA fN fS fO:Addr}{fd fdA fdN fdS fdO:FuncData}(F:Fun K "_law_sized" "_law_sized" iK f fd)(T:Txt mg)(GA:au P w K mg base CX0 1 fA fdA pAt (nU K))(kA:PySem.W.keepIn K (.ref fA)=true)(bA:aE K fdA pAt [])(mA:mg "_law_at"=some (.ref fA))
   (GN:au P w K mg base CX0 3 fN fdN l0 (pQ K))(kN:PySem.W.keepIn K (.ref fN)=true)(bN:aE K fdN l0 [])(mN:mg "_law_named"=some (.ref fN))
   (GS:au P w K mg base CX0 1 fS fdS sq pz)(kS:PySem.W.keepIn K (.ref fS)=true)(bS:aE K fdS sq [])(mS:mg "_law_shape"=some (.ref fS))
   (GO:au P w K mg base CX0 2 fO fdO vg rW)(kO:PySem.W.keepIn K (.ref fO)=true)(bO:aE K fdO vg [])(mO:mg "_law_outs"=some (.ref fO)) :
   au P w K mg base CX0 4 f fd ["_law_script", "_law_many", "_law_count"] (pe K):=by
 refine F.ok eY (fun vs H Q E h=>?_) (fun cdv A outer s H vs Q E hr h=>?_)
 · obtain⟨_,_,_,_,rfl,_⟩:=h
   rfl
 · obtain⟨a,ns,n,c,rfl,ha,hn1,hn,hc,q⟩:=h
   have hr1:=hr.mono (j:=1) (by omega)
   have hr2:=hr.mono (j:=2) (by omega)
   refine⟨_,aq (aB (i:=3) eY.nd rfl (Or.inl rfl) (aH bK (ay GA hr1 rfl mA kA bA .nil aZ (aa (pv 0) (aa aj ac))) aj))
     (ak (lY (ay GN hr rfl mN kN bN .nil aZ (aa (pv 0) (aa (pv 1) (aa (pv 2) ac)))) (dS rfl (aX (ap (i:=4) eY.nd rfl (Or.inr rfl)) (aX (ap (i:=5) eY.nd rfl (Or.inl rfl)) dm))))
     (aq (aB (i:=6) eY.nd rfl (Or.inl rfl) (cn ac))
     (aq (bu PassesOwn.never rfl (cu rfl T.range (aa (pv 2) ac)) (ap (i:=7) eY.nd rfl (Or.inl rfl))
       (aq (aB (i:=8) eY.nd rfl (Or.inl rfl) (aH b9 (ay GA hr1 rfl mA kA bA .nil aZ (aa (pv 0) (aa (aH b9 aj (pv 7)) ac))) (aH fr (aH fr aj (pv 7)) (pv 3))))
       (ak (aB (i:=9) eY.nd rfl (Or.inl rfl) (ay GO hr2 rfl mO kO bO .nil aZ (aa (pv 8) (aa (pv 1) (aa (ay GS hr1 rfl mS kS bS .nil aZ (aa (ay GA hr1 rfl mA kA bA .nil aZ (aa (pv 0) (aa aj ac))) (aa (pv 7) ac))) (aa (pv 3) ac))))))
       (ai (aW (gc PySem.F.plainAttrs_list PySem.F.slot_list_append PySem.F.type_list_append cr (pv 6) (aa (ed (aa (bc aP (pv 5) (pv 7) (fun _ _=>rfl)) (aa (er (N':=["_law_j", "_law_shades"]) (pk:=[none,some 4]) rfl (cV.of (by rfl)) (br (pv 9)) (fun s H ex=>ap (i:=0) (by show(["_law_j", "_law_shades"]:List Str).Nodup;decide +kernel) rfl (Or.inl rfl))
         (fun s H ex=>bc (aP:IxR _ (re K)) (pv 1) (pv 0) (fun _ _=>rfl))) ac))) ac)))))))
     (ai (az (ed (aa (gl p9 (pv 4) ji (gG (pv 1))) (aa (pv 6) (aa (bc aP (pv 4) (pv 1) (fun _ _=>rfl)) (aa (bc aP (pv 5) (pv 2) (fun _ _=>rfl)) ac)))))))))),?_⟩
   have hs:=bi
   walk_at "dm"
   refine dF ha (by decide) ⟨_,rfl,by decide,?_⟩
   generalize hmx:atL ns 3 % 2=mixed
   have hmix:mixed=0∨mixed=1:=by omega
   refine cut (fun σ' H'=>∃ l1 l2 ws ts,σ'=[some (.ref a),some (.int n),some (.int c),some (.int mixed),some (.ref l1),some (.ref l2),none,none,none,none]∧ae H H'∧H' l1=some (.lst (ws.map V.str))∧H' l2=some (.lst (ts.map V.str))∧NmL ws (n+1)∧NmL ts (c+1)) ?_ ?_
   · walk_at "dm"
     refine⟨a,ns,n,c,rfl,ha,hn,by omega,fun p l1 l2 ws ts H' S hp h1 h2 w1 w2=>?_⟩
     refine e6 hp ?_
     exact⟨l1,l2,rfl,S,ws,h1,ts,h2,w1,w2⟩
   rintro σ1 H1 ⟨l1,l2,ws,ts,rfl,S1,hH1,hH2,hws,hts⟩
   walk_at "dm"
   refine⟨by omega,fun p hp=>⟨by omega,by omega,?_⟩⟩
   have hb:∀ i,i < n→∃ x,(ws.take n)[i]?=some x∧ws[i]?=some x:=fun i hi=>by
     have hl:i < ws.length:=by rw[hws.len];omega
     refine⟨ws[i],?_,List.getElem?_eq_getElem hl⟩
     rw[List.getElem?_take,if_pos hi];exact List.getElem?_eq_getElem hl
   refine bE (H0:=H1) bJ (fun i σ' H'=>∃ (ps:List Addr)(bs:List (Str×List Str))(o7 o8 o9:Option V),σ'=[some (.ref a),some (.int n),some (.int c),some (.int mixed),some (.ref l1),some (.ref l2),some (.ref p),o7,o8,o9]∧ae H1 H'∧H' p=some (.lst (ps.map V.ref)) ∧
     ps.length=i∧bs.length=i∧(∀ (j:Nat) r b,ps[j]?=some r→bs[j]?=some b→k6 (hide H' p) r b)∧bs.map (·.1)=ts.take i∧∀ b∈bs,b.2.length=n∧∀ x∈b.2,x∈ws.take n)
     ⟨[],[],none,none,none,rfl,ae.updN hp,ad,rfl,rfl,(by intro j r b h;simp at h),rfl,(by intro b h;cases h)⟩ (fun _ _ _ _ ⟨_,_,_,_,_,_,h,_⟩=>h) ?_ ?_
   · rintro i x σ H' hi rfl ⟨ps,bs,o7,o8,o9,rfl,hS,hH,hpl,hbl,hB,hT,hO⟩
     have ei:(0:Int)+(i:Int)=i:=by omega
     rw[ei]
     have hi9:i < c:=by omega
     have hm9:(1009:Int)*i*mixed < 2 ^ 62:=by rcases hmix with e | e<;>(rw[e];omega)
     walk_at "dm"
     refine dF ((S1.trans hS).seq ha) (by omega) ⟨.inl ⟨by omega,by omega⟩,.inl ⟨by omega,by omega⟩,_,rfl,?_⟩
     refine cut (fun σ' H''=>∃ lo os v8,σ'=[some (.ref a),some (.int n),some (.int c),some (.int mixed),some (.ref l1),some (.ref l2),some (.ref p),some (.int i),v8,some (.ref lo)]∧ae H' H''∧H'' lo=some (.lst (os.map V.int))∧inR n os) ?_ ?_
     · walk_at "dm"
       refine dF ((S1.trans hS).seq ha) (by omega) ⟨_,_,rfl,fun r H2 S2=>⟨_,_,_,_,rfl,hn1,hn,hmix,fun lo os H3 hlo S3 hH3 hos=>⟨lo,rfl,S2.trans S3,os,hH3,hos⟩⟩⟩
     rintro σ2 H2 ⟨lo,os,v8,rfl,S2,hlo,hos⟩
     have hH1':H2 l1=some (.lst (ws.map V.str)):=S2 _ _ (hS _ _ hH1)
     have hH2':H2 l2=some (.lst (ts.map V.str)):=S2 _ _ (hS _ _ hH2)
     have hp2:H2 p=some (.lst (ps.map V.ref)):=S2 _ _ hH
     obtain⟨tt,htt⟩:∃ tt,ts[i]?=some tt:=⟨_,List.getElem?_eq_getElem (by rw[hts.len];omega)⟩
     walk_at "dm"
     refine⟨.inl ⟨rfl,_,SqL.of hp2⟩,_,SqL.of hH2',_,dj htt,⟨_,SqL.of hlo⟩,fun D hD=>?_⟩
     have hDp:D≠p:=fun e=>by rw[e,hp2] at hD;cases hD
     refine dg (aJ (SqL.of hlo)) (by rw[List.length_map,hos.1];omega) hD (fun σ=>∃ o,σ=[o,some (.ref l1)]) (fun k=>V.str (e7 ws (os.getD k 0))) ⟨none,rfl⟩ ?_ ?_
     · rintro k x σ' H3 hk hx ⟨o,rfl⟩ hS3 R hR
       rw[List.getElem?_map] at hx
       obtain⟨y,hy,rfl⟩:=Option.map_eq_some_iff.mp hx
       have hyr:=hos.2 y (List.mem_of_getElem? hy)
       walk_at "dm"
       refine⟨_,hS3.seq (SqL.of hH1'),_,ke hyr.1 (by rw[hws.len];omega),?_⟩
       have e:os.getD k 0=y:=by rw[List.getD_eq_getElem?_getD,hy];rfl
       have:=hR [some (V.int y),some (V.ref l1)] ⟨_,rfl⟩
       rw[e] at this
       exact this
     · have e:(List.range (os.map V.int).length).map (fun k=>V.str (e7 ws (os.getD k 0)))=(os.map (e7 ws)).map V.str:=by
         rw[List.map_map]
         refine dP _ os _ _ (by rw[List.length_map]) fun k x hx=>?_
         rw[List.getD_eq_getElem?_getD,hx]
         rfl
       rw[e]
       refine⟨by omega,fun t ht=>?_⟩
       have ht2:H2 t=none:=(ae.updN hD).free ht
       have htp:t≠p:=fun e=>by rw[e,hp2] at ht2;cases ht2
       have htD:D≠t:=fun e=>by rw[←e,ad] at ht;cases ht
       have S3:ae H2 (upd (upd H2 D (.lst ((os.map (e7 ws)).map V.str))) t (.tup [.str tt,.ref D])):=(ae.updN hD).step ht2
       refine⟨_,S3 _ _ hp2,by rw[List.length_map];omega,⟨_,rfl⟩,((hS.trans S2).trans S3).step hp,ps++[t],?_,?_,bs++[(tt,os.map (e7 ws))],?_,?_,?_,?_⟩
       · rw[ad,List.map_append];rfl
       · rw[List.length_append,hpl];rfl
       · rw[List.length_append,hbl];rfl
       · intro j r b hr hb
         rw[d7]
         by_cases hj:j < i
         · rw[List.getElem?_append_left (by omega)] at hr hb
           exact ae.bthAt (ae.hide (S2.trans S3)) (hB j r b hr hb)
         · have hj2:j=i:=by
             have:=(List.getElem?_eq_some_iff.mp hr).1
             rw[List.length_append,hpl] at this
             simp only[List.length_singleton] at this
             omega
           subst hj2
           rw[List.getElem?_append_right (by omega),hpl,Nat.sub_self] at hr
           rw[List.getElem?_append_right (by omega),hbl,Nat.sub_self] at hb
           cases hr
           cases hb
           refine⟨D,?_,?_⟩
           · rw[bP htp];exact ad
           · rw[bP hDp,ag htD];exact ad
       · rw[List.map_append,hT,List.take_add_one,htt];rfl
       · intro b hb
         rcases List.mem_append.mp hb with hb | hb
         · exact hO b hb
         · rw[List.mem_singleton.mp hb]
           refine⟨by rw[List.length_map];exact hos.1,fun x hx=>?_⟩
           obtain⟨y,hy,rfl⟩:=List.mem_map.mp hx
           exact jC (hos.2 y hy).1 (hos.2 y hy).2 (by rw[hws.len];omega)
   · rintro σ H' ⟨ps,bs,o7,o8,o9,rfl,hS,hH,hpl,hbl,hB,hT,hO⟩
     have en:((c:Int)).toNat=c:=by omega
     rw[en] at hpl hbl hT
     walk_at "dm"
     obtain⟨spare,hsp⟩:∃ x,ws[n]?=some x:=⟨_,List.getElem?_eq_getElem (by rw[hws.len];omega)⟩
     obtain⟨other,hot⟩:∃ x,ts[c]?=some x:=⟨_,List.getElem?_eq_getElem (by rw[hts.len];omega)⟩
     refine⟨_,SqL.of (hS _ _ hH1),fun l hl=>?_⟩
     rw[sI (by rw[hws.len];omega)]
     have Sl:ae H' (upd H' l (.lst ((ws.take n).map V.str))):=ae.updN hl
     refine⟨_,SqL.of (Sl _ _ (hS _ _ hH1)),_,dj hsp,_,SqL.of (Sl _ _ (hS _ _ hH2)),_,dj hot,by omega,fun t ht=>?_⟩
     have St:=Sl.step (o:=.tup [.ref l,.ref p,.str spare,.str other]) (Sl.free ht)
     have hlt:l≠t:=fun e=>by rw[←e,ad] at ht;cases ht
     have htn:(ts.take c).Nodup:=hts.nd.sublist (List.take_sublist _ _)
     refine q t l p (ws.take n) bs spare other _ ((S1.trans hS).trans St) ad ((S1.trans hS).free hl) (by rw[ag hlt];exact ad) (S1.free hp) ⟨ps,St _ _ hH,by omega,fun j r b hr hb=>ae.bthAt (cz.trans St) (hB j r b hr hb)⟩ ⟨?_,?_,?_,?_,?_,?_,?_,?_,?_,?_,?_⟩ ?_ hbl ?_ ?_ ?_ ?_
     · rw[List.length_take,hws.len];omega
     · rw[List.length_take,hws.len];omega
     · exact hws.nd.sublist (List.take_sublist _ _)
     · exact fun x hx=>(hws.nm x (List.mem_of_mem_take hx)).good
     · exact fun x hx=>(hws.nm x (List.mem_of_mem_take hx)).shw
     · omega
     · rw[hT];exact htn
     · intro b hb
       exact(hts.nm b.1 (List.mem_of_mem_take (by rw[←hT];exact List.mem_map_of_mem hb))).good
     · intro b hb
       exact(hts.nm b.1 (List.mem_of_mem_take (by rw[←hT];exact List.mem_map_of_mem hb))).shw
     · intro b hb
       rw[(hO b hb).1,List.length_take,hws.len];omega
     · exact fun b hb=>(hO b hb).2
     · rw[List.length_take,hws.len];omega
     · exact hws.nm _ (List.mem_of_getElem? hsp)
     · exact jm hws.nd hsp
     · exact hts.nm _ (List.mem_of_getElem? hot)
     · rw[hT];exact jm hts.nd hot
end

section
variable {P:Program}{w:World}{K:PySem.W.Frag}{mg:Str→Option Value}{base:Heap}
def pH (K:PySem.W.Frag):Sp:=fun vs H Q _=>∃ (a:Addr)(ns:List Int),vs=[.ref a]∧SqL K H a (ns.map V.int) ∧
 ∀ p l lb (ss:List Str)(bs:List (Str×List Str)) (spare other:Str) H',ae H H'→H' p=some (.tup [.ref l,.ref lb,.str spare,.str other])→H l=none→H' l=some (.lst (ss.map V.str))→H lb=none→ik H' lb bs→aR ss bs →
   Nm spare→spare∉ss→Nm other→other∉bs.map (·.1)→Q (.ref p) H'
theorem uh:aG ["_law_script"] ["_law_script"] (af iJ):=⟨rfl,rfl,rfl,by decide +kernel,rfl,by decide +kernel,by decide +kernel⟩
theorem tM {f fA fS:Addr}{fd fdA fdS:FuncData}(F:Fun K "_law_drawn" "_law_drawn" iJ f fd)(GA:au P w K mg base CX0 1 fA fdA pAt (nU K))(kA:PySem.W.keepIn K (.ref fA)=true)(bA:aE K fdA pAt [])(mA:mg "_law_at"=some (.ref fA))
   (GS:au P w K mg base CX0 4 fS fdS l0 (pe K))(kS:PySem.W.keepIn K (.ref fS)=true)(bS:aE K fdS l0 [])(mS:mg "_law_sized"=some (.ref fS)) :
   au P w K mg base CX0 5 f fd ["_law_script"] (pH K):=by
 refine F.ok uh (fun vs H Q E h=>?_) (fun cdv A outer s H vs Q E hr h=>?_)
 · obtain⟨_,_,rfl,_⟩:=h
   rfl
 · obtain⟨a,ns,rfl,ha,q⟩:=h
   have hr1:=hr.mono (j:=1) (by omega)
   refine⟨_,ai (az (ay GS hr rfl mS kS bS .nil aZ (aa (pv 0) (aa (aH b9 aj (aH bK (ay GA hr1 rfl mA kA bA .nil aZ (aa (pv 0) (aa aj ac))) aj)) (aa (aH bK (ay GA hr1 rfl mA kA bA .nil aZ (aa (pv 0) (aa aj ac))) aj) ac))))),?_⟩
   walk_at "dm"
   refine dF ha (by decide) ⟨_,rfl,by decide,dF ha (by decide) ⟨_,rfl,by decide,a,ns,(1+atL ns 0 % 12).toNat,(atL ns 1 % 9).toNat,?_,ha,by omega,by omega,by omega,fun p l lb ss bs spare other H' h1 h2 h3 h4 h5 h6 h7 _ _ h8 h9 h10 h11=>q p l lb ss bs spare other H' h1 h2 h3 h4 h5 h6 h7 h8 h9 h10 h11⟩⟩
   rw[Int.toNat_of_nonneg (by omega),Int.toNat_of_nonneg (by omega)]
end

section
variable {P:Program}{w:World}{K:PySem.W.Frag}{mg:Str→Option Value}{base:Heap}
theorem gy (k:Str)(ks:List Str) (v:V)(vs:List V):bj (k::ks) (v::vs)=(Sum.inr k,v)::bj ks vs:=rfl
theorem cT:∀ (ks:List Str)(vs:List V) (i:Nat) (k:Str) (v:V),ks.Nodup→ks[i]?=some k→vs[i]?=some v→bZ (bj ks vs) (Sum.inr k)=some v
 | [],_,_,_,_,_,h,_=>by simp at h
 | _::_,[],_,_,_,_,_,h=>by simp at h
 | k0::ks,v0::vs,0,k,v,hd,h1,h2=>by
   cases h1
   cases h2
   rw[gy]
   exact cF rfl
 | k0::ks,v0::vs,i+1,k,v,hd,h1,h2=>by
   have h1':ks[i]?=some k:=h1
   have h2':vs[i]?=some v:=h2
   have hm:k∈ks:=List.mem_of_getElem? h1'
   have hne:k0≠k:=fun e=>(List.nodup_cons.mp hd).1 (by rw[e];exact hm)
   rw[gy,cw (fun e=>hne (Sum.inr.inj e))]
   exact cT ks vs i k v (List.nodup_cons.mp hd).2 h1' h2'
theorem bM:∀ (ks:List Str)(vs:List V) (k:Str),k∉ks→bZ (bj ks vs) (Sum.inr k)=none
 | [],_,_,_=>rfl
 | _::_,[],_,_=>rfl
 | k0::ks,v0::vs,k,h=>by
   rw[gy,cw (fun e=>h (by rw[←Sum.inr.inj e];exact List.mem_cons_self))]
   exact bM ks vs k (fun hm=>h (List.mem_cons_of_mem _ hm))
theorem ez {ks:List Str}{vs:List V} (k:Str) (v:V)(h:ks.length=vs.length):bj (ks++[k]) (vs++[v])=bj ks vs++[(Sum.inr k,v)]:=by
 unfold bj
 rw[List.map_append,List.zip_append (by rw[List.length_map];exact h)]
 rfl
theorem eO {ks:List Str}{vs:List V}(h:ks.length=vs.length):(bj ks vs).length=ks.length:=by
 unfold bj
 rw[List.length_zip,List.length_map,h];simp
theorem gI {ks:List Str}{vs:List V}(h:ks.length=vs.length):(bj ks vs).map (·.1)=ks.map Sum.inr:=by
 unfold bj
 rw[List.map_fst_zip (by rw[List.length_map];omega)]
def hJ (ss:List Str)(b:Str×List Str):List (Key×V):=bj ss (b.2.map V.str)
def ms (H:Hp)(d:Addr)(ss:List Str)(bs:List (Str×List Str)):Prop :=
 ∃ ds:List Addr,Rd H d (.dK (bj (bs.map (·.1)) (ds.map V.ref)))∧ds.length=bs.length∧∀ (i:Nat) r b,ds[i]?=some r→bs[i]?=some b→Rd H r (.dK (hJ ss b))
theorem ae.rd {H H':Hp}{a:Addr}{o:HO}(S:ae H H')(h:Rd H a o):Rd H' a o:=by
 rcases h with h | ⟨u,h⟩
 · exact .inl (S _ _ h)
 · exact .inr ⟨u,S _ _ h⟩
theorem ae.tabs {H H':Hp}{d:Addr}{ss:List Str}{bs:List (Str×List Str)}(S:ae H H')(h:ms H d ss bs):ms H' d ss bs:=by
 obtain⟨ds,h1,h2,h3⟩:=h
 exact⟨ds,ae.rd S h1,h2,fun i r b hr hb=>ae.rd S (h3 i r b hr hb)⟩
theorem bH {α:Type}{l:List α}{i:Nat}{x:α}(h:l[i]?=some x):l.take (i+1)=l.take i++[x]:=by rw[List.take_add_one,h];rfl
theorem gg {l:List Str}{i:Nat}{x:Str}(hd:l.Nodup)(h:l[i]?=some x):x∉l.take i:=jm hd h
theorem gj:aG ["_law_shades", "_law_baths", "_law_tables_here", "_law_title", "_law_outs_here", "_law_k"] ["_law_shades", "_law_baths"] (af fw):=⟨rfl,rfl,rfl,by decide +kernel,rfl,by decide +kernel,by decide +kernel⟩
end

section
variable {P:Program}{w:World}{K:PySem.W.Frag}{mg:Str→Option Value}{base:Heap}
structure rp (mg:Str→Option Value):Prop where
 mostS:∃ t,mg "MOST_SHADES"=some (.int 12 t)
 mostB:∃ t,mg "MOST_BATHS"=some (.int 8 t)
theorem pj:∀ (l acc:List Str),(acc++l).Nodup→l.foldl eR acc=acc++l
 | [],acc,_=>by simp
 | x::l,acc,h=>by
   have hx:x∉acc:=fun hm=>(List.nodup_append.mp h).2.2 x hm x List.mem_cons_self rfl
   have e:eR acc x=acc++[x]:=by unfold eR;rw[if_neg hx]
   rw[List.foldl_cons,e,pj l (acc++[x]) (by rw[List.append_assoc];exact h),List.append_assoc]
   rfl
theorem pJ {l:List Str}(h:l.Nodup):ee l=l:=by unfold ee;rw[pj l [] h];rfl
theorem tf {z:Str}(h:cq z=true):z.length≤8:=by
 unfold cq at h
 rw[Bool.and_eq_true,Bool.and_eq_true] at h
 exact of_decide_eq_true h.1.2
def jS (K:PySem.W.Frag):Sp:=fun vs H Q _=>∃ (l:Addr)(ws:List Str),vs=[.ref l]∧SqL K H l (ws.map V.str)∧ws.length≤100∧ws.Nodup∧(∀ x∈ws,cq x=true)∧∀ H',ae H H'→Q .non H'
theorem im:aG ["texts", "text"] ["texts"] (af fE):=⟨rfl,rfl,rfl,by decide +kernel,rfl,by decide +kernel,by decide +kernel⟩
theorem qJ {f fG:Addr}{fd fdG:FuncData}(F:Fun K "check_names" "check_names" fE f fd)(T:Txt mg)(GG:au P w K mg base CX0 1 fG fdG ["text"] l4)(kG:PySem.W.keepIn K (.ref fG)=true)(bG:aE K fdG ["text"] [])(mG:mg "good_name"=some (.ref fG)) :
   au P w K mg base CX0 2 f fd ["texts"] (jS K):=by
 refine F.ok im (fun vs H Q E h=>?_) (fun cdv A outer s H vs Q E hr h=>?_)
 · obtain⟨_,_,rfl,_⟩:=h
   rfl
 · obtain⟨l,ws,rfl,hl,hlen,hnd,hnm,q⟩:=h
   refine⟨_,aq (bu PassesOwn.never rfl (br (pv 0)) (ap (i:=1) im.nd rfl (Or.inl rfl))
       (ai (aV (cM (cE (ay GG hr rfl mG kG bG .nil aZ (aa (pv 1) ac)))) dh ar)))
     (ai (aV (ax lg (al kC (by rfl) T.len PySem.boot_len (aa (bw (nP rfl) (by rfl) T.set (by decide +kernel) (aa (pv 0) ac)) ac)) (al ao (by rfl) T.len PySem.boot_len (aa (pv 0) ac)) (aK _)) dh ar)),?_⟩
   have hs:=bi
   walk_at "dm"
   refine⟨⟨_,hl⟩,?_⟩
   refine bE (H0:=H) (aJ hl) (fun i σ' H'=>∃ o,σ'=[some (.ref l),o]∧ae H H') ⟨none,rfl,ae.refl H⟩ (fun _ _ _ _ ⟨_,_,h⟩=>h) ?_ ?_
   · rintro i x σ H' hi hx ⟨o,rfl,hS⟩
     rw[List.getElem?_map] at hx
     obtain⟨z,hz,rfl⟩:=Option.map_eq_some_iff.mp hx
     have hzm:=hnm z (List.mem_of_getElem? hz)
     have h8:=tf hzm
     walk_at "dm"
     refine⟨z,rfl,by omega,fun H2 S2=>?_⟩
     rw[hzm]
     exact⟨_,rfl,hS.trans S2⟩
   · rintro σ H' ⟨o,rfl,hS⟩
     walk_at "dm"
     refine⟨_,hS.seq hl,by omega,fun p hp=>⟨_,ad,_,.inl ((hS.step (hS.free hp)).seq hl),rfl,?_⟩⟩
     rw[List.length_map,pJ hnd]
     refine aY (fun h=>absurd rfl h) (fun _=>q _ (hS.step (hS.free hp)))
def k8 (K:PySem.W.Frag):Sp:=fun vs H Q _=>∃ (l:Addr)(ws:List Str),vs=[.ref l]∧SqL K H l (ws.map V.str)∧1≤ws.length∧ws.length≤12∧ws.Nodup∧(∀ x∈ws,cq x=true)∧∀ H',ae H H'→Q .non H'
theorem lh:aG ["shades"] ["shades"] (af eU):=⟨rfl,rfl,rfl,by decide +kernel,rfl,by decide +kernel,by decide +kernel⟩
theorem nZ {f fG:Addr}{fd fdG:FuncData}(F:Fun K "check_shades" "check_shades" eU f fd)(T:Txt mg)(TB:rp mg)(GG:au P w K mg base CX0 2 fG fdG ["texts"] (jS K))(kG:PySem.W.keepIn K (.ref fG)=true)(bG:aE K fdG ["texts"] [])(mG:mg "check_names"=some (.ref fG)) :
   au P w K mg base CX0 3 f fd ["shades"] (k8 K):=by
 refine F.ok lh (fun vs H Q E h=>?_) (fun cdv A outer s H vs Q E hr h=>?_)
 · obtain⟨_,_,rfl,_⟩:=h
   rfl
 · obtain⟨l,ws,rfl,hl,hlen1,hlen,hnd,hnm,q⟩:=h
   obtain⟨tg,hms⟩:=TB.mostS
   refine⟨_,aq (aV (ax iV (al ao (by rfl) T.len PySem.boot_len (aa (pv 0) ac)) aj (aK _)) dh ar)
     (aq (aV (ax gh (al ao (by rfl) T.len PySem.boot_len (aa (pv 0) ac)) (df (v:=.int 12) rfl hms ⟨_,rfl⟩) (aK _)) dh ar)
     (ai (aW (ay GG hr rfl mG kG bG .nil aZ (aa (pv 0) ac))))),?_⟩
   have hs:=bi
   walk_at "dm"
   refine⟨_,.inl hl,?_⟩
   rw[List.length_map]
   refine aY (fun h=>absurd h (by omega)) (fun _=>⟨_,.inl hl,?_⟩)
   rw[List.length_map]
   refine aY (fun h=>absurd h (by omega)) (fun _=>⟨l,ws,rfl,hl,by omega,hnd,hnm,q⟩)
def pL (K:PySem.W.Frag):Sp:=fun vs H Q _=>∃ (l lo:Addr)(ss os:List Str),vs=[.ref l,.ref lo]∧SqL K H l (ss.map V.str)∧SqL K H lo (os.map V.str)∧os.length=ss.length∧ss.length≤100∧(∀ x∈os,x∈ss)∧∀ H',ae H H'→Q .non H'
theorem jh:aG ["shades", "outs", "shade"] ["shades", "outs"] (af gW):=⟨rfl,rfl,rfl,by decide +kernel,rfl,by decide +kernel,by decide +kernel⟩
theorem sY {f:Addr}{fd:FuncData}(F:Fun K "check_outs" "check_outs" gW f fd)(T:Txt mg) :
   au P w K mg base CX0 1 f fd ["shades", "outs"] (pL K):=by
 refine F.ok jh (fun vs H Q E h=>?_) (fun cdv A outer s H vs Q E hr h=>?_)
 · obtain⟨_,_,_,_,rfl,_⟩:=h
   rfl
 · obtain⟨l,lo,ss,os,rfl,hl,hlo,hlen,hlen2,hin,q⟩:=h
   refine⟨_,aq (aV (ax lg (al ao (by rfl) T.len PySem.boot_len (aa (pv 1) ac)) (al ao (by rfl) T.len PySem.boot_len (aa (pv 0) ac)) (aK _)) dh ar)
     (ai (bu PassesOwn.never rfl (br (pv 1)) (ap (i:=2) jh.nd rfl (Or.inl rfl))
       (ai (aV (ax bV (pv 2) (pv 0) (by with_unfolding_all rfl)) dh ar)))),?_⟩
   have hs:=bi
   walk_at "dm"
   refine⟨_,.inl hlo,_,.inl hl,rfl,?_⟩
   rw[List.length_map,List.length_map]
   refine aY (fun h=>absurd (by rw[hlen]) h) (fun _=>⟨⟨_,hlo⟩,?_⟩)
   refine bE (H0:=H) (aJ hlo) (fun i σ' H'=>∃ o,σ'=[some (.ref l),some (.ref lo),o]∧H'=H) ⟨none,rfl,rfl⟩ (fun _ _ _ _ ⟨_,_,h⟩=>by rw[h];exact ae.refl _) ?_ ?_
   · rintro i x σ H' hi hx ⟨o,rfl,rfl⟩
     rw[List.getElem?_map] at hx
     obtain⟨z,hz,rfl⟩:=Option.map_eq_some_iff.mp hx
     walk_at "dm"
     refine⟨_,.inl hl,rfl,cj ss,?_⟩
     rw[cW,decide_eq_true (hin z (List.mem_of_getElem? hz))]
     exact⟨_,rfl⟩
   · rintro σ H' ⟨o,rfl,rfl⟩
     exact q _ (ae.refl _)
def m7 (K:PySem.W.Frag):Sp:=fun vs H Q _=>∃ (l lb:Addr)(ss:List Str)(bs:List (Str×List Str)),vs=[.ref l,.ref lb]∧SqL K H l (ss.map V.str)∧ik H lb bs∧aR ss bs∧∀ H',ae H H'→Q .non H'
theorem e8:aG ["shades", "baths", "name", "outs"] ["shades", "baths"] (af fq):=⟨rfl,rfl,rfl,by decide +kernel,rfl,by decide +kernel,by decide +kernel⟩
theorem q0 {f fG fO:Addr}{fd fdG fdO:FuncData}(F:Fun K "check_baths" "check_baths" fq f fd)(T:Txt mg)(TB:rp mg)(GG:au P w K mg base CX0 2 fG fdG ["texts"] (jS K))(kG:PySem.W.keepIn K (.ref fG)=true)(bG:aE K fdG ["texts"] [])(mG:mg "check_names"=some (.ref fG))
   (GO:au P w K mg base CX0 1 fO fdO ["shades", "outs"] (pL K))(kO:PySem.W.keepIn K (.ref fO)=true)(bO:aE K fdO ["shades", "outs"] [])(mO:mg "check_outs"=some (.ref fO)) :
   au P w K mg base CX0 3 f fd ["shades", "baths"] (m7 K):=by
 refine F.ok e8 (fun vs H Q E h=>?_) (fun cdv A outer s H vs Q E hr h=>?_)
 · obtain⟨_,_,_,_,rfl,_⟩:=h
   rfl
 · obtain⟨l,lb,ss,bs,rfl,hl,⟨ps,hlb,hpl,hB⟩,B,q⟩:=h
   obtain⟨tg,hms⟩:=TB.mostB
   have hr1:=hr.mono (j:=1) (by omega)
   refine⟨_,aq (aV (ax gh (al ao (by rfl) T.len PySem.boot_len (aa (pv 1) ac)) (df (v:=.int 8) rfl hms ⟨_,rfl⟩) (aK _)) dh ar)
     (ak (aW (ay GG hr rfl mG kG bG .nil aZ (aa (er (N':=["name", "outs"]) (pk:=[none,none]) rfl (cV.of (by rfl)) (br (pv 1)) (fun s H ex=>(dS (n:=2) rfl (aX (ap (i:=0) (by show(["name", "outs"]:List Str).Nodup;decide +kernel) rfl (Or.inl rfl)) (aX (ap (i:=1) (by show(["name", "outs"]:List Str).Nodup;decide +kernel) rfl (Or.inl rfl)) dm)):PG _ _ (ng K 2 (dq (cP 0) (dq (cP 1) me)))))
         (fun s H ex=>pv 0)) ac)))
     (ai (bu PassesOwn.never rfl (br (pv 1)) (dS (n:=2) rfl (aX (ap (i:=2) e8.nd rfl (Or.inl rfl)) (aX (ap (i:=3) e8.nd rfl (Or.inl rfl)) dm)))
       (ai (aW (ay GO hr1 rfl mO kO bO .nil aZ (aa (pv 0) (aa (pv 3) ac)))))))),?_⟩
   have hs:=bi
   walk_at "dm"
   have hb8:=B.b8
   have hs12:=B.s12
   refine⟨_,.inl (SqL.of hlb),?_⟩
   rw[List.length_map]
   refine aY (fun h=>absurd h (by omega)) (fun _=>?_)
   refine cut (fun σ' H'=>σ'=[some (.ref l),some (.ref lb),none,none]∧ae H H') ?_ ?_
   · walk_at "dm"
     refine⟨⟨_,SqL.of hlb⟩,fun D hD=>?_⟩
     refine dg (aJ (SqL.of hlb)) (by rw[List.length_map];omega) hD (fun σ=>∃ o1 o2,σ=[o1,o2]) (fun k=>V.str (bs.getD k (⟨#[]⟩,[])).1) ⟨none,none,rfl⟩ ?_ ?_
     · rintro k x σ' H3 hk hx ⟨o1,o2,rfl⟩ hS3 R hR
       rw[List.getElem?_map] at hx
       obtain⟨y,hy,rfl⟩:=Option.map_eq_some_iff.mp hx
       obtain⟨b,hb⟩:∃ b,bs[k]?=some b:=⟨_,List.getElem?_eq_getElem (by rw[List.length_map] at hk;omega)⟩
       obtain⟨lo,ht,hlo⟩:=hB k y b hy hb
       refine e6 (hS3 _ _ ht) ?_
       walk_at "dm"
       have e:(bs.getD k (⟨#[]⟩,[]))=b:=by rw[List.getD_eq_getElem?_getD,hb];rfl
       have:=hR [some (V.str b.1),some (V.ref lo)] ⟨_,_,rfl⟩
       rw[e] at this
       exact this
     · have e:(List.range (ps.map V.ref).length).map (fun k=>V.str (bs.getD k (⟨#[]⟩,[])).1)=(bs.map (·.1)).map V.str:=by
         rw[List.map_map]
         refine dP _ bs _ _ (by rw[List.length_map,hpl]) fun k x hx=>?_
         rw[List.getD_eq_getElem?_getD,hx]
         rfl
       rw[e]
       refine⟨D,bs.map (·.1),rfl,SqL.of ad,by rw[List.length_map];omega,B.bnd,fun x hx=>?_,fun H' S'=>(ae.updN hD).trans S'⟩
       obtain⟨b,hb,rfl⟩:=List.mem_map.mp hx
       exact B.bnm b hb
   rintro σ1 H1 ⟨rfl,S1⟩
   walk_at "dm"
   refine⟨⟨_,SqL.of (S1 _ _ hlb)⟩,?_⟩
   refine bE (H0:=H) (aJ (SqL.of hlb)) (fun i σ' H'=>∃ o2 o3,σ'=[some (.ref l),some (.ref lb),o2,o3]∧ae H H') ⟨none,none,rfl,S1⟩ (fun _ _ _ _ ⟨_,_,_,h⟩=>h) ?_ ?_
   · rintro i x σ H' hi hx ⟨o2,o3,rfl,hS⟩
     rw[List.getElem?_map] at hx
     obtain⟨y,hy,rfl⟩:=Option.map_eq_some_iff.mp hx
     obtain⟨b,hb⟩:∃ b,bs[i]?=some b:=⟨_,List.getElem?_eq_getElem (by rw[List.length_map] at hi;omega)⟩
     obtain⟨lo,ht,hlo⟩:=hB i y b hy hb
     have hbm:b∈bs:=List.mem_of_getElem? hb
     refine e6 (hS _ _ ht) ?_
     walk_at "dm"
     exact⟨l,lo,ss,b.2,rfl,hS.seq hl,SqL.of (hS _ _ hlo),B.bln b hbm,by omega,B.bin b hbm,fun H2 S2=>hS.trans S2⟩
   · rintro σ H' ⟨o2,o3,rfl,hS⟩
     exact q _ hS
end

section
variable {P:Program}{w:World}{K:PySem.W.Frag}{mg:Str→Option Value}{base:Heap}
def ck (H:Hp)(C x:Addr)(ss:List Str)(bs:List (Str×List Str)):Prop :=
 ∃ (dx t d:Addr)(so:List Str),H x=some (.ins C dx [("order",.ref t),("tables",.ref d)])∧H t=some (.tup (so.map V.str))∧so.Perm ss∧PyProof.Rows.sortedS so=true∧ms H d ss bs
theorem ae.book {H H':Hp}{C x:Addr}{ss:List Str}{bs:List (Str×List Str)}(S:ae H H')(h:ck H C x ss bs):ck H' C x ss bs:=by
 obtain⟨dx,t,d,so,h1,h2,h3,h4,h5⟩:=h
 exact⟨dx,t,d,so,S _ _ h1,S _ _ h2,h3,h4,ae.tabs S h5⟩
theorem pC {H:Hp}{x C dx l:Addr}{fs:List (Str×V)}{xs:List V}(hx:H x=some (.ins C dx fs))(h:SqL K H l xs):SqL K (hide H x) l xs:=by
 rcases h with (h | ⟨o,h⟩) | h
 · exact .inl (.inl (by rw[bP (fun e=>by rw[e,hx] at h;cases h)];exact h))
 · exact .inl (.inr ⟨o,by rw[bP (fun e=>by rw[e,hx] at h;cases h)];exact h⟩)
 · exact .inr h
theorem ky {H:Hp}{x C dx lb:Addr}{fs:List (Str×V)}{bs:List (Str×List Str)}(hx:H x=some (.ins C dx fs))(h:ik H lb bs):ik (hide H x) lb bs:=by
 obtain⟨ps,h1,h2,h3⟩:=h
 refine⟨ps,by rw[bP (fun e=>by rw[e,hx] at h1;cases h1)];exact h1,h2,fun i p b hp hb=>?_⟩
 obtain⟨o,e1,e2⟩:=h3 i p b hp hb
 exact⟨o,by rw[bP (fun e=>by rw[e,hx] at e1;cases e1)];exact e1,by rw[bP (fun e=>by rw[e,hx] at e2;cases e2)];exact e2⟩
theorem jZ {u:V}:dz (Str.ofString "order") u []=[(Str.ofString "order",u)]:=rfl
theorem i0 {u v:V}:dz (Str.ofString "tables") v [(Str.ofString "order",u)]=[(Str.ofString "order",u),(Str.ofString "tables",v)]:=by
 unfold dz
 rw[if_neg (by decide +kernel)]
 rfl
theorem gq {u v:V}:List.lookup (Str.ofString "order") [(Str.ofString "order",u),(Str.ofString "tables",v)]=some u:=by
 rw[List.lookup_cons,show(Str.ofString "order"==Str.ofString "order")=true by decide +kernel]
theorem dE {u v:V}:List.lookup (Str.ofString "tables") [(Str.ofString "order",u),(Str.ofString "tables",v)]=some v:=by
 rw[List.lookup_cons,show(Str.ofString "tables"==Str.ofString "order")=false by decide +kernel]
 show List.lookup _ [(Str.ofString "tables",v)]=some v
 rw[List.lookup_cons,show(Str.ofString "tables"==Str.ofString "tables")=true by decide +kernel]
theorem lz:∀ (ks:List Str)(vs:List V)(acc:List (Key×V)),ks.Nodup→(∀ k∈ks,bZ acc (Sum.inr k)=none)→cC acc (bj ks vs)=acc++bj ks vs
 | [],vs,acc,_,_=>by
   show cC acc []=acc++[]
   rw[List.append_nil];rfl
 | k::ks,[],acc,_,_=>by
   show cC acc []=acc++[]
   rw[List.append_nil];rfl
 | k::ks,v::vs,acc,hd,hn=>by
   rw[gy]
   show cC (cK acc (Sum.inr k) v) (bj ks vs)=_
   rw[dH _ (hn k List.mem_cons_self),lz ks vs _ (List.nodup_cons.mp hd).2 (fun y hy=>?_),List.append_assoc]
   · rfl
   · have hne:¬(Sum.inr y:Key)=Sum.inr k:=fun e=>(List.nodup_cons.mp hd).1 (by rw[←Sum.inr.inj e];exact hy)
     rw[iq _ _ _ _ (hn k List.mem_cons_self),if_neg hne]
     exact hn y (List.mem_cons_of_mem _ hy)
theorem fZ {ks:List Str}{vs:List V}(h:ks.Nodup):cC [] (bj ks vs)=bj ks vs:=by
 rw[lz ks vs [] h (fun _ _=>rfl)];rfl
def vL (K:PySem.W.Frag)(C:Addr):Sp:=fun vs H Q _=>∃ (x dx l lb:Addr)(ss:List Str)(bs:List (Str×List Str)),vs=[.ref x,.ref l,.ref lb]∧H x=some (.ins C dx [])∧SqL K H l (ss.map V.str)∧ik H lb bs∧aR ss bs ∧
 ∀ H',ae (hide H x) H'→ck H' C x ss bs→Q .non H'
theorem iH:aG ["self", "shades", "baths", "name", "outs"] ["self", "shades", "baths"] (af hU):=⟨rfl,rfl,rfl,by decide +kernel,rfl,by decide +kernel,by decide +kernel⟩
theorem tS {C f fS fB:Addr}{fd fdS fdB:FuncData}(F:Fun K "__init__" "Book.__init__" hU f fd)(T:Txt mg)(c:Cls K C)(nO:ca K C "order")(nT:ca K C "tables")
   (GS:au P w K mg base CX0 3 fS fdS ["shades"] (k8 K))(kS:PySem.W.keepIn K (.ref fS)=true)(bS:aE K fdS ["shades"] [])(mS:mg "check_shades"=some (.ref fS))
   (GB:au P w K mg base CX0 3 fB fdB ["shades", "baths"] (m7 K))(kB:PySem.W.keepIn K (.ref fB)=true)(bB:aE K fdB ["shades", "baths"] [])(mB:mg "check_baths"=some (.ref fB)) :
   au P w K mg base CX0 4 f fd ["self", "shades", "baths"] (vL K C):=by
 refine F.ok iH (fun vs H Q E h=>?_) (fun cdv A outer s H vs Q E hr h=>?_)
 · obtain⟨_,_,_,_,_,_,rfl,_⟩:=h
   rfl
 · obtain⟨x,dx,l,lb,ss,bs,rfl,hx,hl,hb,B,q⟩:=h
   have hu:(cJ CX0 P w K mg base ["self", "shades", "baths", "name", "outs"] "Book.__init__" (af hU) f cdv A outer s H E).A.units+1 < cLine:=by
     have:=hr.units
     exact Nat.lt_of_le_of_lt (Nat.add_le_add_left (by decide) _) this
   refine⟨_,ak (aW (ay GS hr rfl mS kS bS .nil aZ (aa (pv 1) ac)))
     (ak (aW (ay GB hr rfl mB kB bB .nil aZ (aa (pv 1) (aa (pv 2) ac))))
     (ak (eZ (pv 0) (bw gP (by rfl) T.tuple (by decide +kernel) (aa (al fu (by rfl) T.sorted (by decide +kernel) (aa (pv 1) ac)) ac)) rfl)
     (ak (eZ (pv 0) eN rfl)
     (ai (bu PassesOwn.never rfl (br (pv 2)) (dS (n:=2) rfl (aX (ap (i:=3) iH.nd rfl (Or.inl rfl)) (aX (ap (i:=4) iH.nd rfl (Or.inl rfl)) dm)))
       (ai (dY hu (cc (pv 0) rfl) (pv 3) (ju rfl (by rfl) T.dict (by rfl) T.zip (aa (pv 1) (aa (pv 4) ac))) rfl))))))),?_⟩
   have hs:=bi
   have hl0:=pC hx hl
   have hb0:=ky hx hb
   generalize hH0:hide H x=H0 at hl0 hb0 q
   have SH:ae H0 H:=by rw[←hH0];exact cz
   have hx0:H0 x=none:=by rw[←hH0];unfold hide;rw[if_pos rfl]
   refine cut (fun σ' H'=>σ'=[some (.ref x),some (.ref l),some (.ref lb),none,none]∧ae H H') ?_ ?_
   · walk_at "dm"
     exact⟨l,ss,rfl,hl,B.s1,B.s12,B.snd,B.snm,fun H' S'=>S'⟩
   rintro σ1 H1 ⟨rfl,S1⟩
   refine cut (fun σ' H'=>σ'=[some (.ref x),some (.ref l),some (.ref lb),none,none]∧ae H H') ?_ ?_
   · walk_at "dm"
     exact⟨l,lb,ss,bs,rfl,S1.seq hl,ae.bths S1 hb,B,fun H' S'=>S1.trans S'⟩
   rintro σ2 H2 ⟨rfl,S2⟩
   have hs12:=B.s12
   refine cut (fun σ' H'=>∃ t so,σ'=[some (.ref x),some (.ref l),some (.ref lb),none,none]∧ae H0 H'∧H' x=some (.ins C dx [("order",.ref t)])∧H' t=some (.tup (so.map V.str))∧so.Perm ss∧PyProof.Rows.sortedS so=true) ?_ ?_
   · walk_at "dm"
     have S02:ae H0 H2:=SH.trans S2
     have hx2:=S2 _ _ hx
     refine⟨ss,S2.seq hl,by omega,fun p so hp hpm hso=>⟨_,.inl ⟨SqL.of ad,fun t ht=>?_⟩⟩⟩
     have hxp:x≠p:=fun e=>by rw[←e,hx2] at hp;cases hp
     have ht2:H2 t=none:=(ae.updN hp).free ht
     have hxt:x≠t:=fun e=>by rw[←e,hx2] at ht2;cases ht2
     refine⟨C,dx,[],by rw[ag hxt,ag hxp];exact hx2,c,nO,by decide,((S02.step (S02.free hp)).step (S02.free ht2)).step hx0,t,by rw[ad,jZ],so,?_,hpm,hso⟩
     rw[ag (Ne.symm hxt)];exact ad
   rintro σ3 H3 ⟨t,so,rfl,S3,hx3,ht3,hpm,hso⟩
   refine cut (fun σ' H'=>∃ d,σ'=[some (.ref x),some (.ref l),some (.ref lb),none,none]∧H3 d=none∧H'=upd (upd H3 d (.dK [])) x (.ins C dx [("order",.ref t),("tables",.ref d)])) ?_ ?_
   · walk_at "dm"
     intro d hd
     have hxd:x≠d:=fun e=>by rw[←e,hx3] at hd;cases hd
     exact⟨C,dx,_,by rw[ag hxd];exact hx3,c,nT,by rw[List.length_singleton];decide,d,hd,by rw[i0]⟩
   rintro σ4 H4 ⟨d,rfl,hd3,rfl⟩
   have hxd:x≠d:=fun e=>by rw[←e,hx3] at hd3;cases hd3
   have htx:t≠x:=fun e=>by rw[e,hx3] at ht3;cases ht3
   have htd:t≠d:=fun e=>by rw[←e,ht3] at hd3;cases hd3
   have hd0:H0 d=none:=S3.free hd3
   obtain⟨ps,hlb,hpl,hB⟩:=hb0
   have hb8:=B.b8
   have S4:ae H0 (upd (upd H3 d (.dK [])) x (.ins C dx [("order",.ref t),("tables",.ref d)])):=(S3.step hd0).step hx0
   walk_at "dm"
   refine⟨⟨_,SqL.of (S4 _ _ hlb)⟩,?_⟩
   refine bE (H0:=H0) (aJ (SqL.of hlb)) (fun i σ' H'=>∃ (ds:List Addr)(o3 o4:Option V),σ'=[some (.ref x),some (.ref l),some (.ref lb),o3,o4]∧ae H0 H'∧H' x=some (.ins C dx [("order",.ref t),("tables",.ref d)])∧H' t=some (.tup (so.map V.str)) ∧
     H' d=some (.dK (bj ((bs.map (·.1)).take i) (ds.map V.ref)))∧ds.length=i∧∀ (j:Nat) r b,ds[j]?=some r→bs[j]?=some b→hide H' d r=some (.dK (hJ ss b)))
     ⟨[],none,none,rfl,S4,ad,(by rw[ag htx,ag htd];exact ht3),(by rw[ag (Ne.symm hxd)];exact ad),rfl,(by intro j r b h;simp at h)⟩ (fun _ _ _ _ ⟨_,_,_,_,h,_⟩=>h) ?_ ?_
   · rintro i y σ H' hi hy ⟨ds,o3,o4,rfl,hS,hHx,hHt,hHd,hdl,hD⟩
     rw[List.getElem?_map] at hy
     obtain⟨pr,hpr,rfl⟩:=Option.map_eq_some_iff.mp hy
     rw[List.length_map,hpl] at hi
     obtain⟨b,hb⟩:∃ b,bs[i]?=some b:=⟨_,List.getElem?_eq_getElem hi⟩
     obtain⟨lo,ht,hlo⟩:=hB i pr b hpr hb
     have hbm:b∈bs:=List.mem_of_getElem? hb
     have hk:(bs.map (·.1))[i]?=some b.1:=by rw[List.getElem?_map,hb];rfl
     have hnk:b.1∉(bs.map (·.1)).take i:=gg B.bnd hk
     have hln:((bs.map (·.1)).take i).length=(ds.map V.ref).length:=by rw[List.length_take,List.length_map,List.length_map,hdl];omega
     have hbl:b.2.length=ss.length:=B.bln b hbm
     refine e6 (hS _ _ ht) ?_
     walk_at "dm"
     refine⟨ss,hS.seq hl0,_,SqL.of (hS _ _ hlo),by rw[List.length_map];exact hbl.symm,by omega,fun r hr=>?_⟩
     rw[fZ B.snd]
     have hxr:x≠r:=fun e=>by rw[←e,hHx] at hr;cases hr
     have htr:t≠r:=fun e=>by rw[←e,hHt] at hr;cases hr
     have hrd:r≠d:=fun e=>by rw[e,hHd] at hr;cases hr
     refine⟨C,dx,_,by rw[ag hxr];exact hHx,c,nT,_,dE,d,rfl,_,.inl ⟨_,Sum.inr b.1,by rw[ag (Ne.symm hrd)];exact hHd,rfl,by rw[eO hln,List.length_take];omega,rfl⟩,(hS.step (hS.free hr)).step hd0,by rw[ag hxd,ag hxr];exact hHx,by rw[ag htd,ag htr];exact hHt,ds++[r],?_,by rw[List.length_append,hdl];rfl,fun j r2 b2 hr2 hb2=>?_⟩
     · rw[ad,dH _ (bM _ _ _ hnk),bH hk,List.map_append]
       exact congrArg (fun z=>some (HO.dK z)) (ez b.1 (V.ref r) hln).symm
     · rw[d7]
       by_cases hj:j < i
       · rw[List.getElem?_append_left (by omega)] at hr2
         exact ae.hide (ae.updN hr) _ _ (hD j r2 b2 hr2 hb2)
       · have hj2:j=i:=by
           have:=(List.getElem?_eq_some_iff.mp hr2).1
           rw[List.length_append,hdl] at this
           simp only[List.length_singleton] at this
           omega
         subst hj2
         rw[List.getElem?_append_right (by omega),hdl,Nat.sub_self] at hr2
         cases hr2
         rw[hb] at hb2
         cases hb2
         rw[bP hrd,ad]
         rfl
   · rintro σ H' ⟨ds,o3,o4,rfl,hS,hHx,hHt,hHd,hdl,hD⟩
     rw[List.length_map,hpl] at hHd hdl
     refine q H' hS ⟨dx,t,d,so,hHx,hHt,hpm,hso,ds,.inl ?_,hdl,fun j r b hr hb=>.inl (cz _ _ (hD j r b hr hb))⟩
     rw[hHd,List.take_of_length_le (by rw[List.length_map];exact Nat.le_refl _)]
end

section
variable {P:Program}{w:World}{K:PySem.W.Frag}{mg:Str→Option Value}{base:Heap}
def lkV (ss:List Str)(b:Str×List Str) (z:Str):Str:=match bZ (hJ ss b) (Sum.inr z) with
 | some (.str y)=>y
 | _=>⟨#[]⟩
theorem lF {ss:List Str}{b:Str×List Str}{z:Str}(hd:ss.Nodup)(hl:b.2.length=ss.length)(hz:z∈ss):bZ (hJ ss b) (Sum.inr z)=some (V.str (lkV ss b z)):=by
 obtain⟨i,hi⟩:=List.getElem?_of_mem hz
 have hil:i < b.2.length:=by rw[hl];exact(List.getElem?_eq_some_iff.mp hi).1
 have e:bZ (hJ ss b) (Sum.inr z)=some (V.str b.2[i]):=cT ss (b.2.map V.str) i z _ hd hi (by rw[List.getElem?_map,List.getElem?_eq_getElem hil];rfl)
 unfold lkV
 rw[e]
theorem ms.get {H:Hp}{d:Addr}{ss:List Str}{bs:List (Str×List Str)}(B:aR ss bs)(h:ms H d ss bs){b:Str×List Str}(hb:b∈bs):∃ r,iP H d (.str b.1) (some (.ref r))∧Rd H r (.dK (hJ ss b)):=by
 obtain⟨ds,h1,h2,h3⟩:=h
 obtain⟨i,hi⟩:=List.getElem?_of_mem hb
 have hil:i < ds.length:=by rw[h2];exact(List.getElem?_eq_some_iff.mp hi).1
 have hr:=List.getElem?_eq_getElem hil
 refine⟨ds[i],.inl ⟨_,Sum.inr b.1,h1,rfl,?_⟩,h3 i _ b hr hi⟩
 exact(cT _ _ i _ _ B.bnd (by rw[List.getElem?_map,hi];rfl) (by rw[List.getElem?_map,hr];rfl)).symm
theorem cm {m:Str}{u v:V}(h1:(m==Str.ofString "order")=false)(h2:(m==Str.ofString "tables")=false):List.lookup m [(Str.ofString "order",u),(Str.ofString "tables",v)]=none:=by
 rw[List.lookup_cons,h1]
 show List.lookup m [(Str.ofString "tables",v)]=none
 rw[List.lookup_cons,h2]
 rfl
def jD (C:Addr):Sp:=fun vs H Q _=>∃ (x:Addr)(ss:List Str)(bs:List (Str×List Str))(b:Str×List Str),vs=[.ref x,.str b.1]∧ck H C x ss bs∧aR ss bs∧b∈bs∧Q .non H
theorem m8:aG ["self", "bath"] ["self", "bath"] (af ej):=⟨rfl,rfl,rfl,by decide +kernel,rfl,by decide +kernel,by decide +kernel⟩
theorem qE {C f:Addr}{fd:FuncData}(F:Fun K "check_bath" "Book.check_bath" ej f fd)(c:Cls K C)(nT:ca K C "tables"):au P w K mg base CX0 1 f fd ["self", "bath"] (jD C):=by
 refine F.ok m8 (fun vs H Q E h=>?_) (fun cdv A outer s H vs Q E hr h=>?_)
 · obtain⟨_,_,_,_,rfl,_⟩:=h
   rfl
 · obtain⟨x,ss,bs,b,rfl,⟨dx,t,d,so,h1,h2,h3,h4,h5⟩,B,hb,q⟩:=h
   have hu:(cJ CX0 P w K mg base ["self", "bath"] "Book.check_bath" (af ej) f cdv A outer s H E).A.units+1 < cLine:=by
     have:=hr.units
     exact Nat.lt_of_le_of_lt (Nat.add_le_add_left (by decide) _) this
   refine⟨_,ai (aV (dL (cU hu (pv 1) (cc (pv 0) rfl))) dh ar),?_⟩
   obtain⟨r,hg,hr⟩:=ms.get B h5 hb
   walk_at "dm"
   exact⟨C,dx,_,h1,c,nT,_,dE,d,rfl,_,hg,q⟩
def kH (C:Addr):Sp:=fun vs H Q _=>∃ (x:Addr)(ss:List Str)(bs:List (Str×List Str)),vs=[.ref x]∧ck H C x ss bs∧aR ss bs∧∀ l so,H l=none→so.Perm ss→PyProof.Rows.sortedS so=true→Q (.ref l) (upd H l (.lst (so.map V.str)))
theorem qp:aG ["self"] ["self"] (af fc):=⟨rfl,rfl,rfl,by decide +kernel,rfl,by decide +kernel,by decide +kernel⟩
theorem nS {C f:Addr}{fd:FuncData}(F:Fun K "shades" "Book.shades" fc f fd)(T:Txt mg)(c:Cls K C)(nO:ca K C "order"):au P w K mg base CX0 1 f fd ["self"] (kH C):=by
 refine F.ok qp (fun vs H Q E h=>?_) (fun cdv A outer s H vs Q E hr h=>?_)
 · obtain⟨_,_,_,rfl,_⟩:=h
   rfl
 · obtain⟨x,ss,bs,rfl,⟨dx,t,d,so,h1,h2,h3,h4,h5⟩,B,q⟩:=h
   refine⟨_,ai (az (bw fR (by rfl) T.list (by decide +kernel) (aa (cc (pv 0) rfl) ac))),?_⟩
   walk_at "dm"
   exact⟨C,dx,_,h1,c,nO,_,gq,t,rfl,_,.inr (SqT.of h2),fun l hl=>q l so hl h3 h4⟩
def jL (C:Addr):Sp:=fun vs H Q _=>∃ (x:Addr)(ss:List Str)(bs:List (Str×List Str)),vs=[.ref x]∧ck H C x ss bs∧aR ss bs∧∀ l ns,H l=none→ns.Perm (bs.map (·.1))→PyProof.Rows.sortedS ns=true→Q (.ref l) (upd H l (.lst (ns.map V.str)))
theorem rQ:aG ["self"] ["self"] (af gz):=⟨rfl,rfl,rfl,by decide +kernel,rfl,by decide +kernel,by decide +kernel⟩
theorem qC {C f:Addr}{fd:FuncData}(F:Fun K "baths" "Book.baths" gz f fd)(T:Txt mg)(c:Cls K C)(nT:ca K C "tables"):au P w K mg base CX0 1 f fd ["self"] (jL C):=by
 refine F.ok rQ (fun vs H Q E h=>?_) (fun cdv A outer s H vs Q E hr h=>?_)
 · obtain⟨_,_,_,rfl,_⟩:=h
   rfl
 · obtain⟨x,ss,bs,rfl,⟨dx,t,d,so,h1,h2,h3,h4,ds,h5,h6,h7⟩,B,q⟩:=h
   have hb8:=B.b8
   refine⟨_,ai (az (al (dG rfl) (by rfl) T.sorted (by decide +kernel) (aa (cc (pv 0) rfl) ac))),?_⟩
   walk_at "dm"
   refine⟨C,dx,_,h1,c,nT,_,dE,d,rfl,bs.map (·.1),_,h5,gI (by rw[List.length_map,List.length_map,h6]),by rw[List.length_map];omega,fun l ns hl hp hs=>q l ns hl hp hs⟩
def nE (C:Addr):Sp:=fun vs H Q _=>∃ (x:Addr)(ss:List Str)(bs:List (Str×List Str))(b:Str×List Str),vs=[.ref x,.str b.1]∧ck H C x ss bs∧aR ss bs∧b∈bs ∧
 ∀ l so,H l=none→so.Perm ss→PyProof.Rows.sortedS so=true→Q (.ref l) (upd H l (.lst ((so.map (lkV ss b)).map V.str)))
theorem sO:aG ["self", "bath"] ["self", "bath"] (af fU):=⟨rfl,rfl,rfl,by decide +kernel,rfl,by decide +kernel,by decide +kernel⟩
theorem rl {C f fC:Addr}{fd fdC:FuncData}(F:Fun K "table" "Book.table" fU f fd)(c:Cls K C)(nO:ca K C "order")(nT:ca K C "tables")
   (GC:au P w K mg base CX0 1 fC fdC ["self", "bath"] (jD C))(hmC:bW K C "check_bath" fC)(bC:aE K fdC ["self", "bath"] []):au P w K mg base CX0 2 f fd ["self", "bath"] (nE C):=by
 refine F.ok sO (fun vs H Q E h=>?_) (fun cdv A outer s H vs Q E hr h=>?_)
 · obtain⟨_,_,_,_,rfl,_⟩:=h
   rfl
 · obtain⟨x,ss,bs,b,rfl,hbk,B,hb,q⟩:=h
   have hu:(cJ CX0 P w K mg base ["self", "bath"] "Book.table" (af fU) f cdv A outer s H E).A.units+1 < cLine:=by
     have:=hr.units
     exact Nat.lt_of_le_of_lt (Nat.add_le_add_left (by decide) _) this
   refine⟨_,aq (aW (bq (pv 0) c hmC GC hr bC .nil aZ (aa (pv 1) ac)))
     (ai (az (er (N':=["shade", "self", "bath"]) (pk:=[none,some 0,some 1]) rfl (cV.of (by rfl)) (vz (cc (pv 0) rfl)) (fun s H ex=>ap (i:=0) (by show(["shade", "self", "bath"]:List Str).Nodup;decide +kernel) rfl (Or.inl rfl))
         (fun s H ex=>bn hu (bn hu ((cc (pv 1) rfl):PE _ _ (vV K (rn 1) "tables")) (pv 2) (fun _ _=>rfl)) (pv 0) (fun _ _=>rfl))))),?_⟩
   obtain⟨dx,t,d,so,h1,h2,h3,h4,h5⟩:=hbk
   have hs:=bi
   walk_at "dm"
   refine⟨dx,_,h1,cm (by decide +kernel) (by decide +kernel),x,ss,bs,b,rfl,⟨dx,t,d,so,h1,h2,h3,h4,h5⟩,B,hb,C,dx,_,h1,c,nO,_,gq,t,rfl,⟨_,SqT.of h2⟩,fun D hD=>?_⟩
   have hsl:so.length=ss.length:=h3.length_eq
   have hs12:=B.s12
   refine dg (oY (SqT.of h2)) (by rw[List.length_map];omega) hD (fun σ=>∃ o,σ=[o,some (.ref x),some (.str b.1)]) (fun k=>V.str (lkV ss b (so.getD k ⟨#[]⟩))) ⟨none,rfl⟩ ?_ ?_
   · rintro k y σ' H3 hk hy ⟨o,rfl⟩ hS3 R hR
     rw[List.getElem?_map] at hy
     obtain⟨z,hz,rfl⟩:=Option.map_eq_some_iff.mp hy
     have hzs:z∈ss:=h3.mem_iff.mp (List.mem_of_getElem? hz)
     obtain⟨r,hg,hr⟩:=ms.get B (ae.tabs hS3 h5) hb
     walk_at "dm"
     refine⟨C,dx,_,hS3 _ _ h1,c,nT,_,dE,d,rfl,_,hg,r,rfl,V.str (lkV ss b z),.inl ⟨_,Sum.inr z,hr,rfl,(lF B.snd (B.bln b hb) hzs).symm⟩,?_⟩
     have e:so.getD k ⟨#[]⟩=z:=by rw[List.getD_eq_getElem?_getD,hz];rfl
     have:=hR [some (V.str z),some (V.ref x),some (V.str b.1)] ⟨_,rfl⟩
     rw[e] at this
     exact this
   · have e:(List.range (so.map V.str).length).map (fun k=>V.str (lkV ss b (so.getD k ⟨#[]⟩)))=(so.map (lkV ss b)).map V.str:=by
       rw[List.map_map]
       refine dP _ so _ _ (by rw[List.length_map]) fun k y hy=>?_
       rw[List.getD_eq_getElem?_getD,hy]
       rfl
     rw[e]
     exact q D so hD h3 h4
end

section
variable {P:Program}{w:World}{K:PySem.W.Frag}{mg:Str→Option Value}{base:Heap}
def iw (C:Addr):Sp:=fun vs H Q _=>∃ (x:Addr)(ss:List Str)(bs:List (Str×List Str)) (z:Str),vs=[.ref x,.str z]∧ck H C x ss bs∧z∈ss∧Q .non H
theorem kq:aG ["self", "shade"] ["self", "shade"] (af eM):=⟨rfl,rfl,rfl,by decide +kernel,rfl,by decide +kernel,by decide +kernel⟩
theorem oy {C f:Addr}{fd:FuncData}(F:Fun K "check_shade" "Book.check_shade" eM f fd)(c:Cls K C)(nO:ca K C "order"):au P w K mg base CX0 1 f fd ["self", "shade"] (iw C):=by
 refine F.ok kq (fun vs H Q E h=>?_) (fun cdv A outer s H vs Q E hr h=>?_)
 · obtain⟨_,_,_,_,rfl,_⟩:=h
   rfl
 · obtain⟨x,ss,bs,z,rfl,⟨dx,t,d,so,h1,h2,h3,h4,h5⟩,hz,q⟩:=h
   refine⟨_,ai (aV (ax bV (pv 1) (cc (pv 0) rfl) (by with_unfolding_all rfl)) dh ar),?_⟩
   have hzo:z∈so:=h3.mem_iff.mpr hz
   walk_at "dm"
   refine⟨C,dx,_,h1,c,nO,_,gq,t,rfl,_,.inr (SqT.of h2),rfl,cj so,?_⟩
   rw[cW,decide_eq_true hzo]
   exact q
def og (C:Addr):Sp:=fun vs H Q _=>∃ (x:Addr)(ss:List Str)(bs:List (Str×List Str))(b:Str×List Str) (z:Str),vs=[.ref x,.str b.1,.str z]∧ck H C x ss bs∧aR ss bs∧b∈bs∧z∈ss∧Q (.str (lkV ss b z)) H
theorem vR:aG ["self", "bath", "shade"] ["self", "bath", "shade"] (af jI):=⟨rfl,rfl,rfl,by decide +kernel,rfl,by decide +kernel,by decide +kernel⟩
theorem uA {C f fC fS:Addr}{fd fdC fdS:FuncData}(F:Fun K "out" "Book.out" jI f fd)(c:Cls K C)(nT:ca K C "tables")
   (GC:au P w K mg base CX0 1 fC fdC ["self", "bath"] (jD C))(hmC:bW K C "check_bath" fC)(bC:aE K fdC ["self", "bath"] [])
   (GS:au P w K mg base CX0 1 fS fdS ["self", "shade"] (iw C))(hmS:bW K C "check_shade" fS)(bS:aE K fdS ["self", "shade"] []):au P w K mg base CX0 2 f fd ["self", "bath", "shade"] (og C):=by
 refine F.ok vR (fun vs H Q E h=>?_) (fun cdv A outer s H vs Q E hr h=>?_)
 · obtain⟨_,_,_,_,_,rfl,_⟩:=h
   rfl
 · obtain⟨x,ss,bs,b,z,rfl,hbk,B,hb,hz,q⟩:=h
   have hu:(cJ CX0 P w K mg base ["self", "bath", "shade"] "Book.out" (af jI) f cdv A outer s H E).A.units+1 < cLine:=by
     have:=hr.units
     exact Nat.lt_of_le_of_lt (Nat.add_le_add_left (by decide) _) this
   refine⟨_,aq (aW (bq (pv 0) c hmC GC hr bC .nil aZ (aa (pv 1) ac)))
     (aq (aW (bq (pv 0) c hmS GS hr bS .nil aZ (aa (pv 2) ac)))
     (ai (az (bn hu (bn hu (cc (pv 0) rfl) (pv 1) (fun _ _=>rfl)) (pv 2) (fun _ _=>rfl))))),?_⟩
   obtain⟨dx,t,d,so,h1,h2,h3,h4,h5⟩:=hbk
   obtain⟨r,hg,hr⟩:=ms.get B h5 hb
   walk_at "dm"
   refine⟨dx,_,h1,cm (by decide +kernel) (by decide +kernel),x,ss,bs,b,rfl,⟨dx,t,d,so,h1,h2,h3,h4,h5⟩,B,hb,dx,_,h1,cm (by decide +kernel) (by decide +kernel),x,ss,bs,z,rfl,⟨dx,t,d,so,h1,h2,h3,h4,h5⟩,hz,?_⟩
   exact⟨C,dx,_,h1,c,nT,_,dE,d,rfl,_,hg,r,rfl,_,.inl ⟨_,Sum.inr z,hr,rfl,(lF B.snd (B.bln b hb) hz).symm⟩,q⟩
end

section
variable {P:Program}{w:World}{K:PySem.W.Frag}{mg:Str→Option Value}{base:Heap}
theorem sM:aG ["_law_shades", "_law_baths"] ["_law_shades", "_law_baths"] (af gD):=⟨rfl,rfl,rfl,by decide +kernel,rfl,by decide +kernel,by decide +kernel⟩
end

section
variable {P:Program}{w:World}{K:PySem.W.Frag}{mg:Str→Option Value}{base:Heap}
def Fz (H H':Hp):Prop:=(∀ b o,H b=some o→(∀ kvs,o≠.dK kvs)→H' b=some o)∧(∀ b o,Rd H b o→Rd H' b o)
theorem ae.fz {H H':Hp}(S:ae H H'):Fz H H':=⟨fun b o h _=>S b o h,fun b o h=>ae.rd S h⟩
theorem Fz.refl (H:Hp):Fz H H:=⟨fun _ _ h _=>h,fun _ _ h=>h⟩
theorem ix {H:Hp}{d:Addr}{kvs:List (Key×V)}{u:Obj}(h:H d=some (.dK kvs)):Fz H (upd H d (.frz u (.dK kvs))):=by
 refine⟨fun b o hb n=>?_,fun b o hb=>?_⟩
 · have hne:b≠d:=fun e=>n kvs (by rw[e,h] at hb;cases hb;rfl)
   rw[ag hne];exact hb
 · by_cases e:b=d
   · subst e
     rcases hb with hb | ⟨v,hb⟩
     · rw[h] at hb
       cases hb
       exact .inr ⟨u,ad⟩
     · rw[h] at hb;cases hb
   · rcases hb with hb | ⟨v,hb⟩
     · exact .inl (by rw[ag e];exact hb)
     · exact .inr ⟨v,by rw[ag e];exact hb⟩
theorem Fz.seq {H H':Hp}{a:Addr}{xs:List V}(S:Fz H H')(h:SqL K H a xs):SqL K H' a xs:=by
 rcases h with h | h
 · exact .inl (S.2 _ _ h)
 · exact .inr h
def gN (H:Hp)(d:Addr)(ss ns:List Str)(lk:Str→Str→Str):Prop :=
 ∃ kvs:List (Key×V),Rd H d (.dK kvs)∧kvs.map (·.1)=ns.map Sum.inr∧∀ n∈ns,∃ r kv,bZ kvs (Sum.inr n)=some (.ref r)∧Rd H r (.dK kv)∧∀ z∈ss,bZ kv (Sum.inr z)=some (.str (lk n z))
theorem Fz.tabG {H H':Hp}{d:Addr}{ss ns:List Str}{lk:Str→Str→Str}(S:Fz H H')(h:gN H d ss ns lk):gN H' d ss ns lk:=by
 obtain⟨kvs,h1,h2,h3⟩:=h
 refine⟨kvs,S.2 _ _ h1,h2,fun n hn=>?_⟩
 obtain⟨r,kv,e1,e2,e3⟩:=h3 n hn
 exact⟨r,kv,e1,S.2 _ _ e2,e3⟩
theorem gN.get {H:Hp}{d:Addr}{ss ns:List Str}{lk:Str→Str→Str}(h:gN H d ss ns lk){n z:Str}(hn:n∈ns)(hz:z∈ss):∃ r,iP H d (.str n) (some (.ref r))∧iP H r (.str z) (some (.str (lk n z))):=by
 obtain⟨kvs,h1,h2,h3⟩:=h
 obtain⟨r,kv,e1,e2,e3⟩:=h3 n hn
 exact⟨r,.inl ⟨_,Sum.inr n,h1,rfl,e1.symm⟩,.inl ⟨_,Sum.inr z,e2,rfl,(e3 z hz).symm⟩⟩
def lkB (ss:List Str)(bs:List (Str×List Str)) (n z:Str):Str:=match bs.find? (fun b=>decide (b.1=n)) with
 | some b=>lkV ss b z
 | none=>⟨#[]⟩
theorem f7 {ss:List Str}:∀ {bs:List (Str×List Str)}{b:Str×List Str} (z:Str),(bs.map (·.1)).Nodup→b∈bs→lkB ss bs b.1 z=lkV ss b z
 | [],_,_,_,h=>by cases h
 | a::bs,b,z,hd,h=>by
   unfold lkB
   by_cases e:a.1=b.1
   · rw[List.find?_cons_of_pos (by simp[e])]
     rcases List.mem_cons.mp h with rfl | hm
     · rfl
     · exact absurd (List.mem_map_of_mem (f:=(·.1)) hm) (by rw[List.map_cons,List.nodup_cons] at hd;rw[←e];exact hd.1)
   · rw[List.find?_cons_of_neg (by simp[e])]
     have hm:b∈bs:=by
       rcases List.mem_cons.mp h with rfl | hm
       · exact absurd rfl e
       · exact hm
     rw[List.map_cons,List.nodup_cons] at hd
     exact f7 z hd.2 hm
end

section
variable {P:Program}{w:World}{K:PySem.W.Frag}{mg:Str→Option Value}{base:Heap}
def u7 (K:PySem.W.Frag):Sp:=fun vs H Q _=>∃ (cell mixed:Int) (m:Nat)(t:Addr)(ts:List Str),vs=[.int cell,.int m,.ref t,.int mixed]∧SqL K H t (ts.map V.str)∧m≤40∧ts.length≤8∧(mixed=0∨mixed=1) ∧
 ∀ p (row:List Str) H',H p=none→ae H H'→H' p=some (.lst (row.map V.str))→row.length≤40→(∀ n∈row,n∈ts)→Q (.ref p) H'
theorem va:aG ["_law_cell", "_law_size", "_law_titles", "_law_mixed", "_law_drawn_here"] ["_law_cell", "_law_size", "_law_titles", "_law_mixed"] (af qq):=⟨rfl,rfl,rfl,by decide +kernel,rfl,by decide +kernel,by decide +kernel⟩
theorem vI {f fD:Addr}{fd fdD:FuncData}(F:Fun K "_law_row" "_law_row" qq f fd)(T:Txt mg)(TM:mg "max"=none)(GD:au P w K mg base CX0 1 fD fdD ["_law_cell", "_law_many", "_law_bound", "_law_mixed"] ia)(kD:PySem.W.keepIn K (.ref fD)=true)(bD:aE K fdD ["_law_cell", "_law_many", "_law_bound", "_law_mixed"] [])(mD:mg "_law_draws"=some (.ref fD)) :
   au P w K mg base CX0 2 f fd ["_law_cell", "_law_size", "_law_titles", "_law_mixed"] (u7 K):=by
 refine F.ok va (fun vs H Q E h=>?_) (fun cdv A outer s H vs Q E hr h=>?_)
 · obtain⟨_,_,_,_,_,rfl,_⟩:=h
   rfl
 · obtain⟨cell,mixed,m,t,ts,rfl,ht,hm,hts,hmix,q⟩:=h
   refine⟨_,ak (aB (i:=4) va.nd rfl (Or.inl rfl) (ay GD hr rfl mD kD bD .nil aZ (aa (pv 0) (aa (aH fr (pv 1) (al (fk rfl) (by rfl) T.min (by decide +kernel) (aa aj (aa (al ao (by rfl) T.len PySem.boot_len (aa (pv 2) ac)) ac)))) (aa (al (qo rfl) (by rfl) TM (by decide +kernel) (aa aj (aa (al ao (by rfl) T.len PySem.boot_len (aa (pv 2) ac)) ac))) (aa (pv 3) ac))))))
     (ai (az (er (N':=["_law_k", "_law_titles"]) (pk:=[none,some 2]) rfl (cV.of (by rfl)) (br (pv 4)) (fun s H ex=>ap (i:=0) (by show(["_law_k", "_law_titles"]:List Str).Nodup;decide +kernel) rfl (Or.inl rfl))
         (fun s H ex=>bc (aP:IxR _ (re K)) (pv 1) (pv 0) (fun _ _=>rfl))))),?_⟩
   have hs:=bi
   refine cut (fun σ' H'=>∃ (l:Addr)(os:List Int),σ'=[some (.int cell),some (.int m),some (.ref t),some (.int mixed),some (.ref l)]∧ae H H'∧H' l=some (.lst (os.map V.int))∧os.length≤40∧∀ y∈os,0≤y∧y < ts.length) ?_ ?_
   · walk_at "dm"
     refine⟨_,.inl ht,?_⟩
     rw[List.length_map]
     by_cases h0:ts.length=0
     · rw[h0]
       refine⟨.inr ⟨by decide,by decide⟩,_,.inl ht,cell,0,1,mixed,?_,by decide,by decide,by decide,by decide,hmix,fun l H' hl S hH=>⟨l,rfl,S,[],hH,by decide,fun y hy=>by cases hy⟩⟩
       rw[List.length_map,h0]
       simp
     · have e1:(if((ts.length:Nat):Int) < 1 then((ts.length:Nat):Int) else 1)=1:=if_neg (by omega)
       have e2:(if((ts.length:Nat):Int) > 1 then((ts.length:Nat):Int) else 1)=ts.length:=by split<;>omega
       rw[e1]
       refine⟨.inr ⟨by decide,by decide⟩,_,.inl ht,?_⟩
       rw[List.length_map,e2,Int.mul_one]
       refine⟨cell,m,ts.length,mixed,rfl,by omega,by omega,by omega,by omega,hmix,fun l H' hl S hH=>⟨l,rfl,S,_,hH,?_,gL (by omega) _⟩⟩
       rw[eA];omega
   rintro σ1 H1 ⟨l,os,rfl,S1,hl,hos,hor⟩
   walk_at "dm"
   refine⟨⟨_,SqL.of hl⟩,fun D hD=>?_⟩
   have ht1:=S1.seq ht
   refine dg (aJ (SqL.of hl)) (by rw[List.length_map];omega) hD (fun σ=>∃ o,σ=[o,some (.ref t)]) (fun k=>V.str (e7 ts (os.getD k 0))) ⟨none,rfl⟩ ?_ ?_
   · rintro k x σ' H3 hk hx ⟨o,rfl⟩ hS3 R hR
     rw[List.getElem?_map] at hx
     obtain⟨y,hy,rfl⟩:=Option.map_eq_some_iff.mp hx
     have hyr:=hor y (List.mem_of_getElem? hy)
     walk_at "dm"
     refine⟨_,hS3.seq ht1,_,ke hyr.1 (by omega),?_⟩
     have e:os.getD k 0=y:=by rw[List.getD_eq_getElem?_getD,hy];rfl
     have:=hR [some (V.int y),some (V.ref t)] ⟨_,rfl⟩
     rw[e] at this
     exact this
   · have e:(List.range (os.map V.int).length).map (fun k=>V.str (e7 ts (os.getD k 0)))=(os.map (e7 ts)).map V.str:=by
       rw[List.map_map]
       refine dP _ os _ _ (by rw[List.length_map]) fun k x hx=>?_
       rw[List.getD_eq_getElem?_getD,hx]
       rfl
     rw[e]
     refine q D (os.map (e7 ts)) _ (S1.free hD) (S1.step (S1.free hD)) ad (by rw[List.length_map];exact hos) fun n hn=>?_
     obtain⟨y,hy,rfl⟩:=List.mem_map.mp hn
     have hyr:=hor y hy
     have:=jC (ws:=ts) hyr.1 (n:=ts.length) hyr.2 (Nat.le_refl _)
     rwa [List.take_length] at this
end

section
variable {P:Program}{w:World}{K:PySem.W.Frag}{mg:Str→Option Value}{base:Heap}
theorem rB {ss:List Str}{bs:List (Str×List Str)}{b:Str×List Str}{z:Str}(B:aR ss bs)(hb:b∈bs)(hz:z∈ss):lkV ss b z∈ss:=by
 obtain⟨i,hi⟩:=List.getElem?_of_mem hz
 have hl:=B.bln b hb
 have hil:i < b.2.length:=by rw[hl];exact(List.getElem?_eq_some_iff.mp hi).1
 have e:bZ (hJ ss b) (Sum.inr z)=some (V.str b.2[i]):=cT ss (b.2.map V.str) i z _ B.snd hi (by rw[List.getElem?_map,List.getElem?_eq_getElem hil];rfl)
 have e2:lkV ss b z=b.2[i]:=by unfold lkV;rw[e]
 rw[e2]
 exact B.bin b hb _ (List.getElem_mem hil)
theorem gF {ss:List Str}{bs:List (Str×List Str)}(B:aR ss bs):∀ n∈bs.map (·.1),∀ z∈ss,lkB ss bs n z∈ss:=fun n hn z hz=>by
 obtain⟨b,hb,rfl⟩:=List.mem_map.mp hn
 rw[f7 z B.bnd hb]
 exact rB B hb hz
end

section
variable {P:Program}{w:World}{K:PySem.W.Frag}{mg:Str→Option Value}{base:Heap}
theorem nV {J:It}{n:Nat}{vs:Nat→V→Prop}{g:TG}{tc:TT}{te:TE}{D:Addr}{Q:Hp→Prop}{σ:St}{H:Hp}(S:d8 J H n vs)(hn:n≤sizeLine)(hD:H D=none)(Pσ:St→Prop)(bt:Nat→Bool)(out:Nat→V)
   (h0:Pσ σ)(step:∀ i x σ' H',i < n→vs i x→Pσ σ'→ae H H'→∀ (R1:V→St→Hp→Prop)(R0:St→Hp→Prop),(bt i=true→∀ σ2,Pσ σ2→R1 (out i) σ2 H')→(bt i=false→∀ σ2,Pσ σ2→R0 σ2 H')→g x σ' H' fun σ2 H3=>tc σ2 H3 fun b H3'=>if b=true then te σ2 H3' fun v H4=>R1 v σ2 H4 else R0 σ2 H3')
   (fin:Q (upd H D (.lst (((List.range n).filter bt).map out)))):mj J g tc te D Q σ (upd H D (.lst [])):=by
 refine⟨fun i m σ' H'=>m=n - i∧i≤n∧Pσ σ'∧H'=upd H D (.lst (((List.range i).filter bt).map out)),⟨n,by simp,Nat.zero_le _,h0,rfl⟩,?_⟩
 rintro i m σ' H' ⟨rfl,hi,p,rfl⟩
 have sm:ae H (upd H D (.lst (((List.range i).filter bt).map out))):=ae.updN hD
 by_cases hlt:i < n
 · refine .inr ⟨S.go i _ hlt sm,fun σ2 H2=>Pσ σ2∧H2=upd H D (.lst (((List.range (i+1)).filter bt).map out)),fun σ2 H2 ⟨p',e⟩=>⟨n - (i+1),by omega,rfl,hlt,p',e⟩,fun x H2 y=>?_⟩
   obtain⟨e,hv⟩:=S.yld i _ x H2 hlt sm y
   subst e
   have hlen:((List.range i).filter bt).length≤i:=by
     have:=List.length_filter_le bt (List.range i)
     rwa [List.length_range] at this
   refine step i x σ' _ hlt hv p sm (fun v σ2 H4=>∃ xs,H4 D=some (.lst xs)∧xs.length < sizeLine∧Pσ σ2∧upd H4 D (.lst (xs++[v]))=upd H D (.lst (((List.range (i+1)).filter bt).map out))) (fun σ2 H4=>Pσ σ2∧H4=upd H D (.lst (((List.range (i+1)).filter bt).map out))) (fun hb σ2 p2=>?_) (fun hb σ2 p2=>⟨p2,?_⟩)
   · refine⟨((List.range i).filter bt).map out,ad,by rw[List.length_map];omega,p2,?_⟩
     rw[gE,List.range_succ,List.filter_append,List.filter_cons_of_pos (by simpa using hb),List.filter_nil,List.map_append,List.map_singleton]
   · rw[List.range_succ,List.filter_append,List.filter_cons_of_neg (by simpa using hb),List.filter_nil,List.append_nil]
 · have e:i=n:=by omega
   subst e
   exact .inl ⟨S.stop _ sm,fin⟩
def eQ (H:Hp)(ps:List Addr)(L:List (List V)):Prop:=ps.length=L.length∧∀ (i:Nat) p e,ps[i]?=some p→L[i]?=some e→H p=some (.tup e)
theorem eQ.same {H H':Hp}{ps:List Addr}{L:List (List V)}(S:ae H H')(h:eQ H ps L):eQ H' ps L:=⟨h.1,fun i p e hp he=>S _ _ (h.2 i p e hp he)⟩
theorem eQ.snoc {H:Hp}{ps:List Addr}{L:List (List V)}{t:Addr}{e:List V}(h:eQ H ps L)(ht:H t=some (.tup e)):eQ H (ps++[t]) (L++[e]):=by
 refine⟨by rw[List.length_append,List.length_append,h.1];rfl,fun i p e2 hp he=>?_⟩
 by_cases hi:i < ps.length
 · rw[List.getElem?_append_left hi] at hp
   rw[List.getElem?_append_left (by rw[←h.1];exact hi)] at he
   exact h.2 i p e2 hp he
 · have hj:i=ps.length:=by
     have:=(List.getElem?_eq_some_iff.mp hp).1
     rw[List.length_append,List.length_singleton] at this
     omega
   subst hj
   rw[List.getElem?_append_right (Nat.le_refl _),Nat.sub_self] at hp
   rw[List.getElem?_append_right (by rw[h.1];exact Nat.le_refl _),h.1,Nat.sub_self] at he
   cases hp
   cases he
   exact ht
theorem kP {J:It}{n:Nat}{vs:Nat→V→Prop}{g:TG}{tc:TT}{te:TE}{D:Addr}{Q:Hp→Prop}{σ:St}{H:Hp}(S:d8 J H n vs)(hn:n≤sizeLine)(hD:H D=none)(Pσ:St→Prop)(bt:Nat→Bool)(out:Nat→List V)
   (h0:Pσ σ)(step:∀ i x σ' H',i < n→vs i x→Pσ σ'→ae H H'→∀ (R1:V→St→Hp→Prop)(R0:St→Hp→Prop),(bt i=true→∀ t σ2,Pσ σ2→H' t=none→R1 (.ref t) σ2 (upd H' t (.tup (out i))))→(bt i=false→∀ σ2,Pσ σ2→R0 σ2 H')→g x σ' H' fun σ2 H3=>tc σ2 H3 fun b H3'=>if b=true then te σ2 H3' fun v H4=>R1 v σ2 H4 else R0 σ2 H3')
   (fin:∀ ps H',ae H H'→H' D=some (.lst (ps.map V.ref))→eQ H' ps (((List.range n).filter bt).map out)→Q H'):mj J g tc te D Q σ (upd H D (.lst [])):=by
 refine⟨fun i m σ' H'=>m=n - i∧i≤n∧Pσ σ'∧∃ ps,ae H H'∧H' D=some (.lst (ps.map V.ref))∧eQ (hide H' D) ps (((List.range i).filter bt).map out),⟨n,by simp,Nat.zero_le _,h0,[],ae.updN hD,ad,rfl,by intro i p e h;simp at h⟩,?_⟩
 rintro i m σ' H' ⟨rfl,hi,p,ps,sm,hHD,hT⟩
 by_cases hlt:i < n
 · refine .inr ⟨S.go i _ hlt sm,fun σ2 H2=>Pσ σ2∧∃ ps,ae H H2∧H2 D=some (.lst (ps.map V.ref))∧eQ (hide H2 D) ps (((List.range (i+1)).filter bt).map out),fun σ2 H2 ⟨p',e⟩=>⟨n - (i+1),by omega,rfl,hlt,p',e⟩,fun x H2 y=>?_⟩
   obtain⟨e,hv⟩:=S.yld i _ x H2 hlt sm y
   subst e
   have hlen:ps.length≤i:=by
     have:=List.length_filter_le bt (List.range i)
     rw[List.length_range] at this
     rw[hT.1,List.length_map];exact this
   refine step i x σ' _ hlt hv p sm (fun v σ2 H4=>∃ xs,H4 D=some (.lst xs)∧xs.length < sizeLine∧Pσ σ2∧∃ ps,ae H (upd H4 D (.lst (xs++[v])))∧upd H4 D (.lst (xs++[v])) D=some (.lst (ps.map V.ref))∧eQ (hide (upd H4 D (.lst (xs++[v]))) D) ps (((List.range (i+1)).filter bt).map out)) (fun σ2 H4=>Pσ σ2∧∃ ps,ae H H4∧H4 D=some (.lst (ps.map V.ref))∧eQ (hide H4 D) ps (((List.range (i+1)).filter bt).map out)) (fun hb t σ2 p2 ht=>?_) (fun hb σ2 p2=>⟨p2,ps,sm,hHD,?_⟩)
   · have htD:t≠D:=fun e=>by rw[e,hHD] at ht;cases ht
     refine⟨ps.map V.ref,by rw[ag (Ne.symm htD)];exact hHD,by rw[List.length_map];omega,p2,ps++[t],(sm.step (sm.free ht)).step hD,by rw[ad,List.map_append];rfl,?_⟩
     rw[List.range_succ,List.filter_append,List.filter_cons_of_pos (by simpa using hb),List.filter_nil,List.map_append,List.map_singleton,d7]
     exact(eQ.same (ae.hide (ae.updN ht)) hT).snoc (by rw[bP htD];exact ad)
   · rw[List.range_succ,List.filter_append,List.filter_cons_of_neg (by simpa using hb),List.filter_nil,List.append_nil]
     exact hT
 · have e:i=n:=by omega
   subst e
   exact .inl ⟨S.stop _ sm,fin ps H' sm hHD (hT.same cz)⟩
end

section
variable {P:Program}{w:World}{K:PySem.W.Frag}{mg:Str→Option Value}{base:Heap}
theorem rq {J:It}{n:Nat}{vs:Nat→V→Prop}{g:TG}{te:TE}{D:Addr}{Q:Hp→Prop}{σ:St}{H:Hp}(S:d8 J H n vs)(hn:n≤sizeLine)(hD:H D=none)(Pσ:St→Prop)(Pe:Nat→V→Hp→Prop)(mono:∀ i v H1 H2,ae H1 H2→Pe i v H1→Pe i v H2)
   (h0:Pσ σ)(step:∀ i x σ' H',i < n→vs i x→Pσ σ'→ae H H'→(∀ t,H' t=none→t≠D)→∀ R:V→St→Hp→Prop,(∀ v σ2 H4,Pσ σ2→ae H' H4→Pe i v (hide H4 D)→R v σ2 H4)→g x σ' H' fun σ2 H3=>te σ2 H3 fun v H4=>R v σ2 H4)
   (fin:∀ us H',ae H H'→H' D=some (.lst us)→us.length=n→(∀ (i:Nat) v,us[i]?=some v→Pe i v (hide H' D))→Q H'):kj J g te D Q σ (upd H D (.lst [])):=by
 refine⟨fun i m σ' H'=>m=n - i∧i≤n∧Pσ σ'∧∃ us,ae H H'∧H' D=some (.lst us)∧us.length=i∧∀ (j:Nat) v,us[j]?=some v→Pe j v (hide H' D),⟨n,by simp,Nat.zero_le _,h0,[],ae.updN hD,ad,rfl,by intro j v h;simp at h⟩,?_⟩
 rintro i m σ' H' ⟨rfl,hi,p,us,sm,hHD,hl,hE⟩
 by_cases hlt:i < n
 · refine .inr ⟨S.go i _ hlt sm,fun σ2 H2=>Pσ σ2∧∃ us,ae H H2∧H2 D=some (.lst us)∧us.length=i+1∧∀ (j:Nat) v,us[j]?=some v→Pe j v (hide H2 D),fun σ2 H2 ⟨p',e⟩=>⟨n - (i+1),by omega,rfl,hlt,p',e⟩,fun x H2 y=>?_⟩
   obtain⟨e,hv⟩:=S.yld i _ x H2 hlt sm y
   subst e
   refine step i x σ' _ hlt hv p sm (fun t ht e=>by rw[e,hHD] at ht;cases ht) (fun v σ2 H4=>∃ xs,H4 D=some (.lst xs)∧xs.length < sizeLine∧Pσ σ2∧∃ us,ae H (upd H4 D (.lst (xs++[v])))∧upd H4 D (.lst (xs++[v])) D=some (.lst us)∧us.length=i+1∧∀ (j:Nat) v',us[j]?=some v'→Pe j v' (hide (upd H4 D (.lst (xs++[v]))) D)) fun v σ2 H4 p2 S4 hP=>?_
   refine⟨us,S4 _ _ hHD,by omega,p2,us++[v],(sm.trans S4).step hD,ad,by rw[List.length_append,hl];rfl,fun j v' hj=>?_⟩
   rw[d7]
   by_cases hji:j < us.length
   · rw[List.getElem?_append_left hji] at hj
     exact mono _ _ _ _ (ae.hide S4) (hE j v' hj)
   · rw[List.getElem?_append_right (by omega)] at hj
     have hj0:j - us.length=0:=by
       have:=(List.getElem?_eq_some_iff.mp hj).1
       simp only[List.length_singleton] at this
       omega
     rw[hj0] at hj
     cases hj
     have:j=i:=by omega
     subst this
     exact hP
 · have e:i=n:=by omega
   subst e
   exact .inl ⟨S.stop _ sm,fin us H' sm hHD hl hE⟩
theorem pT:∀ us:List V,(∀ v∈us,∃ t,v=V.ref t)→∃ qs:List Addr,us=qs.map V.ref
 | [],_=>⟨[],rfl⟩
 | v::us,h=>by
   obtain⟨t,rfl⟩:=h v List.mem_cons_self
   obtain⟨qs,rfl⟩:=pT us fun v hv=>h v (List.mem_cons_of_mem _ hv)
   exact⟨t::qs,rfl⟩
theorem uB {α:Type}{us:List V}{L:List α}{f:α→List V}{H:Hp}(hl:us.length=L.length)(h:∀ (i:Nat) v,us[i]?=some v→∃ t x,v=.ref t∧L[i]?=some x∧H t=some (.tup (f x))):∃ qs:List Addr,us=qs.map V.ref∧eQ H qs (L.map f):=by
 obtain⟨qs,rfl⟩:=pT us fun v hv=>by
   obtain⟨i,hi⟩:=List.getElem?_of_mem hv
   obtain⟨t,_,e,_⟩:=h i v hi
   exact⟨t,e⟩
 rw[List.length_map] at hl
 refine⟨qs,rfl,by rw[List.length_map,hl],fun i p e hp he=>?_⟩
 obtain⟨t,x,e1,e2,e3⟩:=h i (.ref p) (by rw[List.getElem?_map,hp];rfl)
 cases e1
 rw[List.getElem?_map,e2] at he
 cases he
 exact e3
end

section
variable {P:Program}{w:World}{K:PySem.W.Frag}{mg:Str→Option Value}{base:Heap}
def cp (lk:Str→Str→Str)(row:List Str) (z:Str):Str:=row.foldl (fun z n=>lk n z) z
theorem lC {lk:Str→Str→Str}{row:List Str}{z n:Str}{i:Nat}(h:row[i]?=some n):cp lk (row.take (i+1)) z=lk n (cp lk (row.take i) z):=by
 unfold cp
 rw[bH h,List.foldl_append]
 rfl
theorem e9 {lk:Str→Str→Str}{ss ns:List Str}(hc:∀ n∈ns,∀ z∈ss,lk n z∈ss):∀ (row:List Str) (z:Str),(∀ n∈row,n∈ns)→z∈ss→cp lk row z∈ss
 | [],z,_,hz=>hz
 | n::r,z,hr,hz=>e9 hc r (lk n z) (fun m hm=>hr m (List.mem_cons_of_mem _ hm)) (hc n (hr n List.mem_cons_self) z hz)
end

section
variable {P:Program}{w:World}{K:PySem.W.Frag}{mg:Str→Option Value}{base:Heap}
abbrev ltN (a b:Str):Prop:=a.cps.toList < b.cps.toList
theorem ml {a:Str}:¬ltN a a:=List.lt_irrefl _
theorem v9 {a b c:Str}(h:ltN a b)(k:ltN b c):ltN a c:=List.lt_trans h k
def ltR (r q:List Str):Prop:=∃ k x y,r.take k=q.take k∧r[k]?=some x∧q[k]?=some y∧ltN x y
theorem mW {r q:List Str}{k j:Nat}(h:r.take k=q.take k)(hj:j < k):r[j]?=q[j]?:=by
 have:=congrArg (fun l=>l[j]?) h
 simpa [List.getElem?_take,hj] using this
theorem uI {r:List Str}:¬ltR r r:=fun⟨k,x,y,_,h1,h2,h3⟩=>by
 rw[h1] at h2;cases h2;exact ml h3
theorem vt {r q p:List Str}(h:ltR r q)(k:ltR q p):ltR r p:=by
 obtain⟨i,x,y,h1,h2,h3,h4⟩:=h
 obtain⟨j,u,v,k1,k2,k3,k4⟩:=k
 rcases Nat.lt_trichotomy i j with c | c | c
 · exact⟨i,x,y,by rw[h1];have:=congrArg (List.take i) k1;rwa [List.take_take,List.take_take,Nat.min_eq_left (Nat.le_of_lt c)] at this,h2,by rw[←mW k1 c];exact h3,h4⟩
 · subst c
   rw[h3] at k2;cases k2
   exact⟨i,x,v,h1.trans k1,h2,k3,v9 h4 k4⟩
 · exact⟨j,u,v,by rw[←k1];have:=congrArg (List.take j) h1;rwa [List.take_take,List.take_take,Nat.min_eq_left (Nat.le_of_lt c)] at this,by rw[mW h1 c];exact k2,k3,k4⟩
theorem t5 {r q s t:List Str}(h:ltR r q)(hl:r.length=q.length):ltR (r++s) (q++t):=by
 obtain⟨k,x,y,h1,h2,h3,h4⟩:=h
 have k1:=(List.getElem?_eq_some_iff.mp h2).1
 have k2:=(List.getElem?_eq_some_iff.mp h3).1
 exact⟨k,x,y,by rw[List.take_append_of_le_length (by omega),List.take_append_of_le_length (by omega)];exact h1,by rw[List.getElem?_append_left k1];exact h2,by rw[List.getElem?_append_left k2];exact h3,h4⟩
theorem sy {r:List Str}{a b:Str}(h:ltN a b):ltR (r++[a]) (r++[b]) :=
 ⟨r.length,a,b,by rw[List.take_left,List.take_left],by rw[List.getElem?_append_right (Nat.le_refl _),Nat.sub_self];rfl,by rw[List.getElem?_append_right (Nat.le_refl _),Nat.sub_self];rfl,h⟩
theorem rm {r q:List Str}{n:Str}(h:ltR (r++[n]) (q++[n]))(hl:r.length=q.length):ltR r q:=by
 obtain⟨k,x,y,h1,h2,h3,h4⟩:=h
 have k1:=(List.getElem?_eq_some_iff.mp h2).1
 rw[List.length_append,List.length_singleton] at k1
 by_cases c:k < r.length
 · rw[List.getElem?_append_left c] at h2
   rw[List.getElem?_append_left (by omega)] at h3
   rw[List.take_append_of_le_length (by omega),List.take_append_of_le_length (by omega)] at h1
   exact⟨k,x,y,h1,h2,h3,h4⟩
 · have e:k=r.length:=by omega
   subst e
   rw[List.getElem?_append_right (Nat.le_refl _),Nat.sub_self] at h2
   rw[hl,List.getElem?_append_right (Nat.le_refl _),Nat.sub_self] at h3
   cases h2;cases h3
   exact(ml h4).elim
abbrev Rows:=List (Str×List Str)
abbrev aM (R:Rows):List Str:=R.map (·.1)
def ge:Rows→Rows→Rows
 | R,[]=>R
 | R,c::C=>ge (if c.1∈aM R then R else R++[c]) C
theorem mH:∀ (C D R:Rows),ge R (C++D)=ge (ge R C) D
 | [],_,_=>rfl
 | c::C,D,R=>by
   show ge (if c.1∈aM R then R else R++[c]) (C++D)=ge (ge R (c::C)) D
   exact mH C D _
theorem gK:∀ (C R:Rows),C.Pairwise (fun a b=>ltR a.2 b.2)→(aM R).Nodup→∃ T,ge R C=R++T∧T.Sublist C∧(aM (R++T)).Nodup∧(∀ c∈C,c.1∈aM (R++T))∧∀ t∈T,t.1∉aM R∧∀ c∈C,c.1=t.1→t.2=c.2∨ltR t.2 c.2
 | [],R,_,hn=>⟨[],by rw[List.append_nil];rfl,.slnil,by rw[List.append_nil];exact hn,fun _ h=>(by cases h),fun _ h=>by cases h⟩
 | c::C,R,hp,hn=>by
   have hp':=List.pairwise_cons.mp hp
   unfold ge
   by_cases k:c.1∈aM R
   · rw[if_pos k]
     obtain⟨T,e,hs,hd,ha,ht⟩:=gK C R hp'.2 hn
     refine⟨T,e,hs.cons _,hd,fun x hx=>?_,fun t h=>⟨(ht t h).1,fun x hx hxt=>?_⟩⟩
     · rcases List.mem_cons.mp hx with rfl | hx
       · rw[aM,List.map_append];exact List.mem_append_left _ k
       · exact ha x hx
     · rcases List.mem_cons.mp hx with rfl | hx
       · exact absurd (hxt▸k) (ht t h).1
       · exact(ht t h).2 x hx hxt
   · rw[if_neg k]
     have hn2:(aM (R++[c])).Nodup:=by
       rw[aM,List.map_append,List.nodup_append]
       exact⟨hn,(by simp),fun a ha b hb e=>by rw[List.map_singleton,List.mem_singleton] at hb;subst hb;subst e;exact k ha⟩
     obtain⟨T,e,hs,hd,ha,ht⟩:=gK C (R++[c]) hp'.2 hn2
     rw[List.append_assoc] at e hd ha
     refine⟨c::T,e,hs.cons_cons _,hd,fun x hx=>?_,fun t h=>?_⟩
     · rcases List.mem_cons.mp hx with rfl | hx
       · rw[aM,List.map_append];exact List.mem_append_right _ List.mem_cons_self
       · exact ha x hx
     · rcases List.mem_cons.mp h with rfl | h
       · refine⟨k,fun x hx hxt=>?_⟩
         rcases List.mem_cons.mp hx with rfl | hx
         · exact .inl rfl
         · exact .inr (hp'.1 x hx)
       · have h0:=(ht t h).1
         rw[aM,List.map_append,List.mem_append] at h0
         refine⟨fun z=>h0 (.inl z),fun x hx hxt=>?_⟩
         rcases List.mem_cons.mp hx with rfl | hx
         · exact absurd (by rw[←hxt];exact List.mem_singleton.mpr rfl) (fun z=>h0 (.inr z))
         · exact(ht t h).2 x hx hxt
def aO (R:Rows) (z:Str):List Str:=(R.lookup z).getD []
theorem gf {R:Rows}(hd:(aM R).Nodup){z:Str}{r:List Str}(h:(z,r)∈R):aO R z=r:=by
 unfold aO
 induction R with
 | nil=>cases h
 | cons a R ih =>
   rw[aM,List.map_cons,List.nodup_cons] at hd
   obtain⟨y,q⟩:=a
   rw[List.lookup_cons]
   rcases List.mem_cons.mp h with h | h
   · cases h;simp
   · have hne:z≠y:=fun e=>hd.1 (by rw[←e];exact List.mem_map_of_mem (f:=(·.1)) h)
     rw[beq_false_of_ne hne]
     exact ih hd.2 h
theorem d6 {R:Rows}(hd:(aM R).Nodup){z:Str}(h:z∈aM R):(z,aO R z)∈R:=by
 obtain⟨p,hp,rfl⟩:=List.mem_map.mp h
 rw[gf hd (r:=p.2) hp]
 exact hp
abbrev OkR (ns:List Str)(r:List Str):Prop:=∀ n∈r,n∈ns
def nH (lk:Str→Str→Str)(ns:List Str) (f z:Str)(r:List Str):Prop :=
 OkR ns r∧cp lk r f=z∧∀ q,OkR ns q→cp lk q f=z→r.length≤q.length∧(r.length=q.length→¬ltR q r)
def eS (lk:Str→Str→Str)(ns:List Str)(R:Rows)(N:List Str):Rows:=N.flatMap fun s=>ns.map fun n=>(lk n s,aO R s++[n])
structure ij (lk:Str→Str→Str)(ns:List Str) (f:Str) (d:Nat)(R:Rows)(N:List Str):Prop where
 nd:(aM R).Nodup
 best:∀ p∈R,nH lk ns f p.1 p.2
 len:∀ p∈R,p.2.length≤d
 all:∀ r,OkR ns r→r.length≤d→cp lk r f∈aM R
 new:∀ p∈R,p.2.length=d→p.1∈N
 old:∀ z∈N,z∈aM R∧(aO R z).length=d
 pw:N.Pairwise fun a b=>ltR (aO R a) (aO R b)
theorem cO {lk:Str→Str→Str}{r q:List Str}{z:Str}:cp lk (r++q) z=cp lk q (cp lk r z):=by unfold cp;rw[List.foldl_append]
theorem OkR.app {ns r q:List Str}(h:OkR ns r)(k:OkR ns q):OkR ns (r++q):=fun n hn=>by
 rcases List.mem_append.mp hn with hn | hn
 · exact h n hn
 · exact k n hn
theorem OkR.left {ns r q:List Str}(h:OkR ns (r++q)):OkR ns r:=fun n hn=>h n (List.mem_append_left _ hn)
theorem ij.start {lk:Str→Str→Str}{ns:List Str}{f:Str}:ij lk ns f 0 [(f,[])] [f]:=by
 refine⟨(by simp),fun p hp=>?_,fun p hp=>?_,fun r _ hl=>?_,fun p hp _=>?_,fun z hz=>?_,List.pairwise_singleton _ _⟩
 · rw[List.mem_singleton.mp hp]
   exact⟨fun _ h=>(by cases h),rfl,fun q _ _=>⟨Nat.zero_le _,fun _ h=>by
     obtain⟨k,x,y,_,_,h3,_⟩:=h
     cases h3⟩⟩
 · rw[List.mem_singleton.mp hp];exact Nat.le_refl 0
 · have:r=[]:=List.length_eq_zero_iff.mp (by omega)
   subst this
   exact List.mem_singleton.mpr rfl
 · rw[List.mem_singleton.mp hp];exact List.mem_singleton.mpr rfl
 · rw[List.mem_singleton.mp hz]
   exact⟨List.mem_singleton.mpr rfl,by unfold aO;simp⟩
theorem ij.cpw {lk:Str→Str→Str}{ns:List Str}{f:Str}{d:Nat}{R:Rows}{N:List Str}(I:ij lk ns f d R N)(hns:ns.Pairwise ltN):(eS lk ns R N).Pairwise fun a b=>ltR a.2 b.2:=by
 unfold eS
 rw[List.pairwise_flatMap]
 refine⟨fun s _=>?_,I.pw.imp_of_mem fun {a b} ha hb hab x hx y hy=>?_⟩
 · rw[List.pairwise_map]
   exact hns.imp fun h=>sy h
 · obtain⟨n,_,rfl⟩:=List.mem_map.mp hx
   obtain⟨m,_,rfl⟩:=List.mem_map.mp hy
   exact t5 hab (by rw[(I.old a ha).2,(I.old b hb).2])
theorem ij.step {lk:Str→Str→Str}{ns:List Str}{f:Str}{d:Nat}{R:Rows}{N:List Str}(I:ij lk ns f d R N)(hns:ns.Pairwise ltN):∃ T,ge R (eS lk ns R N)=R++T∧ij lk ns f (d+1) (R++T) (aM T):=by
 obtain⟨T,e,hs,hd,ha,ht⟩:=gK _ R (I.cpw hns) I.nd
 refine⟨T,e,?_⟩
 have hC:∀ c∈eS lk ns R N,∃ s n,s∈N∧n∈ns∧c=(lk n s,aO R s++[n]):=fun c hc=>by
   obtain⟨s,hs,h⟩:=List.mem_flatMap.mp hc
   obtain⟨n,hn,rfl⟩:=List.mem_map.mp h
   exact⟨s,n,hs,hn,rfl⟩
 have hTl:∀ t∈T,t.2.length=d+1:=fun t h=>by
   obtain⟨s,n,hsN,_,rfl⟩:=hC t (hs.subset h)
   rw[List.length_append,(I.old s hsN).2];rfl
 have hB:∀ s∈N,nH lk ns f s (aO R s):=fun s h=>I.best (s,aO R s) (d6 I.nd (I.old s h).1)
 have hsplit:∀ q,OkR ns q→q.length=d+1→cp lk q f∉aM R→∃ s n,s∈N∧n∈ns∧∃ q',q=q'++[n]∧OkR ns q'∧cp lk q' f=s∧q'.length=d:=fun q hq hl hk=>by
   have hne:q≠[]:=fun z=>by rw[z] at hl;cases hl
   obtain⟨q',n,rfl⟩:∃ q' n,q=q'++[n]:=⟨q.dropLast,q.getLast hne,(List.dropLast_concat_getLast hne).symm⟩
   have hl':q'.length=d:=by rw[List.length_append,List.length_singleton] at hl;omega
   have hk':=I.all q' hq.left (by omega)
   have hm:=d6 I.nd hk'
   have hb:=I.best _ hm
   have hn:n∈ns:=hq n (List.mem_append_right _ (List.mem_singleton.mpr rfl))
   refine⟨cp lk q' f,n,?_,hn,q',rfl,hq.left,rfl,hl'⟩
   by_cases c:(aO R (cp lk q' f)).length=d
   · exact I.new _ hm c
   · exfalso
     have h1:=I.len _ hm
     dsimp only at h1
     refine hk ?_
     have:=I.all (aO R (cp lk q' f)++[n]) (hb.1.app fun m hm=>by rw[List.mem_singleton.mp hm];exact hn) (by rw[List.length_append,List.length_singleton];omega)
     rw[cO] at this ⊢
     rw[hb.2.1] at this
     exact this
 have hall:∀ r,OkR ns r→r.length≤d+1→cp lk r f∈aM (R++T):=fun r hr hl=>by
   by_cases c:cp lk r f∈aM R
   · rw[aM,List.map_append];exact List.mem_append_left _ c
   · have hl2:r.length=d+1:=by
       by_cases k:r.length≤d
       · exact absurd (I.all r hr k) c
       · omega
     obtain⟨s,n,hsN,hn,q',rfl,hq',rfl,_⟩:=hsplit r hr hl2 c
     rw[cO]
     refine ha (lk n (cp lk q' f),aO R (cp lk q' f)++[n]) (List.mem_flatMap.mpr ⟨_,hsN,List.mem_map.mpr ⟨n,hn,rfl⟩⟩)
 refine⟨hd,fun p hp=>?_,fun p hp=>?_,hall,fun p hp hl=>?_,fun z hz=>?_,?_⟩
 · rcases List.mem_append.mp hp with hp | hp
   · exact I.best p hp
   · obtain⟨s,n,hsN,hn,e0⟩:=hC p (hs.subset hp)
     have hpR:=(ht p hp).1
     have hbs:=hB s hsN
     have hl:=hTl p hp
     refine⟨by rw[e0];exact hbs.1.app fun m hm=>by rw[List.mem_singleton.mp hm];exact hn,by rw[e0,cO,hbs.2.1];rfl,fun q hq hqz=>?_⟩
     have hql:d+1≤q.length:=by
       by_cases k:q.length≤d
       · exact absurd (hqz▸I.all q hq k) hpR
       · omega
     refine⟨by omega,fun hle hlt=>?_⟩
     obtain⟨s',n',hsN',hn',q',rfl,hq',hqs,hql'⟩:=hsplit q hq (by omega) (by rw[hqz];exact hpR)
     have h3:=(ht p hp).2 (lk n' s',aO R s'++[n']) (List.mem_flatMap.mpr ⟨_,hsN',List.mem_map.mpr ⟨n',hn',rfl⟩⟩) (by rw[←hqz,cO,hqs];rfl)
     dsimp only at h3
     have h4:ltR (q'++[n']) (aO R s'++[n']):=by
       rcases h3 with h3 | h3
       · rw[←h3];exact hlt
       · exact vt hlt h3
     have hb':=(hB s' hsN').2.2 q' hq' hqs
     exact hb'.2 (by rw[(I.old s' hsN').2,hql']) (rm h4 (by rw[(I.old s' hsN').2,hql']))
 · rcases List.mem_append.mp hp with hp | hp
   · exact Nat.le_succ_of_le (I.len p hp)
   · exact Nat.le_of_eq (hTl p hp)
 · rcases List.mem_append.mp hp with hp | hp
   · have:=I.len p hp;omega
   · exact List.mem_map_of_mem (f:=(·.1)) hp
 · obtain⟨t,h,rfl⟩:=List.mem_map.mp hz
   have hm:(t.1,t.2)∈R++T:=List.mem_append_right _ h
   exact⟨List.mem_map_of_mem (f:=(·.1)) hm,by rw[gf hd hm];exact hTl t h⟩
 · rw[aM,List.pairwise_map]
   refine(((I.cpw hns).sublist hs).imp_of_mem fun {a b} ha hb h=>?_)
   rw[gf hd (r:=a.2) (List.mem_append_right _ ha),gf hd (r:=b.2) (List.mem_append_right _ hb)]
   exact h
theorem ij.done {lk:Str→Str→Str}{ns:List Str}{f:Str}{d:Nat}{R:Rows}(I:ij lk ns f d R []):∀ r,OkR ns r→cp lk r f∈aM R:=by
 intro r
 induction hn:r.length generalizing r with
 | zero=>exact fun hr=>I.all r hr (by omega)
 | succ m ih =>
   intro hr
   have hne:r≠[]:=fun z=>by rw[z] at hn;cases hn
   obtain⟨q,n,rfl⟩:∃ q n,r=q++[n]:=⟨r.dropLast,r.getLast hne,(List.dropLast_concat_getLast hne).symm⟩
   rw[List.length_append,List.length_singleton] at hn
   have hk:=ih q (by omega) hr.left
   have hm:=d6 I.nd hk
   have hb:=I.best _ hm
   have hnn:n∈ns:=hr n (List.mem_append_right _ (List.mem_singleton.mpr rfl))
   have hl:(aO R (cp lk q f)).length < d:=by
     have h1:=I.len _ hm
     dsimp only at h1
     by_cases c:(aO R (cp lk q f)).length=d
     · have:=I.new _ hm c;cases this
     · omega
   have:=I.all (aO R (cp lk q f)++[n]) (hb.1.app fun m hm=>by rw[List.mem_singleton.mp hm];exact hnn) (by rw[List.length_append,List.length_singleton];omega)
   rw[cO] at this ⊢
   rw[hb.2.1] at this
   exact this
end

section
variable {P:Program}{w:World}{K:PySem.W.Frag}{mg:Str→Option Value}{base:Heap}
def da (H:Hp)(d:Addr)(R:Rows)(ps:List Addr):Prop:=H d=some (.dK (bj (aM R) (ps.map V.ref)))∧ps.length=R.length∧∀ (i:Nat) p e,ps[i]?=some p→R[i]?=some e→H p=some (.lst (e.2.map V.str))
theorem da.same {H H':Hp}{d:Addr}{R:Rows}{ps:List Addr}(h:da H d R ps)(S:ae H H'):da H' d R ps:=⟨S _ _ h.1,h.2.1,fun i p e hp he=>S _ _ (h.2.2 i p e hp he)⟩
structure gd (ss:List Str)(bs:List (Str×List Str)) (f:Str)(R:Rows):Prop where
 nd:(aM R).Nodup
 best:∀ p∈R,nH (lkB ss bs) (bs.map (·.1)) f p.1 p.2
 all:∀ r,OkR (bs.map (·.1)) r→cp (lkB ss bs) r f∈aM R
 len:∀ p∈R,p.2.length≤11
theorem nw {B0 G:Hp}{x:Addr}{o:HO}(S:ae B0 G)(h:B0 x=none):ae B0 (upd G x o):=fun b u e=>by
 rw[ag (fun z=>by rw[z,h] at e;cases e)];exact S _ _ e
structure ShI (H0 H:Hp)(lb d ln lf:Addr)(so N:List Str) (n:Nat)(R:Rows)(ps:List Addr):Prop where
 S:ae H0 H
 hb:H lb=some (.lst (so.map V.str))
 hn:H ln=some (.lst (N.map V.str))
 hr:da H d R ps
 hf:H lf=some (.lst ((aM (R.drop n)).map V.str))
 hp:∀ p∈ps,p≠lf
 nb:lb≠lf
 nn:ln≠lf
 d0:H0 d=none
 f0:H0 lf=none
 pf:∀ p∈ps,H0 p=none
theorem ShI.same {H0 H H':Hp}{lb d ln lf:Addr}{so N:List Str}{n:Nat}{R:Rows}{ps:List Addr}(I:ShI H0 H lb d ln lf so N n R ps)(S:ae H H'):ShI H0 H' lb d ln lf so N n R ps :=
 ⟨I.S.trans S,S _ _ I.hb,S _ _ I.hn,I.hr.same S,S _ _ I.hf,I.hp,I.nb,I.nn,I.d0,I.f0,I.pf⟩
theorem da.get {H:Hp}{d:Addr}{R:Rows}{ps:List Addr}(h:da H d R ps)(hd:(aM R).Nodup){z:Str}(hz:z∈aM R):∃ p,iP H d (.str z) (some (.ref p))∧H p=some (.lst ((aO R z).map V.str)):=by
 have hm:=d6 hd hz
 obtain⟨i,hi⟩:=List.getElem?_of_mem hm
 have hil:i < ps.length:=by rw[h.2.1];exact(List.getElem?_eq_some_iff.mp hi).1
 have hp:=List.getElem?_eq_getElem hil
 refine⟨ps[i],.inl ⟨_,Sum.inr z,.inl h.1,rfl,?_⟩,h.2.2 i _ _ hp hi⟩
 exact(cT _ _ i z _ hd (by rw[aM,List.getElem?_map,hi];rfl) (by rw[List.getElem?_map,hp];rfl)).symm
theorem da.getm {H:Hp}{d:Addr}{R:Rows}{ps:List Addr}(h:da H d R ps)(hd:(aM R).Nodup){z:Str}(hz:z∈aM R):∃ p,iP H d (.str z) (some (.ref p))∧H p=some (.lst ((aO R z).map V.str))∧p∈ps:=by
 have hm:=d6 hd hz
 obtain⟨i,hi⟩:=List.getElem?_of_mem hm
 have hil:i < ps.length:=by rw[h.2.1];exact(List.getElem?_eq_some_iff.mp hi).1
 have hp:=List.getElem?_eq_getElem hil
 refine⟨ps[i],.inl ⟨_,Sum.inr z,.inl h.1,rfl,?_⟩,h.2.2 i _ _ hp hi,List.getElem_mem hil⟩
 exact(cT _ _ i z _ hd (by rw[aM,List.getElem?_map,hi];rfl) (by rw[List.getElem?_map,hp];rfl)).symm
theorem da.there {H:Hp}{d:Addr}{R:Rows}{ps:List Addr}(h:da H d R ps){p:Addr}(hp:p∈ps):∃ o,H p=some o:=by
 obtain⟨i,hi⟩:=List.getElem?_of_mem hp
 exact⟨_,h.2.2 i p _ hi (List.getElem?_eq_getElem (by rw[←h.2.1];exact(List.getElem?_eq_some_iff.mp hi).1))⟩
theorem da.keys {H:Hp}{d:Addr}{R:Rows}{ps:List Addr}(h:da H d R ps):(bj (aM R) (ps.map V.ref)).map (·.1)=(aM R).map Sum.inr:=gI (by rw[List.length_map,List.length_map,h.2.1])
theorem gM {R T:Rows}:aM (R++T)=aM R++aM T:=List.map_append
theorem ShI.put {H0 H:Hp}{lb d ln lf q:Addr}{so N:List Str}{n:Nat}{R:Rows}{ps:List Addr}{z:Str}{r:List Str}(I:ShI H0 H lb d ln lf so N n R ps)(hq:H q=some (.lst (r.map V.str)))(hqf:q≠lf)(hq0:H0 q=none)(hz:z∉aM R)(hn:n≤R.length) :
   ShI H0 (upd (upd H d (.dK (cK (bj (aM R) (ps.map V.ref)) (Sum.inr z) (.ref q)))) lf (.lst ((aM (R.drop n)).map V.str++[V.str z]))) lb d ln lf so N n (R++[(z,r)]) (ps++[q]):=by
 have ndl:∀ {x xs},H x=some (.lst xs)→x≠d:=fun {x xs} h e=>by rw[e,I.hr.1] at h;cases h
 have hdf:d≠lf:=(ndl I.hf).symm
 have hk:cK (bj (aM R) (ps.map V.ref)) (Sum.inr z) (.ref q)=bj (aM (R++[(z,r)])) ((ps++[q]).map V.ref):=by
   rw[dH _ (bM _ _ _ hz),gM,List.map_append]
   exact(ez z (V.ref q) (by rw[List.length_map,List.length_map,I.hr.2.1])).symm
 refine⟨nw (nw I.S I.d0) I.f0,?_,?_,⟨?_,?_,fun i p e hp he=>?_⟩,?_,fun p hp=>?_,I.nb,I.nn,I.d0,I.f0,fun p hp=>?_⟩
 · rw[ag I.nb,ag (ndl I.hb)];exact I.hb
 · rw[ag I.nn,ag (ndl I.hn)];exact I.hn
 · rw[ag hdf,ad,hk]
 · rw[List.length_append,List.length_append,I.hr.2.1];rfl
 · have hpl:=I.hr.2.1
   by_cases hi:i < ps.length
   · rw[List.getElem?_append_left hi] at hp
     rw[List.getElem?_append_left (by omega)] at he
     have h1:=I.hr.2.2 i p e hp he
     rw[ag (I.hp p (List.mem_of_getElem? hp)),ag (ndl h1)]
     exact h1
   · rw[List.getElem?_append_right (by omega)] at hp
     rw[List.getElem?_append_right (by omega),←hpl] at he
     have hj0:i - ps.length=0:=by
       have:=(List.getElem?_eq_some_iff.mp hp).1
       simp only[List.length_singleton] at this
       omega
     rw[hj0] at hp he
     cases hp
     cases he
     rw[ag hqf,ag (ndl hq)]
     exact hq
 · rw[ad,List.drop_append_of_le_length hn,gM,List.map_append];rfl
 · rcases List.mem_append.mp hp with hp | hp
   · exact I.hp p hp
   · rw[List.mem_singleton.mp hp];exact hqf
 · rcases List.mem_append.mp hp with hp | hp
   · exact I.pf p hp
   · rw[List.mem_singleton.mp hp];exact hq0
theorem iM {l:List Str}(h:PyProof.Rows.sortedS l=true)(hn:l.Nodup):l.Pairwise ltN :=
 ((fF l h).and hn).imp fun {a b} k=>Classical.byContradiction fun c=>k.2 (mR k.1 (lJ.mpr c))
theorem ou {lk:Str→Str→Str}{ns:List Str}{f:Str}{d:Nat}{R:Rows}{N:List Str}{i:Nat}{s1:Str}(I:ij lk ns f d R N)(hns:ns.Pairwise ltN)(hs1:N[i]?=some s1) (j:Nat) :
   ∃ T,ge R (eS lk ns R (N.take i)++(ns.take j).map fun n=>(lk n s1,aO R s1++[n]))=R++T∧(aM (R++T)).Nodup∧(∀ t∈T,∃ s n,s∈N∧n∈ns∧t.1=lk n s)∧aO (R++T) s1=aO R s1∧s1∈aM (R++T):=by
 have hsub:(eS lk ns R (N.take i)++(ns.take j).map fun n=>(lk n s1,aO R s1++[n])).Sublist (eS lk ns R N):=by
   have e:N=N.take i++s1::N.drop (i+1):=by
     have hi:=(List.getElem?_eq_some_iff.mp hs1)
     obtain⟨hi,e⟩:=hi
     rw[←e,←List.drop_eq_getElem_cons hi,List.take_append_drop]
   conv=>rhs;rw[e]
   unfold eS
   rw[List.flatMap_append,List.flatMap_cons]
   exact(List.Sublist.refl _).append (((List.take_sublist j ns).map _).trans (List.sublist_append_left _ _))
 obtain⟨T,e,hs,hd,_,ht⟩:=gK _ R ((I.cpw hns).sublist hsub) I.nd
 have hsm:=List.mem_of_getElem? hs1
 have hk:=(I.old s1 hsm).1
 refine⟨T,e,hd,fun t h=>?_,?_,by rw[gM];exact List.mem_append_left _ hk⟩
 · obtain⟨s,hsN,h2⟩:=List.mem_flatMap.mp (hsub.subset (hs.subset h))
   obtain⟨n,hn,rfl⟩:=List.mem_map.mp h2
   exact⟨s,n,hsN,hn,rfl⟩
 · exact gf hd (List.mem_append_left _ (d6 I.nd hk))
def qi (CB:Addr):Sp:=fun vs H Q _=>∃ (x:Addr)(ss:List Str)(bs:List (Str×List Str)) (z:Str),vs=[.ref x,.str z]∧ck H CB x ss bs∧aR ss bs∧z∈ss∧∀ d (R:Rows)(ps:List Addr) H',H d=none→ae H H'→(∀ p∈ps,H p=none)→da H' d R ps→gd ss bs z R→Q (.ref d) H'
theorem em:aG ["book", "first", "baths", "rows", "newest", "found", "shade", "bath", "out"] ["book", "first"] (af g3):=⟨rfl,rfl,rfl,by decide +kernel,rfl,by decide +kernel,by decide +kernel⟩
theorem sT {f fMB fMO:Addr}{fd fdMB fdMO:FuncData}{CB:Addr}(F:Fun K "shortest_rows" "shortest_rows" g3 f fd)
   (T:Txt mg)(cB:Cls K CB)
   (GMB:au P w K mg base CX0 1 fMB fdMB ["self"] (jL CB))(hmMB:bW K CB "baths" fMB)(bMB:aE K fdMB ["self"] [])
   (GMO:au P w K mg base CX0 2 fMO fdMO ["self", "bath", "shade"] (og CB))(hmMO:bW K CB "out" fMO)(bMO:aE K fdMO ["self", "bath", "shade"] []) :
   au P w K mg base CX0 3 f fd ["book", "first"] (qi CB):=by
 refine F.ok em (fun vs H Q E h=>?_) (fun cdv A outer s H vs Q E hr h=>?_)
 · obtain⟨_,_,_,_,rfl,_⟩:=h
   rfl
 · obtain⟨x,ss,bs,z,rfl,hbk,B,hz,q⟩:=h
   have hu:(cJ CX0 P w K mg base ["book", "first", "baths", "rows", "newest", "found", "shade", "bath", "out"] "shortest_rows" (af g3) f cdv A outer s H E).A.units+1 < cLine:=by
     have:=hr.units
     exact Nat.lt_of_le_of_lt (Nat.add_le_add_left (by decide) _) this
   have hr1:=hr.mono (j:=1) (by omega)
   have hr2:=hr.mono (j:=2) (by omega)
   refine⟨_,(ak (aB (i:=2) em.nd rfl (Or.inl rfl) (fh (pv 0) cB hmMB GMB hr1 bMB .nil aZ))
     (ak (aB (i:=3) em.nd rfl (Or.inl rfl) (mi (jW (pv 1) (cn ac) lM) rfl rfl (by simp) (by decide)))
     (ak (aB (i:=4) em.nd rfl (Or.inl rfl) (cn (aa (pv 1) ac)))
     (ak (m3 PassesOwn.never (ax gh (al ao (by rfl) T.len PySem.boot_len (aa (pv 4) ac)) aj (aK _)) (ak (aB (i:=5) em.nd rfl (Or.inl rfl) (cn ac))
     (ak (bu PassesOwn.never rfl (br (pv 4)) (ap (i:=6) em.nd rfl (Or.inl rfl)) (ai (bu PassesOwn.never rfl (br (pv 2)) (ap (i:=7) em.nd rfl (Or.inl rfl)) (aq (aB (i:=8) em.nd rfl (Or.inl rfl) (bq (pv 0) cB hmMO GMO hr2 bMO .nil aZ (aa (pv 7) (aa (pv 6) ac))))
     (ai (aV (dL (cU hu (pv 8) (pv 3))) (aq (dY hu (pv 3) (pv 8) (aH vv (bn hu (pv 3) (pv 6) (fun _ _=>rfl)) (cn (aa (pv 7) ac))) rfl)
     (ai (aW (gc PySem.F.plainAttrs_list PySem.F.slot_list_append PySem.F.type_list_append cr (pv 5) (aa (pv 8) ac))))) ar))))))
     (ai (aB (i:=4) em.nd rfl (Or.inl rfl) (pv 5))))))
     (ai (az (pv 3))))))),?_⟩
   have hs:=bi
   have hb8:=B.b8
   have hs12:=B.s12
   have hbk0:=hbk
   obtain⟨dx,bt,bd,bo,hi1,hi2,hi3,hi4,hi5⟩:=hbk
   refine bg (fun σ' H'=>∃ (lb:Addr)(so:List Str),σ'=[some (.ref x),some (.str z),some (.ref lb),none,none,none,none,none,none]∧ae H H'∧H' lb=some (.lst (so.map V.str))∧so.Perm (bs.map (·.1))∧PyProof.Rows.sortedS so=true) (fun R hR=>?_) ?_
   · walk_at "dm"
     exact⟨dx,_,hi1,cm (by decide +kernel) (by decide +kernel),x,ss,bs,rfl,hbk0,B,fun l ns hl hpm hso=>hR _ _ ⟨l,ns,rfl,ae.updN hl,ad,hpm,hso⟩⟩
   rintro σ1 H1 ⟨lb,so,rfl,S1,hlb,hpm,hso⟩
   have hsn:so.Nodup:=hpm.nodup_iff.mpr B.bnd
   have hslt:=iM hso hsn
   have hsl:so.length=bs.length:=by rw[hpm.length_eq,List.length_map]
   refine bg (fun σ' H'=>∃ (d p0:Addr),σ'=[some (.ref x),some (.str z),some (.ref lb),some (.ref d),none,none,none,none,none]∧ae H1 H'∧H1 d=none∧H1 p0=none∧da H' d [(z,[])] [p0]) (fun R hR=>?_) ?_
   · walk_at "dm"
     intro p hp
     refine⟨by omega,fun p1 hp1=>?_⟩
     have n1:p≠p1:=aw ad hp1
     have hp1':H1 p1=none:=by rw[ag n1.symm] at hp1;exact hp1
     refine⟨by rw[ag n1];exact ad,[(Sum.inr z,V.ref p1)],rfl,by show 1≤15;decide,hR _ _ ⟨p,p1,rfl,nw (nw (nw (ae.refl _) hp) hp1') hp,hp,hp1',ad,rfl,fun i q e hq he=>?_⟩⟩
     rcases i with _ | i
     · cases hq;cases he;rw[ag n1.symm];exact ad
     · cases hq
   rintro σ2 H2 ⟨d,p0,rfl,S2,hd1,hp01,hR2⟩
   refine bg (fun σ' H'=>∃ ln,σ'=[some (.ref x),some (.str z),some (.ref lb),some (.ref d),some (.ref ln),none,none,none,none]∧ae H2 H'∧H' ln=some (.lst [V.str z])) (fun R hR=>?_) ?_
   · walk_at "dm"
     exact⟨by omega,fun p hp=>hR _ _ ⟨p,rfl,ae.updN hp,ad⟩⟩
   rintro σ3 H3 ⟨ln,rfl,S3,hln⟩
   have hokR:∀ r,OkR (bs.map (·.1)) r↔OkR so r:=fun r=>⟨fun h n hn=>hpm.mem_iff.mpr (h n hn),fun h n hn=>hpm.mem_iff.mp (h n hn)⟩
   have hkin:∀ {k R N},ij (lkB ss bs) so z k R N→∀ y∈aM R,y∈ss:=fun {k R N} I y hy=>by
     obtain⟨p,hp,rfl⟩:=List.mem_map.mp hy
     obtain⟨h1,h2,_⟩:=I.best p hp
     rw[←h2]
     exact e9 (gF B) _ _ ((hokR _).mpr h1) hz
   refine bg (fun σ' H'=>∃ (R:Rows)(ps:List Addr) (k:Nat)(o4 o5 o6 o7 o8:Option V),σ'=[some (.ref x),some (.str z),some (.ref lb),some (.ref d),o4,o5,o6,o7,o8]∧ae H1 H'∧da H' d R ps∧ij (lkB ss bs) so z k R []∧k≤R.length∧∀ p∈ps,H1 p=none) (fun R hR=>?_) ?_
   · unfold si
     obtain⟨Wp,hWp⟩:∃ Wp:Nat→St→Hp→Prop,∀ m σ' H',Wp m σ' H'↔∃ (R:Rows)(ps:List Addr)(ln:Addr)(N:List Str) (k:Nat)(o5 o6 o7 o8:Option V),σ'=[some (.ref x),some (.str z),some (.ref lb),some (.ref d),some (.ref ln),o5,o6,o7,o8]∧ae H1 H'∧H' ln=some (.lst (N.map V.str))∧da H' d R ps∧ij (lkB ss bs) so z k R N∧m=2*(12 - R.length)+(if N=[] then 0 else 1)∧k≤R.length∧(N≠[]→k+1≤R.length)∧(∀ p∈ps,H1 p=none):=⟨_,fun _ _ _=>Iff.rfl⟩
     refine⟨Wp,⟨_,(hWp _ _ _).mpr ⟨[(z,[])],[p0],ln,[z],0,none,none,none,none,rfl,S2.trans S3,hln,hR2.same S3,ij.start,rfl,Nat.zero_le _,fun _=>Nat.le_refl 1,fun p hp=>by rw[List.mem_singleton.mp hp];exact hp01⟩⟩,?_⟩
     intro m σ' H4 hw
     obtain⟨R1,ps,ln,N,k,o5,o6,o7,o8,rfl,S4,hln4,hR4,I,hm,hkl,hkl2,hpf⟩:=(hWp _ _ _).mp hw
     walk_at "dm"
     refine⟨_,.inl (SqL.of hln4),aY (fun hpos=>?_) (fun hneg=>?_)⟩
     · refine⟨fun σ' H'=>∃ m',m' < m∧Wp m' σ' H',fun _ _ h=>h,?_⟩
       have hR12:R1.length≤12:=by
         have:=eK I.nd (hkin I)
         rw[List.length_map] at this
         omega
       have hN12:N.length≤12:=by
         have hNn:N.Nodup:=I.pw.imp fun {a b} h e=>by rw[e] at h;exact uI h
         have:=eK hNn fun y hy=>hkin I y (I.old y hy).1
         omega
       refine bg (fun σ' H'=>∃ lf,H4 lf=none∧σ'=[some (.ref x),some (.str z),some (.ref lb),some (.ref d),some (.ref ln),some (.ref lf),o6,o7,o8]∧H'=upd H4 lf (.lst [])) (fun R hR=>?_) ?_
       · walk_at "dm"
         exact⟨by omega,fun p hp=>hR _ _ ⟨p,hp,rfl,rfl⟩⟩
       rintro σ5 H5 ⟨lf,hlf4,rfl,rfl⟩
       have S5:ae H4 (upd H4 lf (.lst [])):=ae.updN hlf4
       have J0:ShI H1 (upd H4 lf (.lst [])) lb d ln lf so N R1.length R1 ps:=⟨S4.trans S5,S5 _ _ (S4 _ _ hlb),S5 _ _ hln4,hR4.same S5,by rw[ad,List.drop_length];rfl,fun p hp=>by
         obtain⟨i,hi⟩:=List.getElem?_of_mem hp
         exact aw (hR4.2.2 i p _ hi (List.getElem?_eq_getElem (by rw[←hR4.2.1];exact(List.getElem?_eq_some_iff.mp hi).1))) hlf4,aw (S4 _ _ hlb) hlf4,aw hln4 hlf4,hd1,S4.free hlf4,hpf⟩
       generalize upd H4 lf (.lst [])=H5 at *
       refine bg (fun σ' H'=>∃ (ps2:List Addr)(o6 o7 o8:Option V),σ'=[some (.ref x),some (.str z),some (.ref lb),some (.ref d),some (.ref ln),some (.ref lf),o6,o7,o8]∧ShI H1 H' lb d ln lf so N R1.length (ge R1 (eS (lkB ss bs) so R1 N)) ps2) (fun R hR=>?_) ?_
       · walk_at "dm"
         refine⟨⟨_,SqL.of J0.hn⟩,?_⟩
         refine bf (H0:=fun b=>if b=ln then some (.lst (N.map V.str)) else none) (aJ (SqL.of (if_pos rfl))) (fun i σ' H'=>∃ (ps2:List Addr)(o6 o7 o8:Option V),σ'=[some (.ref x),some (.str z),some (.ref lb),some (.ref d),some (.ref ln),some (.ref lf),o6,o7,o8]∧ShI H1 H' lb d ln lf so N R1.length (ge R1 (eS (lkB ss bs) so R1 (N.take i))) ps2) ⟨ps,o6,o7,o8,rfl,J0⟩ (fun _ _ _ _ ⟨_,_,_,_,_,h⟩=>fun b o e=>?_) ?_ ?_
         · dsimp only at e
           split at e
           · rename_i hb;cases e;rw[hb];exact h.hn
           · cases e
         · rintro i y σ H' hi hy ⟨ps2,o6,o7,o8,rfl,J⟩ R2 hR2
           rw[List.getElem?_map] at hy
           obtain⟨s1,hs1,rfl⟩:=Option.map_eq_some_iff.mp hy
           have hsN:=List.mem_of_getElem? hs1
           walk_at "dm"
           refine⟨⟨_,SqL.of J.hb⟩,?_⟩
           refine bf (H0:=fun b=>if b=lb then some (.lst (so.map V.str)) else none) (aJ (SqL.of (if_pos rfl))) (fun j σ' H'=>∃ (ps2:List Addr)(o7 o8:Option V),σ'=[some (.ref x),some (.str z),some (.ref lb),some (.ref d),some (.ref ln),some (.ref lf),some (.str s1),o7,o8]∧ShI H1 H' lb d ln lf so N R1.length (ge R1 (eS (lkB ss bs) so R1 (N.take i)++(so.take j).map fun n=>(lkB ss bs n s1,aO R1 s1++[n]))) ps2) ⟨ps2,o7,o8,rfl,by rw[List.take_zero,List.map_nil,List.append_nil];exact J⟩ (fun _ _ _ _ ⟨_,_,_,_,h⟩=>fun b o e=>?_) ?_ ?_
           · dsimp only at e
             split at e
             · rename_i hb;cases e;rw[hb];exact h.hb
             · cases e
           · rintro j y σ H' hj hy ⟨ps3,o7,o8,rfl,J⟩ R3 hR3
             rw[List.getElem?_map] at hy
             obtain⟨n1,hn1,rfl⟩:=Option.map_eq_some_iff.mp hy
             obtain⟨b,hb,rfl⟩:=List.mem_map.mp (hpm.mem_iff.mp (List.mem_of_getElem? hn1))
             have hs1s:=hkin I s1 (I.old s1 hsN).1
             have SH:=S1.trans J.S
             walk_at "dm"
             refine⟨dx,_,SH _ _ hi1,cm (by decide +kernel) (by decide +kernel),x,ss,bs,b,s1,rfl,ae.book SH hbk0,B,hb,hs1s,?_⟩
             obtain⟨T,eT,hTn,hTc,hTr,hTs⟩:=ou I hslt hs1 j
             rw[eT] at J
             have hbm:=List.mem_of_getElem? hn1
             have eo:lkV ss b s1=lkB ss bs b.1 s1:=(f7 s1 B.bnd hb).symm
             have enext:ge R1 (eS (lkB ss bs) so R1 (N.take i)++(so.take (j+1)).map fun n=>(lkB ss bs n s1,aO R1 s1++[n]))=ge (R1++T) [(lkB ss bs b.1 s1,aO R1 s1++[b.1])]:=by
               rw[bH hn1,List.map_append,←List.append_assoc,mH,eT];rfl
             have hkss:∀ y∈aM (R1++T),y∈ss:=fun y hy=>by
               rw[gM] at hy
               rcases List.mem_append.mp hy with hy | hy
               · exact hkin I y hy
               · obtain⟨t,ht,rfl⟩:=List.mem_map.mp hy
                 obtain⟨s,n,h1,h2,h3⟩:=hTc t ht
                 rw[h3]
                 exact gF B n (hpm.mem_iff.mp h2) _ (hkin I s (I.old s h1).1)
             have hT12:(R1++T).length≤12:=by
               have:=eK hTn hkss
               rw[List.length_map] at this
               omega
             have hrow12:(aO R1 s1).length≤12:=by
               have:=(I.old s1 hsN).2
               have:=hkl2 (List.ne_nil_of_mem hsN)
               omega
             rw[eo]
             by_cases hk:lkB ss bs b.1 s1∈aM (R1++T)
             · obtain⟨p,g1,g2⟩:=J.hr.get hTn hk
               exact⟨some (.ref p),g1,aY (fun h=>by cases h) (fun _=>hR3 _ _ ⟨ps3,_,_,rfl,by rw[enext];unfold ge;rw[if_pos hk];exact J⟩)⟩
             · refine⟨none,.inl ⟨_,Sum.inr _,.inl J.hr.1,rfl,(bM _ _ _ hk).symm⟩,aY (fun _=>?_) (fun h=>absurd rfl h)⟩
               obtain⟨p,g1,g2⟩:=J.hr.get hTn hTs
               rw[hTr] at g2
               refine⟨_,g1,by omega,fun q1 hq1=>?_⟩
               have Sq:=ae.updN (o:=.lst [V.str b.1]) hq1
               refine⟨_,_,_,_,rfl,rfl,Sq _ _ g2,ad,?_,fun q2 hq2=>?_⟩
               · rw[List.length_map];exact Nat.le_trans (show _≤1000 by simp only[List.length_cons,List.length_nil];omega) hs
               have Sq2:=ae.updN (o:=.lst ((aO R1 s1).map V.str++[V.str b.1])) hq2
               have J2:=J.same (Sq.trans Sq2)
               have hqf:q2≠lf:=(aw (Sq _ _ J.hf) hq2).symm
               have hq:upd (upd H' q1 (.lst [V.str b.1])) q2 (.lst ((aO R1 s1).map V.str++[V.str b.1])) q2=some (.lst ((aO R1 s1++[b.1]).map V.str)):=by rw[ad,List.map_append];rfl
               have J3:=J2.put hq hqf ((J.S.trans Sq).free hq2) hk (by rw[List.length_append];omega)
               have hdl:lf≠d:=fun e=>by have:=J2.hf;rw[e,J2.hr.1] at this;cases this
               refine⟨_,.inl ⟨_,Sum.inr _,J2.hr.1,rfl,?_,rfl⟩,.inl ⟨rfl,_,SqL.of (by rw[ag hdl];exact J2.hf)⟩,_,by rw[ag hdl];exact J2.hf,?_,hR3 _ _ ⟨ps3++[q2],_,_,rfl,?_⟩⟩
               · rw[eO (by rw[List.length_map,List.length_map,J2.hr.2.1]),List.length_map];omega
               · rw[List.length_map,List.length_map,List.length_drop];omega
               · rw[enext]
                 unfold ge
                 rw[if_neg hk]
                 exact J3
           · rintro σ H' ⟨ps3,o7,o8,rfl,J⟩
             refine hR2 _ _ ⟨ps3,_,o7,o8,rfl,?_⟩
             rw[List.length_map,List.take_length] at J
             have e:eS (lkB ss bs) so R1 (N.take (i+1))=eS (lkB ss bs) so R1 (N.take i)++so.map fun n=>(lkB ss bs n s1,aO R1 s1++[n]):=by
               unfold eS
               rw[bH hs1,List.flatMap_append]
               simp
             rw[e]
             exact J
         · rintro σ H' ⟨ps2,o6,o7,o8,rfl,J⟩
           rw[List.length_map,List.take_length] at J
           exact hR _ _ ⟨ps2,o6,o7,o8,rfl,J⟩
       rintro σ6 H6 ⟨ps2,o6,o7,o8,rfl,J⟩
       walk_at "dm"
       obtain⟨T,eT,I2⟩:=I.step hslt
       rw[eT] at J
       have hT12:(R1++T).length≤12:=by
         have:=eK I2.nd (hkin I2)
         rw[List.length_map] at this
         omega
       have hf:=J.hf
       rw[List.drop_left] at hf
       have hNn:N≠[]:=fun e=>by rw[e] at hpos;simp at hpos
       have hk1:=hkl2 hNn
       refine⟨_,?_,(hWp _ _ _).mpr ⟨_,ps2,lf,aM T,_,_,_,_,_,rfl,J.S,hf,J.hr,I2,rfl,?_,fun hT=>?_,J.pf⟩⟩
       rotate_left
       · rw[List.length_append];omega
       · rw[List.length_append]
         have:T.length≠0:=fun e=>hT (by rw[List.length_eq_zero_iff.mp e];rfl)
         omega
       rw[hm,if_neg hNn,List.length_append]
       rw[List.length_append] at hT12
       cases T with
       | nil=>rw[if_pos (show aM []=[] from rfl)];simp only[List.length_nil];omega
       | cons t T=>simp only[List.length_cons] at hT12 ⊢;split<;>omega
     · have hN0:N=[]:=by
         rw[List.length_map] at hneg
         exact List.length_eq_zero_iff.mp (by omega)
       subst hN0
       exact hR _ _ ⟨R1,ps,k,_,_,_,_,_,rfl,S4,hR4,I,hkl,hpf⟩
   rintro σ4 H4 ⟨R1,ps,k,o4,o5,o6,o7,o8,rfl,S4,hR4,I,hkl,hpf⟩
   walk_at "dm"
   refine q d R1 ps H4 (S1.free hd1) (S1.trans S4) (fun p hp=>S1.free (hpf p hp)) hR4 ⟨I.nd,fun p hp=>?_,fun r hr=>I.done r ((hokR r).mp hr),fun p hp=>?_⟩
   rotate_left
   · have h1:=I.len p hp
     have h2:p.2.length≠k:=fun e=>by have:=I.new p hp e;cases this
     have h3:=eK I.nd (hkin I)
     rw[List.length_map] at h3
     omega
   obtain⟨h1,h2,h3⟩:=I.best p hp
   exact⟨(hokR _).mpr h1,h2,fun q hq=>h3 q ((hokR q).mp hq)⟩
def vd (CB:Addr):Sp:=fun vs H Q _=>∃ (x:Addr)(ss:List Str)(bs:List (Str×List Str)) (f l:Str),vs=[.ref x,.str f,.str l]∧ck H CB x ss bs∧aR ss bs∧f∈ss∧l∈ss∧(∀ (R:Rows)(t rw nm:Addr)(ps:List Addr)(so:List Str) H',gd ss bs f R→l∈aM R→so.Perm (aM R)→PyProof.Rows.sortedS so=true→ae H H'→H rw=none→H nm=none→rw≠nm→H' t=some (.tup [.ref rw,.ref nm])→H' rw=some (.lst ((aO R l).map V.str))→H' nm=some (.lst (ps.map V.ref))→eQ H' ps (so.map fun z=>[.str z,.int (((aO R z).length:Nat):Int)])→Q (.ref t) H')∧(∀ (R:Rows)(t ls:Addr)(so:List Str) H',gd ss bs f R→l∉aM R→so.Perm (aM R)→PyProof.Rows.sortedS so=true→ae H H'→H ls=none→H' t=some (.tup [.non,.ref ls])→H' ls=some (.lst (so.map V.str))→Q (.ref t) H')
theorem sE:aG ["book", "first", "last", "rows", "numbers"] ["book", "first", "last"] (af ow):=⟨rfl,rfl,rfl,by decide +kernel,rfl,by decide +kernel,by decide +kernel⟩
theorem wc {f fMH fSR:Addr}{fd fdMH fdSR:FuncData}{CB:Addr}(F:Fun K "way" "way" ow f fd)
   (T:Txt mg)(cB:Cls K CB)
   (GMH:au P w K mg base CX0 1 fMH fdMH ["self", "shade"] (iw CB))(hmMH:bW K CB "check_shade" fMH)(bMH:aE K fdMH ["self", "shade"] [])
   (GSR:au P w K mg base CX0 3 fSR fdSR ["book", "first"] (qi CB))(kSR:PySem.W.keepIn K (.ref fSR)=true)(bSR:aE K fdSR ["book", "first"] [])(mSR:mg "shortest_rows"=some (.ref fSR)) :
   au P w K mg base CX0 4 f fd ["book", "first", "last"] (vd CB):=by
 refine F.ok sE (fun vs H Q E h=>?_) (fun cdv A outer s H vs Q E hr h=>?_)
 · obtain⟨_,_,_,_,_,rfl,_⟩:=h
   rfl
 · obtain⟨x,ss,bs,z,l,rfl,hbk,B,hz,hl,q1,q2⟩:=h
   have hu:(cJ CX0 P w K mg base ["book", "first", "last", "rows", "numbers"] "way" (af ow) f cdv A outer s H E).A.units+1 < cLine:=by
     have:=hr.units
     exact Nat.lt_of_le_of_lt (Nat.add_le_add_left (by decide) _) this
   have hr1:=hr.mono (j:=1) (by omega)
   have hr3:=hr.mono (j:=3) (by omega)
   refine⟨_,(ak (aW (bq (pv 0) cB hmMH GMH hr1 bMH .nil aZ (aa (pv 1) ac)))
     (ak (aW (bq (pv 0) cB hmMH GMH hr1 bMH .nil aZ (aa (pv 2) ac)))
     (ak (aB (i:=3) sE.nd rfl (Or.inr rfl) (ay GSR hr3 rfl mSR kSR bSR .nil aZ (aa (pv 0) (aa (pv 1) ac))))
     (ak (aV (dL (cU hu (pv 2) (pv 3))) (ai (az (ed (aa rz (aa (al (dG rfl) (by rfl) T.sorted (by decide +kernel) (aa (pv 3) ac)) ac))))) ar)
     (ak (lK (i:=4) (N':=["shade", "rows"]) (pk:=[none,some 3]) sE.nd rfl (Or.inl rfl) rfl (cV.of (by rfl)) (br (al (dG rfl) (by rfl) T.sorted (by decide +kernel) (aa (pv 3) ac))) (fun s H ex=>(ap (i:=0) (by show(["shade", "rows"]:List Str).Nodup;decide +kernel) rfl (Or.inl rfl))) (fun s H ex=>(ed (aa (pv 0) (aa (al (ao:cX _ (.builtin "len") (fun xs H Q=>∃ p ys,xs=[.ref p]∧(SqL K H p ys∨SqT K H p ys)∧Q (.int (ys.length:Nat)) H)) (by rfl) T.len PySem.boot_len (aa (bn hu (pv 1) (pv 0) (fun _ _=>rfl)) ac)) ac)))))
     (ai (az (ed (aa (bn hu (pv 3) (pv 2) (fun _ _=>rfl)) (aa (pv 4) ac)))))))))),?_⟩
   have hs:=bi
   have hbk0:=hbk
   obtain⟨dx,bt,bd,bo,hi1,hi2,hi3,hi4,hi5⟩:=hbk
   refine bg (fun σ' H'=>σ'=[some (.ref x),some (.str z),some (.str l),none,none]∧H'=H) (fun R hR=>?_) ?_
   · walk_at "dm"
     exact⟨dx,_,hi1,cm (by decide +kernel) (by decide +kernel),x,ss,bs,z,rfl,hbk0,hz,hR _ _ ⟨rfl,rfl⟩⟩
   rintro σ1 H1 ⟨rfl,rfl⟩
   refine bg (fun σ' H'=>σ'=[some (.ref x),some (.str z),some (.str l),none,none]∧H'=H1) (fun R hR=>?_) ?_
   · walk_at "dm"
     exact⟨dx,_,hi1,cm (by decide +kernel) (by decide +kernel),x,ss,bs,l,rfl,hbk0,hl,hR _ _ ⟨rfl,rfl⟩⟩
   rintro σ1 H2 ⟨rfl,rfl⟩
   refine bg (fun σ' H'=>∃ (d:Addr)(R:Rows)(ps:List Addr),σ'=[some (.ref x),some (.str z),some (.str l),some (.ref d),none]∧ae H2 H'∧(∀ p∈ps,H2 p=none)∧da H' d R ps∧gd ss bs z R) (fun R hR=>?_) ?_
   · walk_at "dm"
     exact⟨x,ss,bs,z,rfl,hbk0,B,hz,fun d R ps H' hd S hp hr hw=>hR _ _ ⟨d,R,ps,rfl,S,hp,hr,hw⟩⟩
   rintro σ3 H3 ⟨d,R,ps,rfl,S3,hpf,hr,hw⟩
   have hk12:(aM R).length≤12:=by
     have hs12:=B.s12
     have:=eK hw.nd (m:=ss) fun y hy=>by
       obtain⟨p,hp,rfl⟩:=List.mem_map.mp hy
       obtain⟨h1,h2,_⟩:=hw.best p hp
       rw[←h2]
       exact e9 (gF B) _ _ h1 hz
     omega
   refine bg (fun σ' H'=>σ'=[some (.ref x),some (.str z),some (.str l),some (.ref d),none]∧H'=H3∧l∈aM R) (fun R9 hR9=>?_) ?_
   · walk_at "dm"
     by_cases hk:l∈aM R
     · obtain⟨p,g1,g2⟩:=hr.get hw.nd hk
       exact⟨some (.ref p),g1,aY (fun h=>by cases h) (fun _=>hR9 _ _ ⟨rfl,rfl,hk⟩)⟩
     · refine⟨none,.inl ⟨_,Sum.inr _,.inl hr.1,rfl,(bM _ _ _ hk).symm⟩,aY (fun _=>?_) (fun h=>absurd rfl h)⟩
       refine⟨aM R,_,.inl hr.1,hr.keys,by omega,fun p so hp hpm hso=>⟨by omega,fun t ht=>?_⟩⟩
       have Sp:=ae.updN (o:=.lst (so.map V.str)) hp
       have St:=ae.updN (o:=.tup [V.non,V.ref p]) ht
       exact q2 R t p so _ hw hk hpm hso (S3.trans (Sp.trans St)) (S3.free hp) ad (St _ _ ad)
   rintro σ4 H4 ⟨rfl,rfl,hlk⟩
   refine bg (fun σ' H'=>∃ (nm:Addr)(qs:List Addr)(so:List Str),σ'=[some (.ref x),some (.str z),some (.str l),some (.ref d),some (.ref nm)]∧ae H4 H'∧H4 nm=none∧so.Perm (aM R)∧PyProof.Rows.sortedS so=true∧H' nm=some (.lst (qs.map V.ref))∧eQ H' qs (so.map fun z=>[.str z,.int (((aO R z).length:Nat):Int)])) (fun R9 hR9=>?_) ?_
   · walk_at "dm"
     refine⟨aM R,_,.inl hr.1,hr.keys,by omega,fun p so hp hpm hso=>⟨⟨_,SqL.of ad⟩,fun D hD=>?_⟩⟩
     have Sp:=ae.updN (o:=.lst (so.map V.str)) hp
     have hsl:so.length≤12:=by rw[hpm.length_eq];exact hk12
     refine rq (aJ (SqL.of ad)) (by rw[List.length_map];omega) hD (fun σ=>∃ o,σ=[o,some (.ref d)]) (fun i v H'=>∃ t z,v=.ref t∧so[i]?=some z∧H' t=some (.tup [.str z,.int (((aO R z).length:Nat):Int)])) (fun i v H1 H2 S ⟨t,z,e1,e2,e3⟩=>⟨t,z,e1,e2,S _ _ e3⟩) ⟨none,rfl⟩ ?_ ?_
     · rintro i x σ' H' hi hx ⟨o,rfl⟩ hS hfr R8 hR8
       rw[List.getElem?_map] at hx
       obtain⟨z1,hz1,rfl⟩:=Option.map_eq_some_iff.mp hx
       have hzk:=hpm.mem_iff.mp (List.mem_of_getElem? hz1)
       have hr':=hr.same (Sp.trans hS)
       obtain⟨p1,g1,g2⟩:=hr'.get hw.nd hzk
       walk_at "dm"
       refine⟨_,g1,p1,rfl,_,.inl (SqL.of g2),by omega,fun t ht=>hR8 _ _ _ ⟨_,rfl⟩ (ae.updN ht) ⟨t,z1,rfl,hz1,?_⟩⟩
       rw[bP (hfr t ht),ad,List.length_map]
     · intro us H' hS hHD hul hE
       rw[List.length_map] at hul
       obtain⟨qs,rfl,hT⟩:=uB hul hE
       exact hR9 _ _ ⟨D,qs,so,rfl,Sp.trans hS,Sp.free hD,hpm,hso,hHD,hT.same cz⟩
   rintro σ5 H5 ⟨nm,qs,so,rfl,S5,hnm,hpm,hso,hn5,hT⟩
   walk_at "dm"
   obtain⟨p,g1,g2,hpm0⟩:=(hr.same S5).getm hw.nd hlk
   refine⟨_,g1,by omega,fun t ht=>?_⟩
   have St:=ae.updN (o:=.tup [V.ref p,V.ref nm]) ht
   have hp4:∃ o,H4 p=some o:=hr.there hpm0
   refine q1 R t p nm qs so _ hw hlk hpm hso (S3.trans (S5.trans St)) (hpf p hpm0) (S3.free hnm) (fun e=>?_) ad (St _ _ g2) (St _ _ hn5) (hT.same St)
   obtain⟨o,ho⟩:=hp4
   rw[e,hnm] at ho;cases ho
end

section
variable {P:Program}{w:World}{K:PySem.W.Frag}{mg:Str→Option Value}{base:Heap}
theorem ut {z:Str}(h:1≤z.length):ltN (Str.ofString "") z:=by
 show(Str.ofString "").cps.toList < z.cps.toList
 rw[jO]
 rw[d3] at h
 cases hz:z.cps.toList with
 | nil=>rw[hz] at h;simp at h
 | cons a l=>exact List.nil_lt_cons a l
structure mK (lk:Str→Str→Str)(ns ss:List Str) (f:Str)(so:List Str)(R:Rows):Prop where
 pw:so.Pairwise ltN
 ins:∀ z∈so,z∈ss∧1≤z.length
 len:so.length≤12
 f0:f∈so∧aO R f=[]
 le:∀ z∈so,∀ n∈ns,lk n z∈so∧(aO R (lk n z)).length≤(aO R z).length+1
 led:∀ z∈so,z=f∨∃ y∈so,∃ n∈ns,lk n y=z∧(aO R z).length=(aO R y).length+1
theorem tj {α:Type}{R:α→α→Prop}{L:List α}(h:L.Pairwise R){i j:Nat}{a b:α}(hij:i < j)(ha:L[i]?=some a)(hb:L[j]?=some b):R a b:=by
 obtain⟨h1,rfl⟩:=List.getElem?_eq_some_iff.mp ha
 obtain⟨h2,rfl⟩:=List.getElem?_eq_some_iff.mp hb
 exact List.pairwise_iff_getElem.mp h i j h1 h2 hij
theorem Fz.put {B G:Hp}{x:Addr}{o:HO}(S:Fz B G)(h:B x=none):Fz B (upd G x o):=by
 refine⟨fun b u e n=>?_,fun b u e=>?_⟩
 · rw[ag (fun z=>by rw[z,h] at e;cases e)];exact S.1 _ _ e n
 · have hb:b≠x:=fun z=>by rcases e with e | ⟨_,e⟩<;>(rw[z,h] at e;cases e)
   rcases S.2 _ _ e with k | ⟨w,k⟩
   · exact .inl (by rw[ag hb];exact k)
   · exact .inr ⟨w,by rw[ag hb];exact k⟩
def oW:Sp:=fun vs H Q _=>∃ (t:Addr) (x y:V),vs=[.ref t]∧H t=some (.tup [x,y])∧Q (.bl true) H
theorem wg:aG ["_law_found"] ["_law_found"] (af k7):=⟨rfl,rfl,rfl,by decide +kernel,rfl,by decide +kernel,by decide +kernel⟩
theorem t3 {f:Addr}{fd:FuncData}(F:Fun K "_law_pair" "_law_pair" k7 f fd)
   (T:Txt mg)  :
   au P w K mg base CX0 1 f fd ["_law_found"] oW:=by
 refine F.ok wg (fun vs H Q E h=>?_) (fun cdv A outer s H vs Q E hr h=>?_)
 · obtain⟨_,_,_,rfl,_⟩:=h
   rfl
 · obtain⟨t,x,y,rfl,ht,q⟩:=h
   refine⟨_,(ai (az (lW (al cR (by rfl) T.isi (by decide +kernel) (aa (pv 0) (aa (dv (v:=.ty "tuple") rfl T.tuple (by decide +kernel) rfl) ac))) (lV (dw dt (al ao (by rfl) T.len PySem.boot_len (aa (pv 0) ac)) aj (aK _)))))),?_⟩
   walk_at "dm"
   refine⟨_,eC.tup ht,true,rfl,aY (fun _=>⟨_,.inr (SqT.of ht),rfl,?_⟩) (fun h=>absurd rfl h)⟩
   exact q
end

section
variable {P:Program}{w:World}{K:PySem.W.Frag}{mg:Str→Option Value}{base:Heap}
def FzP (P:Addr→Prop)(H H':Hp):Prop:=(∀ b o,H b=some o→(∀ kvs,o≠.dK kvs)→H' b=some o)∧(∀ b o,Rd H b o→Rd H' b o)∧∀ b o,P b→H b=some o→H' b=some o
section
variable {Pz:Addr→Prop}
theorem FzP.fz {H H':Hp}(S:FzP Pz H H'):Fz H H':=⟨S.1,S.2.1⟩
theorem ae.fzp {H H':Hp}(S:ae H H'):FzP Pz H H':=⟨fun b o h _=>S b o h,fun b o h=>ae.rd S h,fun b o _ h=>S b o h⟩
theorem FzP.refl (H:Hp):FzP Pz H H:=⟨fun _ _ h _=>h,fun _ _ h=>h,fun _ _ _ h=>h⟩
theorem FzP.trans {H H1 H2:Hp}(a:FzP Pz H H1)(b:FzP Pz H1 H2):FzP Pz H H2:=⟨fun c o h n=>b.1 c o (a.1 c o h n) n,fun c o h=>b.2.1 c o (a.2.1 c o h),fun c o p h=>b.2.2 c o p (a.2.2 c o p h)⟩
theorem FzP.tabG {H H':Hp}{d:Addr}{ss ns:List Str}{lk:Str→Str→Str}(S:FzP Pz H H')(h:gN H d ss ns lk):gN H' d ss ns lk:=Fz.tabG S.fz h
theorem FzP.seq {K:PySem.W.Frag}{H H':Hp}{a:Addr}{xs:List V}(S:FzP Pz H H')(h:SqL K H a xs):SqL K H' a xs:=Fz.seq S.fz h
theorem FzP.put {B G:Hp}{x:Addr}{o:HO}(S:FzP Pz B G)(h:B x=none):FzP Pz B (upd G x o):=by
 obtain⟨f1,f2⟩:=Fz.put (o:=o) S.fz h
 exact⟨f1,f2,fun b u p e=>by rw[ag (fun z=>by rw[z,h] at e;cases e)];exact S.2.2 b u p e⟩
theorem gu {H1:Hp}{d:Addr}{kvs:List (Key×V)}(hd:¬Pz d){W:Obj→Hp→Prop}(h:Rd H1 d (.dK kvs))(k:∀ o HF,HF d=some (.frz o (.dK kvs))→FzP Pz H1 HF→W o HF) :
   (H1 d=some (.dK kvs)∧∀ o,W o (upd H1 d (.frz o (.dK kvs))))∨∃ o,H1 d=some (.frz o (.dK kvs))∧W o H1:=by
 rcases h with h | ⟨o,h⟩
 · exact .inl ⟨h,fun o=>k o _ ad ⟨(ix h).1,(ix h).2,fun b u p e=>by rw[ag (fun z=>hd (by rw[←z];exact p))];exact e⟩⟩
 · exact .inr ⟨o,h,k o _ h (FzP.refl _)⟩
end
def kW (K:PySem.W.Frag):Sp:=fun vs H Q _=>∃ (l lo:Addr)(ps:List Addr)(so:List Str)(L:List (Str×Int)),vs=[.ref l,.ref lo]∧H l=some (.lst (ps.map V.ref))∧eQ H ps (L.map fun e=>[.str e.1,.int e.2])∧SqL K H lo (so.map V.str)∧(∀ e∈L,e.1∈so∧1≤e.1.length)∧L.Pairwise (fun a b=>ltN a.1 b.1)∧L.length≤100∧Q (.bl true) H
theorem gH:aG ["_law_numbers", "_law_order", "_law_ahead", "_law_one"] ["_law_numbers", "_law_order"] (af fb):=⟨rfl,rfl,rfl,by decide +kernel,rfl,by decide +kernel,by decide +kernel⟩
theorem ot {f fPr:Addr}{fd fdPr:FuncData}(F:Fun K "_law_numbers_formed" "_law_numbers_formed" fb f fd)
   (T:Txt mg)(TBo:mg "bool"=none)
   (GPr:au P w K mg base CX0 1 fPr fdPr ["_law_found"] oW)(kPr:PySem.W.keepIn K (.ref fPr)=true)(bPr:aE K fdPr ["_law_found"] [])(mPr:mg "_law_pair"=some (.ref fPr)) :
   au P w K mg base CX0 2 f fd ["_law_numbers", "_law_order"] (kW K):=by
 refine F.ok gH (fun vs H Q E h=>?_) (fun cdv A outer s H vs Q E hr h=>?_)
 · obtain⟨_,_,_,_,_,rfl,_⟩:=h
   rfl
 · obtain⟨l,lo,ps,so,L,rfl,hl,hT,hlo,hin,hpw,hL,q⟩:=h
   have hr1:=hr.mono (j:=1) (by omega)
   refine⟨_,(ak (aB (i:=2) gH.nd rfl (Or.inl rfl) bQ)
     (ak (aV (cM (cE (al cR (by rfl) T.isi (by decide +kernel) (aa (pv 0) (aa (dv (v:=.ty "list") rfl T.list (by decide +kernel) rfl) ac))))) (ai (az cv)) ar)
     (ak (bu PassesOwn.never rfl (br (pv 0)) (ap (i:=3) gH.nd rfl (Or.inl rfl)) (ak (aV (PW.pt (dC (cM (cE (ay GPr hr1 rfl mPr kPr bPr .nil aZ (aa (pv 3) ac)))) (dC (cM (cE (al cR (by rfl) T.isi (by decide +kernel) (aa (bc du (pv 3) aj (fun _ _=>rfl)) (aa (dv (v:=.ty "str") rfl T.str (by decide +kernel) rfl) ac))))) (dC (ax bV (bc du (pv 3) aj (fun _ _=>rfl)) (pv 1) (by with_unfolding_all rfl)) (dB (ax qj (bc du (pv 3) aj (fun _ _=>rfl)) (pv 2) (aK _))))))) (ai (az cv)) ar)
     (ak (aV (PW.pt (dC (cM (cE (al cR (by rfl) T.isi (by decide +kernel) (aa (bc du (pv 3) aj (fun _ _=>rfl)) (aa (dv (v:=.ty "int") rfl T.int (by decide +kernel) rfl) ac))))) (dB (cE (al cR (by rfl) T.isi (by decide +kernel) (aa (bc du (pv 3) aj (fun _ _=>rfl)) (aa (dv (v:=.ty "bool") rfl TBo (by decide +kernel) rfl) ac))))))) (ai (az cv)) ar)
     (ai (aB (i:=2) gH.nd rfl (Or.inl rfl) (bc du (pv 3) aj (fun _ _=>rfl)))))))
     (ai (az cv))))),?_⟩
   have hs:=bi
   have hpl:=hT.1
   rw[List.length_map] at hpl
   refine bg (fun σ' H'=>σ'=[some (.ref l),some (.ref lo),some (.str ""),none]∧H'=H) (fun R hR=>?_) ?_
   · walk_at "dm"
     exact hR _ _ ⟨rfl,rfl⟩
   rintro σ1 H1 ⟨rfl,rfl⟩
   refine bg (fun σ' H'=>σ'=[some (.ref l),some (.ref lo),some (.str ""),none]∧H'=H1) (fun R hR=>?_) ?_
   · walk_at "dm"
     exact⟨_,eC.lst hl,true,rfl,aY (fun h=>by cases h) (fun _=>hR _ _ ⟨rfl,rfl⟩)⟩
   rintro σ2 H2 ⟨rfl,rfl⟩
   refine bg (fun σ' H'=>H'=H2) (fun R hR=>?_) ?_
   · walk_at "dm"
     refine⟨⟨_,SqL.of hl⟩,?_⟩
     refine bf (H0:=H2) (aJ (SqL.of hl)) (fun i σ' H'=>∃ (ah:Str)(o3:Option V),σ'=[some (.ref l),some (.ref lo),some (.str ah),o3]∧H'=H2∧∀ e,L[i]?=some e→ltN ah e.1) ⟨Str.ofString "",none,rfl,rfl,fun e he=>ut (hin e (List.mem_of_getElem? he)).2⟩ (fun _ _ _ _ ⟨_,_,_,h,_⟩=>by rw[h];exact ae.refl _) ?_ (fun σ H' ⟨_,_,_,h,_⟩=>hR _ _ h)
     rintro i x σ H' hi hx ⟨ah,o3,rfl,rfl,hah⟩ R2 hR2
     rw[List.getElem?_map] at hx
     obtain⟨p,hp,rfl⟩:=Option.map_eq_some_iff.mp hx
     obtain⟨e,he⟩:∃ e,L[i]?=some e:=⟨_,List.getElem?_eq_getElem (by rw[←hpl];exact(List.getElem?_eq_some_iff.mp hp).1)⟩
     have ht:=hT.2 i p [.str e.1,.int e.2] hp (by rw[List.getElem?_map,he];rfl)
     have hem:=hin e (List.mem_of_getElem? he)
     have hlt:=hah e he
     refine bg (fun σ' H''=>σ'=[some (.ref l),some (.ref lo),some (.str ah),some (.ref p)]∧H''=H') (fun R3 hR3=>?_) ?_
     · walk_at "dm"
       refine⟨p,_,_,rfl,ht,true,rfl,aY (fun h=>by cases h) (fun _=>⟨_,SqT.of ht,_,rfl,_,eC.str _,true,rfl,aY (fun h=>by cases h) (fun _=>⟨_,SqT.of ht,_,rfl,_,.inl hlo,rfl,cj so,aY (fun hn=>?_) (fun _=>⟨_,SqT.of ht,_,rfl,e.1,rfl,aY (fun hn=>absurd hlt hn) (fun _=>hR3 _ _ ⟨rfl,rfl⟩)⟩)⟩)⟩)⟩
       rw[cW,decide_eq_true hem.1] at hn
       cases hn
     rintro σ3 H3 ⟨rfl,rfl⟩
     refine bg (fun σ' H''=>σ'=[some (.ref l),some (.ref lo),some (.str ah),some (.ref p)]∧H''=H3) (fun R3 hR3=>?_) ?_
     · walk_at "dm"
       exact⟨_,SqT.of ht,_,rfl,_,eC.int _,true,rfl,aY (fun h=>by cases h) (fun _=>⟨_,SqT.of ht,_,rfl,_,eC.int _,false,rfl,aY (fun h=>by cases h) (fun _=>hR3 _ _ ⟨rfl,rfl⟩)⟩)⟩
     rintro σ4 H4 ⟨rfl,rfl⟩
     walk_at "dm"
     exact⟨_,SqT.of ht,_,rfl,hR2 _ _ ⟨e.1,_,rfl,rfl,fun e' he'=>tj hpw (Nat.lt_succ_self i) he he'⟩⟩
   rintro σ3 H3 rfl
   walk_at "dm"
   exact q
def j9 (K:PySem.W.Frag):Sp:=fun vs H Q _=>∃ (Pz:Addr→Prop)(l lo d:Addr)(ps:List Addr)(so ss ns:List Str)(lk:Str→Str→Str) (zf:Str)(R:Rows),vs=[.ref l,.ref lo,.ref d,.str zf]∧H l=some (.lst (ps.map V.ref))∧eQ H ps (so.map fun z=>[.str z,.int (((aO R z).length:Nat):Int)])∧(∃ oo:List Str,SqL K H lo (oo.map V.str)∧∀ z∈so,z∈oo)∧gN H d ss ns lk∧(∀ n∈ns,∀ z∈ss,lk n z∈ss)∧mK lk ns ss zf so R∧ns.length≤8∧¬Pz d∧(∀ b,Pz b→H b≠none)∧∀ H',FzP Pz H H'→Q (.bl true) H'
theorem dA:aG ["_law_numbers", "_law_order", "_law_tables_here", "_law_first", "_law_counted", "_law_led", "_law_shade", "_law_bath", "_law_came"] ["_law_numbers", "_law_order", "_law_tables_here", "_law_first"] (af dW):=⟨rfl,rfl,rfl,by decide +kernel,rfl,by decide +kernel,by decide +kernel⟩
theorem mX {f fNF:Addr}{fd fdNF:FuncData}(F:Fun K "_law_numbers_right" "_law_numbers_right" dW f fd)
   (T:Txt mg)
   (GNF:au P w K mg base CX0 2 fNF fdNF ["_law_numbers", "_law_order"] (kW K))(kNF:PySem.W.keepIn K (.ref fNF)=true)(bNF:aE K fdNF ["_law_numbers", "_law_order"] [])(mNF:mg "_law_numbers_formed"=some (.ref fNF)) :
   au P w K mg base CX0 3 f fd ["_law_numbers", "_law_order", "_law_tables_here", "_law_first"] (j9 K):=by
 refine F.ok dA (fun vs H Q E h=>?_) (fun cdv A outer s H vs Q E hr h=>?_)
 · obtain⟨_,_,_,_,_,_,_,_,_,_,_,rfl,_⟩:=h
   rfl
 · obtain⟨Pz,l,lo,d,ps,so,ss,ns,lk,zf,R,rfl,hl,hT,⟨oo,hlo,hoo⟩,hG,hcl,N,hns8,hPd,hPn,q⟩:=h
   have hu:(cJ CX0 P w K mg base ["_law_numbers", "_law_order", "_law_tables_here", "_law_first", "_law_counted", "_law_led", "_law_shade", "_law_bath", "_law_came"] "_law_numbers_right" (af dW) f cdv A outer s H E).A.units+1 < cLine:=by
     have:=hr.units
     exact Nat.lt_of_le_of_lt (Nat.add_le_add_left (by decide) _) this
   have hr2:=hr.mono (j:=2) (by omega)
   refine⟨_,(ak (aV (cM (cE (ay GNF hr2 rfl mNF kNF bNF .nil aZ (aa (pv 0) (aa (pv 1) ac))))) (ai (az cv)) ar)
     (ak (aB (i:=4) dA.nd rfl (Or.inl rfl) (bw (jw rfl) (by rfl) T.dict (by decide +kernel) (aa (pv 0) ac)))
     (ak (aB (i:=5) dA.nd rfl (Or.inl rfl) (cn (aa (pv 3) ac)))
     (ak (bu PassesOwn.never rfl (fP (pv 4)) (ap (i:=6) dA.nd rfl (Or.inl rfl)) (ai (bu PassesOwn.never rfl (fP (pv 2)) (ap (i:=7) dA.nd rfl (Or.inl rfl)) (aq (aB (i:=8) dA.nd rfl (Or.inl rfl) (bn hu (bn hu (pv 2) (pv 7) (fun _ _=>rfl)) (pv 6) (fun _ _=>rfl)))
     (aq (aV (PW.pt (dC (dL (cU hu (pv 8) (pv 4))) (dB (ax gh (bn hu (pv 4) (pv 8) (fun _ _=>rfl)) (aH b9 (bn hu (pv 4) (pv 6) (fun _ _=>rfl)) aj) (aK _))))) (ai (az cv)) ar)
     (ai (aV (ax dt (bn hu (pv 4) (pv 8) (fun _ _=>rfl)) (aH b9 (bn hu (pv 4) (pv 6) (fun _ _=>rfl)) aj) (aK _)) (ai (aW (gc PySem.F.plainAttrs_list PySem.F.slot_list_append PySem.F.type_list_append cr (pv 5) (aa (pv 8) ac)))) ar)))))))
     (ak (bu PassesOwn.never rfl (fP (pv 4)) (ap (i:=6) dA.nd rfl (Or.inl rfl)) (ai (aV (PW.pt (dC (ax bV (pv 6) (pv 5) (by with_unfolding_all rfl)) (dB (ax iV (bn hu (pv 4) (pv 6) (fun _ _=>rfl)) aj (aK _))))) (ai (az cv)) ar)))
     (ai (az (lW (vE (jE hu (pv 3) (pv 4))) (lV (dw dt (bn hu (pv 4) (pv 3) (fun _ _=>rfl)) aj (aK _))))))))))),?_⟩
   have hs:=bi
   have hsl:=N.len
   have hpl:=hT.1
   rw[List.length_map] at hpl
   have hsnd:so.Nodup:=N.pw.imp fun {a b} h e=>by rw[e] at h;exact ml h
   have hcv:∀ z∈so,bZ (bj so (so.map fun z=>V.int (((aO R z).length:Nat):Int))) (Sum.inr z)=some (.int (((aO R z).length:Nat):Int)):=fun z hz=>by
     obtain⟨i,hi⟩:=List.getElem?_of_mem hz
     exact cT _ _ i z _ hsnd hi (by rw[List.getElem?_map,hi];rfl)
   have hck:(bj so (so.map fun z=>V.int (((aO R z).length:Nat):Int))).map (·.1)=so.map Sum.inr:=gI (by rw[List.length_map])
   have hcn:∀ z,z∉so→bZ (bj so (so.map fun z=>V.int (((aO R z).length:Nat):Int))) (Sum.inr z)=none:=fun z hz=>bM _ _ _ hz
   refine bg (fun σ' H'=>σ'=[some (.ref l),some (.ref lo),some (.ref d),some (.str zf),none,none,none,none,none]∧H'=H) (fun R9 hR=>?_) ?_
   · walk_at "dm"
     refine⟨l,lo,ps,oo,so.map fun z=>(z,(((aO R z).length:Nat):Int)),rfl,hl,by rw[List.map_map];exact hT,hlo,fun e he=>?_,?_,by rw[List.length_map];omega,true,rfl,aY (fun h=>by cases h) (fun _=>hR _ _ ⟨rfl,rfl⟩)⟩
     · obtain⟨z,hz,rfl⟩:=List.mem_map.mp he
       exact⟨hoo z hz,(N.ins z hz).2⟩
     · rw[List.pairwise_map];exact N.pw
   rintro σ1 H1 ⟨rfl,rfl⟩
   refine bg (fun σ' H'=>∃ c,H1 c=none∧σ'=[some (.ref l),some (.ref lo),some (.ref d),some (.str zf),some (.ref c),none,none,none,none]∧H'=upd H1 c (.dK (bj so (so.map fun z=>V.int (((aO R z).length:Nat):Int))))) (fun R9 hR=>?_) ?_
   · walk_at "dm"
     refine⟨ps,SqL.of hl,so.map fun z=>(z,V.int (((aO R z).length:Nat):Int)),by rw[List.length_map];exact hpl,fun i p e hp he=>?_,by rw[List.length_map];omega,fun p hp=>hR _ _ ⟨p,hp,rfl,?_⟩⟩
     · rw[List.getElem?_map] at he
       obtain⟨z,hz,rfl⟩:=Option.map_eq_some_iff.mp he
       exact hT.2 i p _ hp (by rw[List.getElem?_map,hz];rfl)
     · have e1:(so.map fun z=>(z,V.int (((aO R z).length:Nat):Int))).map (·.1)=so:=by rw[List.map_map];exact(List.map_congr_left (g:=id) (fun z _=>rfl)).trans (List.map_id so)
       have e2:(so.map fun z=>(z,V.int (((aO R z).length:Nat):Int))).map (·.2)=so.map fun z=>V.int (((aO R z).length:Nat):Int):=by rw[List.map_map];rfl
       rw[e1,e2,fZ hsnd]
   rintro σ2 H2 ⟨c,hc1,rfl,rfl⟩
   have hPc:¬Pz c:=fun h=>hPn c h hc1
   have S2:ae H1 (upd H1 c (.dK (bj so (so.map fun z=>V.int (((aO R z).length:Nat):Int))))):=ae.updN hc1
   have hc2:upd H1 c (.dK (bj so (so.map fun z=>V.int (((aO R z).length:Nat):Int)))) c=some (.dK (bj so (so.map fun z=>V.int (((aO R z).length:Nat):Int)))):=ad
   generalize upd H1 c (.dK (bj so (so.map fun z=>V.int (((aO R z).length:Nat):Int))))=B at *
   have hG2:=Fz.tabG (ae.fz S2) hG
   refine bg (fun σ' H'=>∃ ld,B ld=none∧σ'=[some (.ref l),some (.ref lo),some (.ref d),some (.str zf),some (.ref c),some (.ref ld),none,none,none]∧H'=upd B ld (.lst [V.str zf])) (fun R9 hR=>?_) ?_
   · walk_at "dm"
     exact⟨by omega,fun p hp=>hR _ _ ⟨p,hp,rfl,rfl⟩⟩
   rintro σ3 H3 ⟨ld,hld,rfl,rfl⟩
   have F3:FzP Pz B (upd B ld (.lst [V.str zf])):=(FzP.refl B).put hld
   have hl3:upd B ld (.lst [V.str zf]) ld=some (.lst ([zf].map V.str)):=ad
   generalize upd B ld (.lst [V.str zf])=H3 at *
   refine bg (fun σ' H'=>∃ (led:List Str)(o6 o7 o8:Option V),σ'=[some (.ref l),some (.ref lo),some (.ref d),some (.str zf),some (.ref c),some (.ref ld),o6,o7,o8]∧FzP Pz B H'∧H' ld=some (.lst (led.map V.str))∧∀ z∈so,z∈led) (fun R9 hR=>?_) ?_
   · walk_at "dm"
     refine⟨_,gu hPc (W:=fun o HF=>lU (Itd c o _) _ _ _ _ HF) (F3.2.1 _ _ (.inl hc2)) fun o HF hHF FF=>?_⟩
     have hl5:HF ld=some (.lst ([zf].map V.str)):=FF.1 _ _ hl3 (fun _ e=>by cases e)
     refine bf (H0:=fun b=>if b=c then some (.frz o (.dK (bj so (so.map fun z=>V.int (((aO R z).length:Nat):Int))))) else none) (cZ (if_pos rfl)) (fun i σ' H'=>∃ (led:List Str)(o6 o7 o8:Option V),σ'=[some (.ref l),some (.ref lo),some (.ref d),some (.str zf),some (.ref c),some (.ref ld),o6,o7,o8]∧FzP Pz B H'∧H' c=some (.frz o (.dK (bj so (so.map fun z=>V.int (((aO R z).length:Nat):Int)))))∧H' ld=some (.lst (led.map V.str))∧led.length≤1+8*i∧zf∈led∧∀ y∈so.take i,∀ n∈ns,(aO R (lk n y)).length=(aO R y).length+1→lk n y∈led) ⟨[zf],none,none,none,rfl,F3.trans FF,hHF,hl5,by simp,by simp,fun y hy=>by rw[List.take_zero] at hy;cases hy⟩ (fun _ _ _ _ ⟨_,_,_,_,_,_,h,_⟩=>fun b o e=>?_) ?_ ?_
     · dsimp only at e
       split at e
       · rename_i hb;cases e;rw[hb];exact h
       · cases e
     · rintro i x σ H' hi ⟨k,v,hk,rfl⟩ ⟨led,o6,o7,o8,rfl,F,hc,hl,hlen,hfin,hled⟩ R2 hR2
       obtain⟨y,hy,rfl⟩:∃ y,so[i]?=some y∧Sum.inr y=k:=by
         have h1:((bj so (so.map fun z=>V.int (((aO R z).length:Nat):Int))).map (·.1))[i]?=some k:=by rw[List.getElem?_map,hk];rfl
         rw[hck,List.getElem?_map] at h1
         exact Option.map_eq_some_iff.mp h1
       have hym:=List.mem_of_getElem? hy
       have hi12:i < so.length:=(List.getElem?_eq_some_iff.mp hy).1
       walk_at "dm"
       obtain⟨kvs,hRd,hkeys,htab⟩:=FzP.tabG F hG2
       refine⟨kvs,gu hPd (W:=fun o HF=>lU (Itd d o kvs) _ _ _ _ HF) hRd fun o2 HF2 hHF2 FF2=>?_⟩
       refine bf (H0:=fun b=>if b=d then some (.frz o2 (.dK kvs)) else none) (cZ (if_pos rfl)) (fun j σ' H'=>∃ (led:List Str)(o7 o8:Option V),σ'=[some (.ref l),some (.ref lo),some (.ref d),some (.str zf),some (.ref c),some (.ref ld),some (.str y),o7,o8]∧FzP Pz B H'∧H' c=some (.frz o (.dK (bj so (so.map fun z=>V.int (((aO R z).length:Nat):Int)))))∧H' d=some (.frz o2 (.dK kvs))∧H' ld=some (.lst (led.map V.str))∧led.length≤1+8*i+j∧zf∈led∧(∀ y∈so.take i,∀ n∈ns,(aO R (lk n y)).length=(aO R y).length+1→lk n y∈led)∧∀ n∈ns.take j,(aO R (lk n y)).length=(aO R y).length+1→lk n y∈led) ⟨led,o7,o8,rfl,F.trans FF2,FF2.1 _ _ hc (fun _ e=>by cases e),hHF2,FF2.1 _ _ hl (fun _ e=>by cases e),by omega,hfin,hled,fun n hn=>by rw[List.take_zero] at hn;cases hn⟩ (fun _ _ _ _ ⟨_,_,_,_,_,_,h,_⟩=>fun b o e=>?_) ?_ ?_
       · dsimp only at e
         split at e
         · rename_i hb;cases e;rw[hb];exact h
         · cases e
       · rintro j x σ H' hj ⟨k,v,hk,rfl⟩ ⟨led,o7,o8,rfl,F,hc,hd,hl,hlen,hfin,hled,hled2⟩ R3 hR3
         obtain⟨n,hn,rfl⟩:∃ n,ns[j]?=some n∧Sum.inr n=k:=by
           have h1:(kvs.map (·.1))[j]?=some k:=by rw[List.getElem?_map,hk];rfl
           rw[hkeys,List.getElem?_map] at h1
           exact Option.map_eq_some_iff.mp h1
         have hnm:=List.mem_of_getElem? hn
         have hj8:j < ns.length:=(List.getElem?_eq_some_iff.mp hn).1
         obtain⟨hcin,hcle⟩:=N.le y hym n hnm
         obtain⟨r,g1,g2⟩:=(FzP.tabG F hG2).get hnm (N.ins y hym).1
         have hget:∀ z∈so,iP H' c (.str z) (some (.int (((aO R z).length:Nat):Int))):=fun z hz=>.inl ⟨_,Sum.inr z,.inr ⟨o,hc⟩,rfl,(hcv z hz).symm⟩
         walk_at "dm"
         refine⟨_,g1,r,rfl,_,g2,?_⟩
         have hcl2:c≠ld:=fun e=>by rw[e,hl] at hc;cases hc
         have hdl2:d≠ld:=fun e=>by rw[e,hl] at hd;cases hd
         refine⟨some _,hget _ hcin,aY (fun h=>by cases h) (fun _=>⟨_,hget _ hcin,_,hget y hym,_,rfl,_,rfl,aY (fun h=>absurd h (by omega)) (fun _=>⟨_,hget _ hcin,_,hget y hym,_,rfl,rfl,aY (fun he=>?_) (fun he=>?_)⟩)⟩)⟩
         · refine⟨.inl ⟨rfl,_,SqL.of hl⟩,_,hl,by rw[List.length_map];omega,hR3 _ _ ⟨led++[lk n y],_,_,rfl,F.put hld,by rw[ag hcl2];exact hc,by rw[ag hdl2];exact hd,by rw[ad,List.map_append];rfl,by rw[List.length_append,List.length_singleton];omega,List.mem_append_left _ hfin,fun y' h1 n' h2 h3=>List.mem_append_left _ (hled y' h1 n' h2 h3),fun n' h2 h3=>?_⟩⟩
           rw[bH hn] at h2
           rcases List.mem_append.mp h2 with h2 | h2
           · exact List.mem_append_left _ (hled2 n' h2 h3)
           · rw[List.mem_singleton.mp h2];exact List.mem_append_right _ (List.mem_singleton.mpr rfl)
         · refine hR3 _ _ ⟨led,_,_,rfl,F,hc,hd,hl,by omega,hfin,hled,fun n' h2 h3=>?_⟩
           rw[bH hn] at h2
           rcases List.mem_append.mp h2 with h2 | h2
           · exact hled2 n' h2 h3
           · rw[List.mem_singleton.mp h2] at h3
             exact absurd (by rw[h3];rfl) he
       · rintro σ H' ⟨led,o7,o8,rfl,F,hc,hd,hl,hlen,hfin,hled,hled2⟩
         have hkl:kvs.length=ns.length:=by
           have:=congrArg List.length hkeys
           rwa [List.length_map,List.length_map] at this
         rw[hkl] at hled2 hlen
         rw[List.take_length] at hled2
         refine hR2 _ _ ⟨led,_,_,_,rfl,F,hc,hl,by omega,hfin,fun y' hy'=>?_⟩
         rw[bH hy] at hy'
         rcases List.mem_append.mp hy' with hy' | hy'
         · exact hled y' hy'
         · rw[List.mem_singleton.mp hy'];exact hled2
     · rintro σ H' ⟨led,o6,o7,o8,rfl,F,hc,hl,hlen,hfin,hled⟩
       have hzl:(bj so (so.map fun z=>V.int (((aO R z).length:Nat):Int))).length=so.length:=eO (by rw[List.length_map])
       rw[hzl,List.take_length] at hled
       refine hR _ _ ⟨led,_,_,_,rfl,F,hl,fun z hz=>?_⟩
       rcases N.led z hz with h | ⟨y,hy,n,hn,h1,h2⟩
       · rw[h];exact hfin
       · rw[←h1] at h2 ⊢
         exact hled y hy n hn h2
   rintro σ4 H4 ⟨led,o6,o7,o8,rfl,F4,hl4,hin4⟩
   refine bg (fun σ' H'=>∃ (o6 o7 o8:Option V),σ'=[some (.ref l),some (.ref lo),some (.ref d),some (.str zf),some (.ref c),some (.ref ld),o6,o7,o8]∧FzP Pz B H') (fun R9 hR=>?_) ?_
   · walk_at "dm"
     refine⟨_,gu hPc (W:=fun o HF=>lU (Itd c o _) _ _ _ _ HF) (F4.2.1 _ _ (.inl hc2)) fun o HF hHF FF=>?_⟩
     refine bf (H0:=HF) (cZ hHF) (fun i σ' H'=>∃ (o6 o7 o8:Option V),σ'=[some (.ref l),some (.ref lo),some (.ref d),some (.str zf),some (.ref c),some (.ref ld),o6,o7,o8]∧ae HF H') ⟨o6,o7,o8,rfl,ae.refl _⟩ (fun _ _ _ _ ⟨_,_,_,_,h⟩=>h) ?_ (fun σ H' ⟨a6,a7,a8,e,h⟩=>hR _ _ ⟨a6,a7,a8,e,(F4.trans FF).trans (ae.fzp h)⟩)
     rintro i x σ H' hi ⟨k,v,hk,rfl⟩ ⟨o6,o7,o8,rfl,hS⟩ R2 hR2
     obtain⟨y,hy,rfl⟩:∃ y,so[i]?=some y∧Sum.inr y=k:=by
       have h1:((bj so (so.map fun z=>V.int (((aO R z).length:Nat):Int))).map (·.1))[i]?=some k:=by rw[List.getElem?_map,hk];rfl
       rw[hck,List.getElem?_map] at h1
       exact Option.map_eq_some_iff.mp h1
     have hym:=List.mem_of_getElem? hy
     have hl6:H' ld=some (.lst (led.map V.str)):=hS _ _ (FF.1 _ _ hl4 (fun _ e=>by cases e))
     walk_at "dm"
     refine⟨_,.inl (SqL.of hl6),rfl,cj led,aY (fun hn=>?_) (fun _=>⟨_,.inl ⟨_,Sum.inr y,.inr ⟨o,hS _ _ hHF⟩,rfl,(hcv y hym).symm⟩,_,rfl,aY (fun h=>absurd h (by omega)) (fun _=>hR2 _ _ ⟨_,_,_,rfl,hS⟩)⟩)⟩
     have hn':inV (V.str y) (led.map V.str)=false:=hn
     rw[cW,decide_eq_true (hin4 y hym)] at hn'
     cases hn'
   rintro σ5 H5 ⟨o6,o7,o8,rfl,F5⟩
   walk_at "dm"
   refine⟨some (.int (((aO R zf).length:Nat):Int)),.inl ⟨_,Sum.inr zf,F5.2.1 _ _ (.inl hc2),rfl,(hcv zf N.f0.1).symm⟩,aY (fun _=>?_) (fun h=>absurd rfl h)⟩
   refine⟨_,.inl ⟨_,Sum.inr zf,F5.2.1 _ _ (.inl hc2),rfl,(hcv zf N.f0.1).symm⟩,rfl,?_⟩
   rw[N.f0.2]
   exact q H5 ((ae.fzp S2).trans F5)
end

section
variable {P:Program}{w:World}{K:PySem.W.Frag}{mg:Str→Option Value}{base:Heap}
def kE (K:PySem.W.Frag):Sp:=fun vs H Q _=>∃ (l d:Addr)(xs ns:List Str)(kvs:List (Key×V)) (m:Int),vs=[.ref l,.ref d,.int m]∧H l=some (.lst (xs.map V.str))∧Rd H d (.dK kvs)∧kvs.map (·.1)=ns.map Sum.inr∧(∀ x∈xs,x∈ns)∧((xs.length:Nat):Int)≤m∧Q (.bl true) H
theorem kF:aG ["_law_found", "_law_known", "_law_most", "_law_one"] ["_law_found", "_law_known", "_law_most"] (af el):=⟨rfl,rfl,rfl,by decide +kernel,rfl,by decide +kernel,by decide +kernel⟩
theorem oH {f:Addr}{fd:FuncData}(F:Fun K "_law_list_of_names" "_law_list_of_names" el f fd)
   (T:Txt mg)  :
   au P w K mg base CX0 1 f fd ["_law_found", "_law_known", "_law_most"] (kE K):=by
 refine F.ok kF (fun vs H Q E h=>?_) (fun cdv A outer s H vs Q E hr h=>?_)
 · obtain⟨_,_,_,_,_,_,rfl,_⟩:=h
   rfl
 · obtain⟨l,d,xs,ns,kvs,m,rfl,hl,hd,hks,hin,hm,q⟩:=h
   have hu:(cJ CX0 P w K mg base ["_law_found", "_law_known", "_law_most", "_law_one"] "_law_list_of_names" (af el) f cdv A outer s H E).A.units+1 < cLine:=by
     have:=hr.units
     exact Nat.lt_of_le_of_lt (Nat.add_le_add_left (by decide) _) this
   refine⟨_,(ak (aV (PW.pt (dC (cM (cE (al cR (by rfl) T.isi (by decide +kernel) (aa (pv 0) (aa (dv (v:=.ty "list") rfl T.list (by decide +kernel) rfl) ac))))) (dB (ax gh (al ao (by rfl) T.len PySem.boot_len (aa (pv 0) ac)) (pv 2) (aK _))))) (ai (az cv)) ar)
     (ak (bu PassesOwn.never rfl (br (pv 0)) (ap (i:=3) kF.nd rfl (Or.inl rfl)) (ai (aV (PW.pt (dC (cM (cE (al cR (by rfl) T.isi (by decide +kernel) (aa (pv 3) (aa (dv (v:=.ty "str") rfl T.str (by decide +kernel) rfl) ac))))) (dB (dL (cU hu (pv 3) (pv 1)))))) (ai (az cv)) ar)))
     (ai (az cv)))),?_⟩
   have hs:=bi
   have hkl:kvs.length=ns.length:=by
     have:=congrArg List.length hks
     rwa [List.length_map,List.length_map] at this
   refine bg (fun σ' H'=>σ'=[some (.ref l),some (.ref d),some (.int m),none]∧H'=H) (fun R hR=>?_) ?_
   · walk_at "dm"
     refine⟨_,eC.lst hl,true,rfl,aY (fun h=>by cases h) (fun _=>⟨_,.inl (SqL.of hl),?_⟩)⟩
     rw[List.length_map]
     exact aY (fun h=>absurd h (by omega)) (fun _=>hR _ _ ⟨rfl,rfl⟩)
   rintro σ1 H1 ⟨rfl,rfl⟩
   refine bg (fun σ' H'=>H'=H1) (fun R hR=>?_) ?_
   · walk_at "dm"
     refine⟨⟨_,SqL.of hl⟩,?_⟩
     refine bf (H0:=H1) (aJ (SqL.of hl)) (fun i σ' H'=>∃ (o3:Option V),σ'=[some (.ref l),some (.ref d),some (.int m),o3]∧H'=H1) ⟨none,rfl,rfl⟩ (fun _ _ _ _ ⟨_,_,h⟩=>by rw[h];exact ae.refl _) ?_ (fun σ H' ⟨_,_,h⟩=>hR _ _ h)
     rintro i x σ H' hi hx ⟨o3,rfl,rfl⟩ R2 hR2
     rw[List.getElem?_map] at hx
     obtain⟨z,hz,rfl⟩:=Option.map_eq_some_iff.mp hx
     have hzn:=hin z (List.mem_of_getElem? hz)
     obtain⟨v,hv⟩:∃ v,bZ kvs (Sum.inr z)=some v:=by
       have hm:Sum.inr z∈kvs.map (·.1):=by rw[hks];exact List.mem_map_of_mem hzn
       cases hv:bZ kvs (Sum.inr z) with
       | some v=>exact⟨v,rfl⟩
       | none =>
         unfold bZ at hv
         rw[Option.map_eq_none_iff,List.find?_eq_none] at hv
         obtain⟨kv,h1,h2⟩:=List.mem_map.mp hm
         exact absurd (decide_eq_true h2) (hv kv h1)
     walk_at "dm"
     exact⟨_,eC.str _,true,rfl,aY (fun h=>by cases h) (fun _=>⟨some v,.inl ⟨_,Sum.inr z,hd,rfl,hv.symm⟩,aY (fun h=>by cases h) (fun _=>hR2 _ _ ⟨_,rfl,rfl⟩)⟩)⟩
   rintro σ2 H2 rfl
   walk_at "dm"
   exact q
def lp (K:PySem.W.Frag):Sp:=fun vs H Q _=>∃ (l d:Addr)(xs ns:List Str) (m:Int),vs=[.ref l,.ref d,.int m]∧H l=some (.lst (xs.map V.str))∧SqL K H d (ns.map V.str)∧(∀ x∈xs,x∈ns)∧((xs.length:Nat):Int)≤m∧Q (.bl true) H
theorem kM:aG ["_law_found", "_law_known", "_law_most", "_law_one"] ["_law_found", "_law_known", "_law_most"] (af el):=⟨rfl,rfl,rfl,by decide +kernel,rfl,by decide +kernel,by decide +kernel⟩
theorem n6 {f:Addr}{fd:FuncData}(F:Fun K "_law_list_of_names" "_law_list_of_names" el f fd)
   (T:Txt mg)  :
   au P w K mg base CX0 1 f fd ["_law_found", "_law_known", "_law_most"] (lp K):=by
 refine F.ok kM (fun vs H Q E h=>?_) (fun cdv A outer s H vs Q E hr h=>?_)
 · obtain⟨_,_,_,_,_,rfl,_⟩:=h
   rfl
 · obtain⟨l,d,xs,ns,m,rfl,hl,hd,hin,hm,q⟩:=h
   refine⟨_,(ak (aV (PW.pt (dC (cM (cE (al cR (by rfl) T.isi (by decide +kernel) (aa (pv 0) (aa (dv (v:=.ty "list") rfl T.list (by decide +kernel) rfl) ac))))) (dB (ax gh (al ao (by rfl) T.len PySem.boot_len (aa (pv 0) ac)) (pv 2) (aK _))))) (ai (az cv)) ar)
     (ak (bu PassesOwn.never rfl (br (pv 0)) (ap (i:=3) kM.nd rfl (Or.inl rfl)) (ai (aV (PW.pt (dC (cM (cE (al cR (by rfl) T.isi (by decide +kernel) (aa (pv 3) (aa (dv (v:=.ty "str") rfl T.str (by decide +kernel) rfl) ac))))) (dB (ax bV (pv 3) (pv 1) (by with_unfolding_all rfl))))) (ai (az cv)) ar)))
     (ai (az cv)))),?_⟩
   have hs:=bi
   refine bg (fun σ' H'=>σ'=[some (.ref l),some (.ref d),some (.int m),none]∧H'=H) (fun R hR=>?_) ?_
   · walk_at "dm"
     refine⟨_,eC.lst hl,true,rfl,aY (fun h=>by cases h) (fun _=>⟨_,.inl (SqL.of hl),?_⟩)⟩
     rw[List.length_map]
     exact aY (fun h=>absurd h (by omega)) (fun _=>hR _ _ ⟨rfl,rfl⟩)
   rintro σ1 H1 ⟨rfl,rfl⟩
   refine bg (fun σ' H'=>H'=H1) (fun R hR=>?_) ?_
   · walk_at "dm"
     refine⟨⟨_,SqL.of hl⟩,?_⟩
     refine bf (H0:=H1) (aJ (SqL.of hl)) (fun i σ' H'=>∃ (o3:Option V),σ'=[some (.ref l),some (.ref d),some (.int m),o3]∧H'=H1) ⟨none,rfl,rfl⟩ (fun _ _ _ _ ⟨_,_,h⟩=>by rw[h];exact ae.refl _) ?_ (fun σ H' ⟨_,_,h⟩=>hR _ _ h)
     rintro i x σ H' hi hx ⟨o3,rfl,rfl⟩ R2 hR2
     rw[List.getElem?_map] at hx
     obtain⟨z,hz,rfl⟩:=Option.map_eq_some_iff.mp hx
     have hzn:=hin z (List.mem_of_getElem? hz)
     walk_at "dm"
     refine⟨_,eC.str _,true,rfl,aY (fun h=>by cases h) (fun _=>⟨_,.inl hd,rfl,cj ns,aY (fun hn=>?_) (fun _=>hR2 _ _ ⟨_,rfl,rfl⟩)⟩)⟩
     rw[cW,decide_eq_true hzn] at hn
     cases hn
   rintro σ2 H2 rfl
   walk_at "dm"
   exact q
end

section
variable {P:Program}{w:World}{K:PySem.W.Frag}{mg:Str→Option Value}{base:Heap}
def pM (lk:Str→Str→Str)(ns:List Str) (j:Nat) (z y:Str):Prop:=∃ r,OkR ns r∧r.length=j∧cp lk r z=y
theorem pb {lk:Str→Str→Str}{ns:List Str}{j:Nat}{z y:Str}:pM lk ns (j+1) z y↔∃ n∈ns,pM lk ns j (lk n z) y:=by
 constructor
 · rintro⟨r,h1,h2,h3⟩
   cases r with
   | nil=>cases h2
   | cons n r=>exact⟨n,h1 n List.mem_cons_self,r,fun m hm=>h1 m (List.mem_cons_of_mem _ hm),by simpa using h2,h3⟩
 · rintro⟨n,hn,r,h1,h2,h3⟩
   exact⟨n::r,fun m hm=>by
     rcases List.mem_cons.mp hm with rfl | hm
     · exact hn
     · exact h1 m hm,by simp[h2],h3⟩
theorem n0 {lk:Str→Str→Str}{ns:List Str}{z y:Str}:pM lk ns 0 z y↔z=y:=by
 constructor
 · rintro⟨r,_,h2,h3⟩
   rw[List.length_eq_zero_iff.mp h2] at h3;exact h3
 · rintro rfl
   exact⟨[],(fun _ h=>by cases h),rfl,rfl⟩
def vb (lk:Str→Str→Str)(ns ss:List Str) (y:Str) (j:Nat)(K:List Str):Prop:=∀ z,z∈K↔z∈ss∧pM lk ns j z y
def eX (K:List Str):List (Key×V):=K.map fun z=>(Sum.inr z,V.bl true)
theorem fg {K:List Str}{z:Str}:bZ (eX K) (Sum.inr z)=if z∈K then some (V.bl true) else none:=by
 induction K with
 | nil=>rfl
 | cons a K ih =>
   show bZ ((Sum.inr a,V.bl true)::eX K) (Sum.inr z)=_
   by_cases h:a=z
   · subst h
     rw[cF rfl,if_pos List.mem_cons_self]
   · rw[cw (fun e=>h (Sum.inr.inj e)),ih]
     by_cases k:z∈K
     · rw[if_pos k,if_pos (List.mem_cons_of_mem _ k)]
     · rw[if_neg k,if_neg (fun m=>by rcases List.mem_cons.mp m with m | m;exact h m.symm;exact k m)]
theorem qm {K:List Str}{z:Str}:cK (eX K) (Sum.inr z) (V.bl true)=eX (if z∈K then K else K++[z]):=by
 by_cases k:z∈K
 · rw[if_pos k]
   unfold cK
   have hany:((eX K).any fun kv=>decide (kv.1=Sum.inr z))=true:=by
     rw[List.any_eq_true]
     exact⟨(Sum.inr z,V.bl true),List.mem_map_of_mem (f:=fun z=>((Sum.inr z:Key),V.bl true)) k,by simp⟩
   rw[if_pos hany]
   refine(List.map_congr_left (g:=id) fun kv hkv=>?_).trans (List.map_id _)
   obtain⟨w,_,rfl⟩:=List.mem_map.mp hkv
   split<;>rfl
 · rw[if_neg k,dH _ (by rw[fg,if_neg k])]
   unfold eX
   rw[List.map_append];rfl
def pU (H:Hp)(la:Addr)(lk:Str→Str→Str)(ns ss:List Str) (y:Str) (m:Nat):Prop:=∃ ds:List Addr,H la=some (.lst (ds.map V.ref))∧ds.length=m+1∧∀ (i:Nat) d,ds[i]?=some d→∃ K,Rd H d (.dK (eX K))∧vb lk ns ss y i K
def nod (H:Hp):Hp:=fun b=>match H b with
 | some (.dK _)=>none
 | o=>o
theorem tK {H:Hp}{b:Addr}{o:HO}(h:H b=some o)(n:∀ kvs,o≠.dK kvs):nod H b=some o:=by
 unfold nod
 rw[h]
 cases o with
 | dK kvs=>exact absurd rfl (n kvs)
 | _=>rfl
theorem sg {H:Hp}{b:Addr}{o:HO}(h:nod H b=some o):H b=some o∧∀ kvs,o≠.dK kvs:=by
 unfold nod at h
 cases hb:H b with
 | none=>rw[hb] at h;cases h
 | some u =>
   rw[hb] at h
   cases u with
   | dK kvs=>cases h
   | _=>cases h;exact⟨rfl,fun _ e=>by cases e⟩
theorem Fz.nod {H G:Hp}(F:Fz H G):ae (DM.nod H) G:=fun b o h=>F.1 b o (sg h).1 (sg h).2
theorem pY {K:PySem.W.Frag}{H:Hp}{a:Addr}{xs:List V}(h:SqL K H a xs):SqL K (nod H) a xs:=by
 rcases h with h | h
 · refine .inl ?_
   rcases h with h | ⟨u,h⟩
   · exact .inl (tK h fun _ e=>by cases e)
   · exact .inr ⟨u,tK h fun _ e=>by cases e⟩
 · exact .inr h
theorem tH {H:Hp}{x d:Addr}{xs:List V}{kv:List (Key×V)}{o:HO}(hx:H x=some (.lst xs))(h:Rd H d (.dK kv)):Rd (upd H x o) d (.dK kv):=by
 have hne:d≠x:=fun e=>by rcases h with h | ⟨_,h⟩<;>(rw[e,hx] at h;cases h)
 rcases h with h | ⟨w,h⟩
 · exact .inl (by rw[ag hne];exact h)
 · exact .inr ⟨w,by rw[ag hne];exact h⟩
theorem sC {H1:Hp}{d:Addr}{kvs:List (Key×V)}{W:Obj→Hp→Prop}(h:Rd H1 d (.dK kvs))(k:∀ o HF,HF d=some (.frz o (.dK kvs))→Fz H1 HF→(∀ b,b≠d→HF b=H1 b)→W o HF) :
   (H1 d=some (.dK kvs)∧∀ o,W o (upd H1 d (.frz o (.dK kvs))))∨∃ o,H1 d=some (.frz o (.dK kvs))∧W o H1:=by
 rcases h with h | ⟨o,h⟩
 · exact .inl ⟨h,fun o=>k o _ ad (ix h) fun b hb=>ag hb⟩
 · exact .inr ⟨o,h,k o _ h (Fz.refl _) fun _ _=>rfl⟩
theorem FzP.nod {Pz:Addr→Prop}{H G:Hp}(F:FzP Pz H G):ae (DM.nod H) G:=Fz.nod F.fz
theorem qZ {Pz:Addr→Prop}{H1:Hp}{d:Addr}{kvs:List (Key×V)}(hd:¬Pz d){W:Obj→Hp→Prop}(h:Rd H1 d (.dK kvs))(k:∀ o HF,HF d=some (.frz o (.dK kvs))→FzP Pz H1 HF→(∀ b,b≠d→HF b=H1 b)→W o HF) :
   (H1 d=some (.dK kvs)∧∀ o,W o (upd H1 d (.frz o (.dK kvs))))∨∃ o,H1 d=some (.frz o (.dK kvs))∧W o H1 :=
 sC h fun o HF e F q=>k o HF e ⟨F.1,F.2,fun b u p x=>by rw[q b (fun z=>hd (by rw[←z];exact p))];exact x⟩ q
def ni (K:PySem.W.Frag):Sp:=fun vs H Q _=>∃ (Pz:Addr→Prop)(lo d:Addr)(so ss ns:List Str)(lk:Str→Str→Str) (y:Str) (m:Nat),vs=[.ref lo,.ref d,.str y,.int m]∧SqL K H lo (so.map V.str)∧so.Perm ss∧ss.length≤12∧gN H d ss ns lk∧(∀ n∈ns,∀ z∈ss,lk n z∈ss)∧y∈ss∧m≤40∧¬Pz d∧(∀ b,Pz b→H b≠none)∧∀ la H',FzP Pz H H'→pU H' la lk ns ss y m→Q (.ref la) H'
theorem ff:aG ["_law_order", "_law_tables_here", "_law_last", "_law_many", "_law_layers_here", "_law_k", "_law_near", "_law_shade", "_law_bath"] ["_law_order", "_law_tables_here", "_law_last", "_law_many"] (af fH):=⟨rfl,rfl,rfl,by decide +kernel,rfl,by decide +kernel,by decide +kernel⟩
theorem qK {f:Addr}{fd:FuncData}(F:Fun K "_law_layers" "_law_layers" fH f fd)
   (T:Txt mg)  :
   au P w K mg base CX0 1 f fd ["_law_order", "_law_tables_here", "_law_last", "_law_many"] (ni K):=by
 refine F.ok ff (fun vs H Q E h=>?_) (fun cdv A outer s H vs Q E hr h=>?_)
 · obtain⟨_,_,_,_,_,_,_,_,_,rfl,_⟩:=h
   rfl
 · obtain⟨Pz,lo,d,so,ss,ns,lk,y,m,rfl,hlo,hpm,hs12,hG,hcl,hy,hm,hPd,hPn,q⟩:=h
   have hu:(cJ CX0 P w K mg base ["_law_order", "_law_tables_here", "_law_last", "_law_many", "_law_layers_here", "_law_k", "_law_near", "_law_shade", "_law_bath"] "_law_layers" (af fH) f cdv A outer s H E).A.units+1 < cLine:=by
     have:=hr.units
     exact Nat.lt_of_le_of_lt (Nat.add_le_add_left (by decide) _) this
   refine⟨_,(ak (aB (i:=4) ff.nd rfl (Or.inl rfl) (cn (aa (mi (jW (pv 2) cv lM) rfl rfl (by simp) (by decide)) ac)))
     (ak (bu PassesOwn.never rfl (cu rfl T.range (aa (pv 3) ac)) (ap (i:=5) ff.nd rfl (Or.inl rfl)) (ak (aB (i:=6) ff.nd rfl (Or.inl rfl) eN)
     (ak (bu PassesOwn.never rfl (br (pv 0)) (ap (i:=7) ff.nd rfl (Or.inl rfl)) (ai (bu PassesOwn.never rfl (fP (pv 1)) (ap (i:=8) ff.nd rfl (Or.inl rfl)) (ai (aV (dL (jE hu (bn hu (bn hu (pv 1) (pv 8) (fun _ _=>rfl)) (pv 7) (fun _ _=>rfl)) (bc aP (pv 4) (m9 jR aj) (fun _ _=>rfl)))) (ai (dY hu (pv 6) (pv 7) cv rfl)) ar)))))
     (ai (aW (gc PySem.F.plainAttrs_list PySem.F.slot_list_append PySem.F.type_list_append cr (pv 4) (aa (pv 6) ac)))))))
     (ai (az (pv 4))))),?_⟩
   have hs:=bi
   have hsl:so.length≤12:=by rw[hpm.length_eq];exact hs12
   refine bg (fun σ' H'=>∃ la d0,σ'=[some (.ref lo),some (.ref d),some (.str y),some (.int m),some (.ref la),none,none,none,none]∧ae H H'∧H la=none∧H' la=some (.lst [.ref d0])∧H' d0=some (.dK (eX [y]))) (fun R hR=>?_) ?_
   · walk_at "dm"
     intro p hp
     refine⟨ad,[(Sum.inr y,V.bl true)],rfl,by show 1≤15;decide,by omega,fun p1 hp1=>?_⟩
     rw[gE] at hp1 ⊢
     have n1:p≠p1:=aw ad hp1
     have Sp:=ae.updN (o:=.dK (cC [] [(Sum.inr y,V.bl true)])) hp
     have S2:=ae.updN (o:=.lst [V.ref p]) hp1
     exact hR _ _ ⟨p1,p,rfl,Sp.trans S2,Sp.free hp1,ad,by rw[ag n1,ad];rfl⟩
   rintro σ1 H1 ⟨la,d0,rfl,S1,hla0,hla,hd0⟩
   refine bg (fun σ' H'=>∃ (o5 o6 o7 o8:Option V),σ'=[some (.ref lo),some (.ref d),some (.str y),some (.int m),some (.ref la),o5,o6,o7,o8]∧FzP Pz H H'∧pU H' la lk ns ss y m) (fun R hR=>?_) ?_
   · walk_at "dm"
     refine⟨by omega,by omega,?_⟩
     rw[Int.toNat_natCast]
     refine bf (H0:=fun _=>none) bJ (fun k σ' H'=>∃ (o5 o6 o7 o8:Option V),σ'=[some (.ref lo),some (.ref d),some (.str y),some (.int m),some (.ref la),o5,o6,o7,o8]∧FzP Pz H H'∧pU H' la lk ns ss y k) ⟨none,none,none,none,rfl,ae.fzp S1,[d0],hla,rfl,fun i d hd=>?_⟩ (fun _ _ _ _ _ b o e=>by cases e) ?_ (fun σ H' h=>hR _ _ h)
     · rcases i with _ | i
       · cases hd
         exact⟨[y],.inl hd0,fun z=>by rw[n0,List.mem_singleton];exact⟨fun e=>⟨by rw[e];exact hy,e⟩,fun h=>h.2⟩⟩
       · cases hd
     rintro k x σ H' hk rfl ⟨o5,o6,o7,o8,rfl,F,ds,hla,hdl,hds⟩ R2 hR2
     have hz:(0:Int)+(k:Int)=k:=by omega
     rw[hz]
     refine bg (fun σ' H''=>∃ nr,H' nr=none∧σ'=[some (.ref lo),some (.ref d),some (.str y),some (.int m),some (.ref la),some (.int k),some (.ref nr),o7,o8]∧H''=upd H' nr (.dK [])) (fun R3 hR3=>?_) ?_
     · walk_at "dm"
       exact fun p hp=>hR3 _ _ ⟨p,hp,rfl,rfl⟩
     rintro σ2 H2 ⟨nr,hnr,rfl,rfl⟩
     obtain⟨dl,hdl2⟩:∃ dl,ds[k]?=some dl:=⟨_,List.getElem?_eq_getElem (by omega)⟩
     have hlast:atI (ds.map V.ref) (-1)=some (V.ref dl):=by
       have hne:ds≠[]:=fun e=>by rw[e] at hdl;cases hdl
       have e:ds=ds.dropLast++[dl]:=by
         conv=>lhs;rw[←List.dropLast_concat_getLast hne]
         congr 2
         have h1:=List.getLast?_eq_some_getLast hne
         rw[List.getLast?_eq_getElem?,hdl,Nat.add_sub_cancel,hdl2] at h1
         exact(Option.some.inj h1).symm
       rw[e,List.map_append]
       exact ic _ _
     obtain⟨KL,hKL,hKok⟩:=hds k dl hdl2
     have hG':=FzP.tabG F hG
     have hlo':=FzP.seq F hlo
     refine bg (fun σ' H''=>∃ (K2:List Str)(o7 o8:Option V),σ'=[some (.ref lo),some (.ref d),some (.str y),some (.int m),some (.ref la),some (.int k),some (.ref nr),o7,o8]∧FzP Pz H' H''∧H'' nr=some (.dK (eX K2))∧vb lk ns ss y (k+1) K2) (fun R3 hR3=>?_) ?_
     · have hnr2:upd H' nr (.dK []) nr=some (.dK (eX [])):=ad
       have F2:FzP Pz H' (upd H' nr (.dK [])):=(FzP.refl H').put hnr
       generalize upd H' nr (.dK [])=H2 at *
       walk_at "dm"
       refine⟨⟨_,FzP.seq F2 hlo'⟩,?_⟩
       refine bf (H0:=nod H') (aJ (pY hlo')) (fun i σ' H''=>∃ (K2:List Str)(o7 o8:Option V),σ'=[some (.ref lo),some (.ref d),some (.str y),some (.int m),some (.ref la),some (.int k),some (.ref nr),o7,o8]∧FzP Pz H' H''∧H'' nr=some (.dK (eX K2))∧K2.Nodup∧(∀ z∈K2,z∈so)∧∀ z,z∈K2↔z∈so.take i∧∃ n∈ns,lk n z∈KL) ⟨[],o7,o8,rfl,F2,hnr2,List.nodup_nil,(fun _ h=>by cases h),fun z=>⟨fun h=>(by cases h),fun h=>by rw[List.take_zero] at h;cases h.1⟩⟩ (fun _ _ _ _ ⟨_,_,_,_,h,_⟩=>h.nod) ?_ ?_
       · rintro i x σ H'' hi hx ⟨K2,o7,o8,rfl,F3,hnr3,hKn,hKs,hKi⟩ R4 hR4
         rw[List.getElem?_map] at hx
         obtain⟨s1,hs1,rfl⟩:=Option.map_eq_some_iff.mp hx
         have hs1m:=List.mem_of_getElem? hs1
         have hs1s:=hpm.mem_iff.mp hs1m
         walk_at "dm"
         obtain⟨kvs,hRd,hkeys,htab⟩:=FzP.tabG F3 hG'
         have hkl:kvs.length=ns.length:=by
           have:=congrArg List.length hkeys
           rwa [List.length_map,List.length_map] at this
         refine⟨kvs,qZ hPd (W:=fun o HF=>lU (Itd d o kvs) _ _ _ _ HF) hRd fun o2 HF2 hHF2 FF2 hEq=>?_⟩
         have hdn:nr≠d:=fun e=>by
           obtain⟨kv0,hr0,_⟩:=hG'
           rcases hr0 with h | ⟨_,h⟩<;>(rw[←e,hnr] at h;cases h)
         have hnr4:HF2 nr=some (.dK (eX K2)):=by rw[hEq nr hdn];exact hnr3
         refine bf (H0:=fun b=>if b=d then some (.frz o2 (.dK kvs)) else none) (cZ (if_pos rfl)) (fun j σ' H4=>∃ (K2:List Str)(o8:Option V),σ'=[some (.ref lo),some (.ref d),some (.str y),some (.int m),some (.ref la),some (.int k),some (.ref nr),some (.str s1),o8]∧FzP Pz H' H4∧H4 d=some (.frz o2 (.dK kvs))∧H4 nr=some (.dK (eX K2))∧K2.Nodup∧(∀ z∈K2,z∈so)∧∀ z,z∈K2↔(z∈so.take i∧∃ n∈ns,lk n z∈KL)∨(z=s1∧∃ n∈ns.take j,lk n s1∈KL)) ⟨K2,o8,rfl,F3.trans FF2,hHF2,hnr4,hKn,hKs,fun z=>by rw[hKi z,List.take_zero];exact⟨.inl,fun h=>by rcases h with h | ⟨_,n,h,_⟩;exact h;cases h⟩⟩ (fun _ _ _ _ ⟨_,_,_,_,h,_⟩=>fun b o e=>?_) ?_ ?_
         · dsimp only at e
           split at e
           · rename_i hb;cases e;rw[hb];exact h
           · cases e
         · rintro j x σ H4 hj ⟨kk,v,hk2,rfl⟩ ⟨K3,o8,rfl,F4,hd4,hnr5,hKn3,hKs3,hKi3⟩ R5 hR5
           obtain⟨n,hn,rfl⟩:∃ n,ns[j]?=some n∧Sum.inr n=kk:=by
             have h1:(kvs.map (·.1))[j]?=some kk:=by rw[List.getElem?_map,hk2];rfl
             rw[hkeys,List.getElem?_map] at h1
             exact Option.map_eq_some_iff.mp h1
           have hnm:=List.mem_of_getElem? hn
           obtain⟨r,g1,g2⟩:=(FzP.tabG F4 hG').get hnm hs1s
           have hla4:=F4.1 _ _ hla (fun _ e=>by cases e)
           have hKL4:=F4.2.1 _ _ hKL
           have hKl3:K3.length≤12:=Nat.le_trans (eK hKn3 hKs3) hsl
           walk_at "dm"
           have hKi4:∀ z,z∈(if s1∈K3 then K3 else K3++[s1])↔z∈K3∨z=s1:=fun z=>by
             split
             · rename_i h;exact⟨.inl,fun h2=>by rcases h2 with h2 | rfl;exact h2;exact h⟩
             · rw[List.mem_append,List.mem_singleton]
           refine⟨_,g1,r,rfl,_,g2,_,SqL.of hla4,_,hlast,dl,rfl,_,.inl ⟨_,Sum.inr (lk n s1),hKL4,rfl,rfl⟩,?_⟩
           rw[fg]
           by_cases hin:lk n s1∈KL
           · rw[if_pos hin]
             refine aY (fun _=>?_) (fun h=>absurd rfl h)
             refine⟨_,.inl ⟨_,Sum.inr s1,hnr5,rfl,?_,rfl⟩,?_⟩
             · unfold eX;rw[List.length_map];omega
             rw[qm]
             have hdn:nr≠d:=fun e=>by rw[e,hd4] at hnr5;cases hnr5
             refine hR5 _ _ ⟨_,_,rfl,F4.put hnr,by rw[ag hdn.symm];exact hd4,ad,?_,fun z hz=>?_,fun z=>?_⟩
             · split
               · exact hKn3
               · rename_i h
                 rw[List.nodup_append]
                 exact⟨hKn3,by simp,fun a ha b hb e=>by rw[List.mem_singleton.mp hb] at e;rw[e] at ha;exact h ha⟩
             · rcases(hKi4 z).mp hz with h | rfl
               · exact hKs3 z h
               · exact hs1m
             · rw[hKi4 z,hKi3 z,bH hn]
               constructor
               · rintro((h | ⟨rfl,m1,h1,h2⟩) | rfl)
                 · exact .inl h
                 · exact .inr ⟨rfl,m1,List.mem_append_left _ h1,h2⟩
                 · exact .inr ⟨rfl,n,List.mem_append_right _ (List.mem_singleton.mpr rfl),hin⟩
               · rintro(h | ⟨rfl,_⟩)
                 · exact .inl (.inl h)
                 · exact .inr rfl
           · rw[if_neg hin]
             refine aY (fun h=>by cases h) (fun _=>hR5 _ _ ⟨_,_,rfl,F4,hd4,hnr5,hKn3,hKs3,fun z=>?_⟩)
             rw[hKi3 z,bH hn]
             constructor
             · rintro(h | ⟨h0,m1,h1,h2⟩)
               · exact .inl h
               · exact .inr ⟨h0,m1,List.mem_append_left _ h1,h2⟩
             · rintro(h | ⟨h0,m1,h1,h2⟩)
               · exact .inl h
               · rcases List.mem_append.mp h1 with h1 | h1
                 · exact .inr ⟨h0,m1,h1,h2⟩
                 · rw[List.mem_singleton.mp h1] at h2;exact absurd h2 hin
         · rintro σ H4 ⟨K3,o8,rfl,F4,hd4,hnr5,hKn3,hKs3,hKi3⟩
           rw[hkl,List.take_length] at hKi3
           refine hR4 _ _ ⟨K3,_,_,rfl,F4,hnr5,hKn3,hKs3,fun z=>?_⟩
           rw[hKi3 z,bH hs1,List.mem_append,List.mem_singleton]
           constructor
           · rintro(⟨h1,h2⟩ | ⟨rfl,h2⟩)
             · exact⟨.inl h1,h2⟩
             · exact⟨.inr rfl,h2⟩
           · rintro⟨h1 | rfl,h2⟩
             · exact .inl ⟨h1,h2⟩
             · exact .inr ⟨rfl,h2⟩
       · rintro σ H'' ⟨K2,o7,o8,rfl,F3,hnr3,hKn,hKs,hKi⟩
         rw[List.length_map,List.take_length] at hKi
         refine hR3 _ _ ⟨K2,_,_,rfl,F3,hnr3,fun z=>?_⟩
         rw[hKi z,pb,hpm.mem_iff]
         constructor
         · rintro⟨h1,n,h2,h3⟩
           exact⟨h1,n,h2,((hKok _).mp h3).2⟩
         · rintro⟨h1,n,h2,h3⟩
           exact⟨h1,n,h2,(hKok _).mpr ⟨hcl n h2 z h1,h3⟩⟩
     rintro σ3 H3 ⟨K2,o7,o8,rfl,F3,hnr3,hK2⟩
     have hla3:=F3.1 _ _ hla (fun _ e=>by cases e)
     walk_at "dm"
     refine⟨.inl ⟨rfl,_,SqL.of hla3⟩,_,hla3,by rw[List.length_map];omega,hR2 _ _ ⟨_,_,_,_,rfl,(F.trans F3).put hla0,ds++[nr],by rw[ad,List.map_append];rfl,by rw[List.length_append,hdl];rfl,fun i d1 hd1=>?_⟩⟩
     by_cases hi:i < ds.length
     · rw[List.getElem?_append_left hi] at hd1
       obtain⟨K9,h1,h2⟩:=hds i d1 hd1
       exact⟨K9,tH hla3 (F3.2.1 _ _ h1),h2⟩
     · rw[List.getElem?_append_right (by omega)] at hd1
       have hj0:i - ds.length=0:=by
         have:=(List.getElem?_eq_some_iff.mp hd1).1
         simp only[List.length_singleton] at this
         omega
       rw[hj0] at hd1
       cases hd1
       have:i=k+1:=by omega
       subst this
       exact⟨K2,tH hla3 (.inl hnr3),hK2⟩
   rintro σ2 H2 ⟨o5,o6,o7,o8,rfl,F,hL⟩
   walk_at "dm"
   exact q la H2 F hL
def kJ (K:PySem.W.Frag):Sp:=fun vs H Q _=>∃ (Pz:Addr→Prop)(lo d lr:Addr)(so ss ns row:List Str)(lk:Str→Str→Str) (y z:Str),vs=[.ref lo,.ref d,.ref lr,.str z,.str y]∧SqL K H lo (so.map V.str)∧so.Perm ss∧ss.length≤12∧gN H d ss ns lk∧(∀ n∈ns,∀ z∈ss,lk n z∈ss)∧y∈ss∧z∈ss∧H lr=some (.lst (row.map V.str))∧row.length≤40∧nH lk ns z y row∧¬Pz d∧(∀ b,Pz b→H b≠none)∧∀ H',FzP Pz H H'→Q (.bl true) H'
theorem dQ:aG ["_law_order", "_law_tables_here", "_law_row_here", "_law_first", "_law_last", "_law_layers_here", "_law_at_here", "_law_k", "_law_near", "_law_bath"] ["_law_order", "_law_tables_here", "_law_row_here", "_law_first", "_law_last"] (af eG):=⟨rfl,rfl,rfl,by decide +kernel,rfl,by decide +kernel,by decide +kernel⟩
theorem om {f fLy:Addr}{fd fdLy:FuncData}(F:Fun K "_law_first_by_names" "_law_first_by_names" eG f fd)
   (T:Txt mg)
   (GLy:au P w K mg base CX0 1 fLy fdLy ["_law_order", "_law_tables_here", "_law_last", "_law_many"] (ni K))(kLy:PySem.W.keepIn K (.ref fLy)=true)(bLy:aE K fdLy ["_law_order", "_law_tables_here", "_law_last", "_law_many"] [])(mLy:mg "_law_layers"=some (.ref fLy)) :
   au P w K mg base CX0 2 f fd ["_law_order", "_law_tables_here", "_law_row_here", "_law_first", "_law_last"] (kJ K):=by
 refine F.ok dQ (fun vs H Q E h=>?_) (fun cdv A outer s H vs Q E hr h=>?_)
 · obtain⟨_,_,_,_,_,_,_,_,_,_,_,rfl,_⟩:=h
   rfl
 · obtain⟨Pz,lo,d,lr,so,ss,ns,row,lk,y,z,rfl,hlo,hpm,hs12,hG,hcl,hy,hz,hlr,hrl,hB,hPd,hPn,q⟩:=h
   have hu:(cJ CX0 P w K mg base ["_law_order", "_law_tables_here", "_law_row_here", "_law_first", "_law_last", "_law_layers_here", "_law_at_here", "_law_k", "_law_near", "_law_bath"] "_law_first_by_names" (af eG) f cdv A outer s H E).A.units+1 < cLine:=by
     have:=hr.units
     exact Nat.lt_of_le_of_lt (Nat.add_le_add_left (by decide) _) this
   have hr1:=hr.mono (j:=1) (by omega)
   refine⟨_,(ak (aB (i:=5) dQ.nd rfl (Or.inl rfl) (ay GLy hr1 rfl mLy kLy bLy .nil aZ (aa (pv 0) (aa (pv 1) (aa (pv 4) (aa (al ao (by rfl) T.len PySem.boot_len (aa (pv 2) ac)) ac))))))
     (ak (aB (i:=6) dQ.nd rfl (Or.inl rfl) (pv 3))
     (ak (bu PassesOwn.never rfl (cu rfl T.range (aa (al ao (by rfl) T.len PySem.boot_len (aa (pv 2) ac)) ac)) (ap (i:=7) dQ.nd rfl (Or.inl rfl)) (ak (aV (PW.pt (dC (dL (jE hu (pv 3) (bc aP (pv 5) (pv 7) (fun _ _=>rfl)))) (dB (dL (cU hu (bc aP (pv 2) (pv 7) (fun _ _=>rfl)) (pv 1)))))) (ai (az cv)) ar)
     (ak (aB (i:=8) dQ.nd rfl (Or.inl rfl) (bc aP (pv 5) (aH jK (aH jK (al ao (by rfl) T.len PySem.boot_len (aa (pv 2) ac)) (pv 7)) aj) (fun _ _=>rfl)))
     (ak (bu PassesOwn.never rfl (fP (pv 1)) (ap (i:=9) dQ.nd rfl (Or.inl rfl)) (ai (aV (PW.pt (oM (ax qy (pv 9) (bc aP (pv 2) (pv 7) (fun _ _=>rfl)) (aK _)) (lP (dL (jE hu (bn hu (bn hu (pv 1) (pv 9) (fun _ _=>rfl)) (pv 6) (fun _ _=>rfl)) (pv 8)))))) (ai (az cv)) ar)))
     (ak (aB (i:=6) dQ.nd rfl (Or.inl rfl) (bn hu (bn hu (pv 1) (bc aP (pv 2) (pv 7) (fun _ _=>rfl)) (fun _ _=>rfl)) (pv 6) (fun _ _=>rfl)))
     (ai (aV (dL (cU hu (pv 6) (pv 8))) (ai (az cv)) ar)))))))
     (ai (az (dw dt (pv 6) (pv 4) (aK _))))))),?_⟩
   have hs:=bi
   refine bg (fun σ' H'=>∃ la,σ'=[some (.ref lo),some (.ref d),some (.ref lr),some (.str z),some (.str y),some (.ref la),none,none,none,none]∧FzP Pz H H'∧pU H' la lk ns ss y row.length) (fun R hR=>?_) ?_
   · walk_at "dm"
     refine⟨_,.inl (SqL.of hlr),Pz,lo,d,so,ss,ns,lk,y,row.length,by rw[List.length_map],hlo,hpm,hs12,hG,hcl,hy,hrl,hPd,hPn,fun la H' F hL=>hR _ _ ⟨la,rfl,F,hL⟩⟩
   rintro σ1 H1 ⟨la,rfl,F1,ds,hla,hdl,hds⟩
   refine bg (fun σ' H'=>σ'=[some (.ref lo),some (.ref d),some (.ref lr),some (.str z),some (.str y),some (.ref la),some (.str z),none,none,none]∧H'=H1) (fun R hR=>?_) ?_
   · walk_at "dm"
     exact hR _ _ ⟨rfl,rfl⟩
   rintro σ2 H2 ⟨rfl,rfl⟩
   have hlr1:=F1.1 _ _ hlr (fun _ e=>by cases e)
   have hG1:=FzP.tabG F1 hG
   refine bg (fun σ' H'=>∃ (o7 o8 o9:Option V),σ'=[some (.ref lo),some (.ref d),some (.ref lr),some (.str z),some (.str y),some (.ref la),some (.str y),o7,o8,o9]∧FzP Pz H2 H') (fun R hR=>?_) ?_
   · walk_at "dm"
     refine⟨_,.inl (SqL.of hlr1),by rw[List.length_map];omega,by rw[List.length_map];omega,?_⟩
     rw[List.length_map,Int.toNat_natCast]
     refine bf (H0:=fun _=>none) bJ (fun k σ' H'=>∃ (o7 o8 o9:Option V),σ'=[some (.ref lo),some (.ref d),some (.ref lr),some (.str z),some (.str y),some (.ref la),some (.str (cp lk (row.take k) z)),o7,o8,o9]∧FzP Pz H2 H') ⟨none,none,none,rfl,FzP.refl _⟩ (fun _ _ _ _ _ b o e=>by cases e) ?_ (fun σ H' ⟨o7,o8,o9,e,F⟩=>hR _ _ ⟨o7,o8,o9,by rw[e,List.take_length,hB.2.1],F⟩)
     rintro k x σ H' hk rfl ⟨o7,o8,o9,rfl,F⟩ R2 hR2
     have hz0:(0:Int)+(k:Int)=k:=by omega
     rw[hz0]
     obtain⟨n,hn⟩:∃ n,row[k]?=some n:=⟨_,List.getElem?_eq_getElem hk⟩
     have hnn:=hB.1 n (List.mem_of_getElem? hn)
     have hrowk:atI (row.map V.str) (k:Int)=some (V.str n):=dj hn
     obtain⟨dk,hdk⟩:∃ dk,ds[k]?=some dk:=⟨_,List.getElem?_eq_getElem (by omega)⟩
     obtain⟨dn,hdn⟩:∃ dn,ds[row.length - k - 1]?=some dn:=⟨_,List.getElem?_eq_getElem (by omega)⟩
     obtain⟨Kk,hKk,hKk2⟩:=hds k dk hdk
     obtain⟨Kn,hKn,hKn2⟩:=hds _ dn hdn
     have hakk:atI (ds.map V.ref) (k:Int)=some (V.ref dk):=eW (by rw[List.getElem?_map,hdk];rfl)
     have hakn:atI (ds.map V.ref) (((row.length:Nat):Int) - k - 1)=some (V.ref dn):=by
       have:(((row.length:Nat):Int) - k - 1)=((row.length - k - 1:Nat):Int):=by omega
       rw[this]
       exact eW (by rw[List.getElem?_map,hdn];rfl)
     have hat:cp lk (row.take k) z∈ss:=e9 hcl _ _ (fun m hm=>hB.1 m (List.mem_of_mem_take hm)) hz
     have hnotk:z∉Kk:=fun h=>by
       obtain⟨_,r,h1,h2,h3⟩:=(hKk2 z).mp h
       have:=(hB.2.2 r h1 h3).1
       omega
     have hless:∀ b∈ns,ltN b n→lk b (cp lk (row.take k) z)∉Kn:=fun b hb hlt h=>by
       obtain⟨_,r,h1,h2,h3⟩:=(hKn2 _).mp h
       have hq:OkR ns (row.take k++b::r):=OkR.app (fun m hm=>hB.1 m (List.mem_of_mem_take hm)) fun m hm=>by
         rcases List.mem_cons.mp hm with rfl | hm
         · exact hb
         · exact h1 m hm
       have hql:row.length=(row.take k++b::r).length:=by
         rw[List.length_append,List.length_take,List.length_cons,h2];omega
       have he:cp lk (row.take k++b::r) z=y:=by rw[cO];exact h3
       refine(hB.2.2 _ hq he).2 hql ⟨k,b,n,?_,?_,hn,hlt⟩
       · rw[List.take_append_of_le_length (by rw[List.length_take];omega),List.take_take,Nat.min_self]
       · rw[List.getElem?_append_right (by rw[List.length_take];omega),List.length_take,Nat.min_eq_left (by omega),Nat.sub_self];rfl
     have hnext:cp lk (row.take (k+1)) z∈Kn:=by
       refine(hKn2 _).mpr ⟨e9 hcl _ _ (fun m hm=>hB.1 m (List.mem_of_mem_take hm)) hz,row.drop (k+1),fun m hm=>hB.1 m (List.mem_of_mem_drop hm),by rw[List.length_drop];omega,?_⟩
       rw[←cO,List.take_append_drop,hB.2.1]
     refine bg (fun σ' H''=>σ'=[some (.ref lo),some (.ref d),some (.ref lr),some (.str z),some (.str y),some (.ref la),some (.str (cp lk (row.take k) z)),some (.int k),o8,o9]∧H''=H') (fun R3 hR3=>?_) ?_
     · walk_at "dm"
       have hlaH:=F.1 _ _ hla (fun _ e=>by cases e)
       have hlrH:=F.1 _ _ hlr1 (fun _ e=>by cases e)
       refine⟨_,SqL.of hlaH,_,hakk,dk,rfl,none,.inl ⟨_,Sum.inr z,F.2.1 _ _ hKk,rfl,by rw[fg,if_neg hnotk]⟩,aY (fun h=>by cases h) (fun _=>?_)⟩
       obtain⟨r,g1,g2⟩:=(FzP.tabG F hG1).get hnn hat
       exact⟨_,SqL.of hlrH,_,hrowk,some _,g1,aY (fun h=>by cases h) (fun _=>hR3 _ _ ⟨rfl,rfl⟩)⟩
     rintro σ3 H3 ⟨rfl,rfl⟩
     refine bg (fun σ' H''=>σ'=[some (.ref lo),some (.ref d),some (.ref lr),some (.str z),some (.str y),some (.ref la),some (.str (cp lk (row.take k) z)),some (.int k),some (.ref dn),o9]∧H''=H3) (fun R3 hR3=>?_) ?_
     · walk_at "dm"
       have hlaH:=F.1 _ _ hla (fun _ e=>by cases e)
       have hlrH:=F.1 _ _ hlr1 (fun _ e=>by cases e)
       exact⟨_,.inl (SqL.of hlrH),_,SqL.of hlaH,_,by rw[List.length_map];exact hakn,hR3 _ _ ⟨rfl,rfl⟩⟩
     rintro σ4 H4 ⟨rfl,rfl⟩
     refine bg (fun σ' H''=>∃ (o9:Option V),σ'=[some (.ref lo),some (.ref d),some (.ref lr),some (.str z),some (.str y),some (.ref la),some (.str (cp lk (row.take k) z)),some (.int k),some (.ref dn),o9]∧FzP Pz H4 H'') (fun R3 hR3=>?_) ?_
     · walk_at "dm"
       obtain⟨kvs,hRd,hkeys,htab⟩:=FzP.tabG F hG1
       refine⟨kvs,gu hPd (W:=fun o HF=>lU (Itd d o kvs) _ _ _ _ HF) hRd fun o2 HF2 hHF2 FF2=>?_⟩
       refine bf (H0:=HF2) (cZ hHF2) (fun j σ' H''=>∃ (o9:Option V),σ'=[some (.ref lo),some (.ref d),some (.ref lr),some (.str z),some (.str y),some (.ref la),some (.str (cp lk (row.take k) z)),some (.int k),some (.ref dn),o9]∧ae HF2 H'') ⟨o9,rfl,ae.refl _⟩ (fun _ _ _ _ ⟨_,_,h⟩=>h) ?_ (fun σ H'' ⟨a9,e,h⟩=>hR3 _ _ ⟨a9,e,FF2.trans (ae.fzp h)⟩)
       rintro j x σ H5 hj ⟨kk,v,hk2,rfl⟩ ⟨o9,rfl,hS⟩ R5 hR5
       obtain⟨b,hb,rfl⟩:∃ b,ns[j]?=some b∧Sum.inr b=kk:=by
         have h1:(kvs.map (·.1))[j]?=some kk:=by rw[List.getElem?_map,hk2];rfl
         rw[hkeys,List.getElem?_map] at h1
         exact Option.map_eq_some_iff.mp h1
       have hbm:=List.mem_of_getElem? hb
       have F5:FzP Pz H2 H5:=(F.trans FF2).trans (ae.fzp hS)
       obtain⟨r,g1,g2⟩:=(FzP.tabG F5 hG1).get hbm hat
       walk_at "dm"
       refine⟨_,SqL.of (F5.1 _ _ hlr1 (fun _ e=>by cases e)),_,hrowk,b,rfl,n,rfl,aY (fun hlt=>?_) (fun _=>hR5 _ _ ⟨_,rfl,hS⟩)⟩
       exact⟨_,g1,r,rfl,_,g2,none,.inl ⟨_,Sum.inr _,F5.2.1 _ _ hKn,rfl,by rw[fg,if_neg (hless b hbm hlt)]⟩,aY (fun h=>by cases h) (fun _=>hR5 _ _ ⟨_,rfl,hS⟩)⟩
     rintro σ5 H5 ⟨o9,rfl,F5⟩
     have F25:=F.trans F5
     obtain⟨r,g1,g2⟩:=(FzP.tabG F25 hG1).get hnn hat
     refine bg (fun σ' H''=>σ'=[some (.ref lo),some (.ref d),some (.ref lr),some (.str z),some (.str y),some (.ref la),some (.str (cp lk (row.take (k+1)) z)),some (.int k),some (.ref dn),o9]∧H''=H5) (fun R3 hR3=>?_) ?_
     · walk_at "dm"
       exact⟨_,SqL.of (F25.1 _ _ hlr1 (fun _ e=>by cases e)),_,hrowk,_,g1,r,rfl,_,g2,hR3 _ _ ⟨by rw[lC hn],rfl⟩⟩
     rintro σ6 H6 ⟨rfl,rfl⟩
     walk_at "dm"
     exact⟨some (.bl true),.inl ⟨_,Sum.inr _,F25.2.1 _ _ hKn,rfl,by rw[fg,if_pos hnext]⟩,aY (fun h=>by cases h) (fun _=>hR2 _ _ ⟨_,_,_,rfl,F25⟩)⟩
   rintro σ3 H3 ⟨o7,o8,o9,rfl,F3⟩
   walk_at "dm"
   exact⟨rfl,by rw[decide_eq_true trivial];exact q H3 (F1.trans F3)⟩
end

section
variable {P:Program}{w:World}{K:PySem.W.Frag}{mg:Str→Option Value}{base:Heap}
theorem gd.mem {ss:List Str}{bs:List (Str×List Str)}{f:Str}{R:Rows}(W:gd ss bs f R)(B:aR ss bs)(hf:f∈ss):∀ y∈aM R,y∈ss:=fun y hy=>by
 obtain⟨p,hp,rfl⟩:=List.mem_map.mp hy
 obtain⟨h1,h2,_⟩:=W.best p hp
 rw[←h2]
 exact e9 (gF B) _ _ h1 hf
theorem gd.row {ss:List Str}{bs:List (Str×List Str)}{f:Str}{R:Rows}(W:gd ss bs f R){z:Str}(hz:z∈aM R):nH (lkB ss bs) (bs.map (·.1)) f z (aO R z):=W.best _ (d6 W.nd hz)
theorem sW {z:Str}(h:cq z=true):1≤z.length:=by
 unfold cq at h
 simp only[Bool.and_eq_true,decide_eq_true_eq] at h
 exact h.1.1
theorem gd.num {ss so:List Str}{bs:List (Str×List Str)}{f:Str}{R:Rows}(W:gd ss bs f R)(B:aR ss bs)(hf:f∈ss)(hpm:so.Perm (aM R))(hso:PyProof.Rows.sortedS so=true):mK (lkB ss bs) (bs.map (·.1)) ss f so R:=by
 have hk:∀ z,z∈so↔z∈aM R:=fun z=>hpm.mem_iff
 have hext:∀ z∈aM R,∀ n∈bs.map (·.1),lkB ss bs n z∈aM R∧(aO R (lkB ss bs n z)).length≤(aO R z).length+1:=fun z hz n hn=>by
   have hb:=W.row hz
   have hok:OkR (bs.map (·.1)) (aO R z++[n]):=hb.1.app fun m hm=>by rw[List.mem_singleton.mp hm];exact hn
   have he:cp (lkB ss bs) (aO R z++[n]) f=lkB ss bs n z:=by rw[cO,hb.2.1];rfl
   have hm:=W.all _ hok
   rw[he] at hm
   have:=((W.row hm).2.2 _ hok he).1
   rw[List.length_append] at this
   exact⟨hm,this⟩
 refine⟨iM hso (hpm.nodup_iff.mpr W.nd),fun z hz=>?_,?_,?_,fun z hz n hn=>?_,fun z hz=>?_⟩
 · have h1:=W.mem B hf z ((hk z).mp hz)
   exact⟨h1,sW (B.snm z h1)⟩
 · have:=eK W.nd (W.mem B hf)
   rw[hpm.length_eq]
   exact Nat.le_trans this B.s12
 · have h0:f∈aM R:=W.all [] (fun _ h=>by cases h)
   refine⟨(hk f).mpr h0,List.length_eq_zero_iff.mp ?_⟩
   have:=((W.row h0).2.2 [] (fun _ h=>by cases h) rfl).1
   simpa using this
 · obtain⟨h1,h2⟩:=hext z ((hk z).mp hz) n hn
   exact⟨(hk _).mpr h1,h2⟩
 · have hb:=W.row ((hk z).mp hz)
   by_cases hne:aO R z=[]
   · rw[hne] at hb
     exact .inl hb.2.1.symm
   · obtain⟨q,n,e⟩:∃ q n,aO R z=q++[n]:=⟨_,_,(List.dropLast_concat_getLast hne).symm⟩
     rw[e] at hb
     have hq:=hb.1.left
     have hn:n∈bs.map (·.1):=hb.1 n (List.mem_append_right _ (List.mem_singleton.mpr rfl))
     have hy:=W.all q hq
     have hby:=W.row hy
     have he:lkB ss bs n (cp (lkB ss bs) q f)=z:=by rw[←hb.2.1,cO];rfl
     refine .inr ⟨_,(hk _).mpr hy,n,hn,he,?_⟩
     have h1:=(hby.2.2 q hq rfl).1
     have h2:=(hext _ hy n hn).2
     rw[he,e,List.length_append,List.length_singleton] at h2
     rw[e,List.length_append,List.length_singleton]
     omega
theorem ub {so:List Str}(hd:so.Nodup)(g:Str→V){z:Str}(hz:z∈so):bZ (bj so (so.map g)) (Sum.inr z)=some (g z):=by
 obtain⟨i,hi⟩:=List.getElem?_of_mem hz
 exact cT _ _ i z _ hd hi (by rw[List.getElem?_map,hi];rfl)
theorem uq {so:List Str}{β:Type}(g:Str→β):(so.map fun z=>(z,g z)).map (·.1)=so:=by rw[List.map_map];exact(List.map_congr_left (g:=id) (fun z _=>rfl)).trans (List.map_id so)
theorem uf {so:List Str}{β:Type}(g:Str→β):(so.map fun z=>(z,g z)).map (·.2)=so.map g:=by rw[List.map_map];rfl
end

section
variable {P:Program}{w:World}{K:PySem.W.Frag}{mg:Str→Option Value}{base:Heap}
structure jT (lk:Str→Str→Str)(ns ss so:List Str) (z y:Str)(xs:List Str):Prop where
 pw:xs.Pairwise ltN
 ins:∀ x∈xs,x∈so∧x∈ss
 len:xs.length≤so.length∧so.length≤100
 hz:z∈xs
 hy:y∉xs
 cl:∀ n∈ns,∀ x∈xs,lk n x∈xs
def rA (K:PySem.W.Frag):Sp:=fun vs H Q _=>∃ (Pz:Addr→Prop)(l lo d:Addr)(xs so ss ns:List Str)(lk:Str→Str→Str) (z y:Str),vs=[.ref l,.ref lo,.ref d,.str z,.str y]∧H l=some (.lst (xs.map V.str))∧SqL K H lo (so.map V.str)∧gN H d ss ns lk∧jT lk ns ss so z y xs∧¬Pz d∧(∀ b,Pz b→H b≠none)∧∀ H',FzP Pz H H'→Q (.bl true) H'
theorem lO:aG ["_law_found", "_law_order", "_law_tables_here", "_law_first", "_law_last", "_law_k", "_law_shade", "_law_bath"] ["_law_found", "_law_order", "_law_tables_here", "_law_first", "_law_last"] (af jJ):=⟨rfl,rfl,rfl,by decide +kernel,rfl,by decide +kernel,by decide +kernel⟩
theorem mn {f fLl:Addr}{fd fdLl:FuncData}(F:Fun K "_law_shut_right" "_law_shut_right" jJ f fd)
   (T:Txt mg)
   (GLl:au P w K mg base CX0 1 fLl fdLl ["_law_found", "_law_known", "_law_most"] (lp K))(kLl:PySem.W.keepIn K (.ref fLl)=true)(bLl:aE K fdLl ["_law_found", "_law_known", "_law_most"] [])(mLl:mg "_law_list_of_names"=some (.ref fLl)) :
   au P w K mg base CX0 2 f fd ["_law_found", "_law_order", "_law_tables_here", "_law_first", "_law_last"] (rA K):=by
 refine F.ok lO (fun vs H Q E h=>?_) (fun cdv A outer s H vs Q E hr h=>?_)
 · obtain⟨_,_,_,_,_,_,_,_,_,_,_,rfl,_⟩:=h
   rfl
 · obtain⟨Pz,l,lo,d,xs,so,ss,ns,lk,z,y,rfl,hl,hlo,hG,SO,hPd,hPn,q⟩:=h
   have hu:(cJ CX0 P w K mg base ["_law_found", "_law_order", "_law_tables_here", "_law_first", "_law_last", "_law_k", "_law_shade", "_law_bath"] "_law_shut_right" (af jJ) f cdv A outer s H E).A.units+1 < cLine:=by
     have:=hr.units
     exact Nat.lt_of_le_of_lt (Nat.add_le_add_left (by decide) _) this
   have hr1:=hr.mono (j:=1) (by omega)
   refine⟨_,(ak (aV (PW.pt (dC (cM (cE (ay GLl hr1 rfl mLl kLl bLl .nil aZ (aa (pv 0) (aa (pv 1) (aa (al ao (by rfl) T.len PySem.boot_len (aa (pv 1) ac)) ac)))))) (dC (ax bV (pv 3) (pv 0) (by with_unfolding_all rfl)) (dB (ax lB (pv 4) (pv 0) (by with_unfolding_all rfl)))))) (ai (az cv)) ar)
     (ak (bu PassesOwn.never rfl (qN rfl T.range (aa aj (aa (al ao (by rfl) T.len PySem.boot_len (aa (pv 0) ac)) ac))) (ap (i:=5) lO.nd rfl (Or.inl rfl)) (ai (aV (ax q9 (bc aP (pv 0) (aH jK (pv 5) aj) (fun _ _=>rfl)) (bc aP (pv 0) (pv 5) (fun _ _=>rfl)) (aK _)) (ai (az cv)) ar)))
     (ak (bu PassesOwn.never rfl (br (pv 0)) (ap (i:=6) lO.nd rfl (Or.inl rfl)) (ai (bu PassesOwn.never rfl (fP (pv 2)) (ap (i:=7) lO.nd rfl (Or.inl rfl)) (ai (aV (ax bV (bn hu (bn hu (pv 2) (pv 7) (fun _ _=>rfl)) (pv 6) (fun _ _=>rfl)) (pv 0) (by with_unfolding_all rfl)) (ai (az cv)) ar)))))
     (ai (az cv))))),?_⟩
   have hs:=bi
   obtain⟨hxl,hsl⟩:=SO.len
   refine bg (fun σ' H'=>σ'=[some (.ref l),some (.ref lo),some (.ref d),some (.str z),some (.str y),none,none,none]∧H'=H) (fun R hR=>?_) ?_
   · walk_at "dm"
     refine⟨_,.inl hlo,l,lo,xs,so,_,rfl,hl,hlo,fun x hx=>(SO.ins x hx).1,by rw[List.length_map];omega,true,rfl,aY (fun h=>by cases h) (fun _=>⟨_,.inl (SqL.of hl),rfl,cj xs,aY (fun hn=>?_) (fun _=>⟨_,.inl (SqL.of hl),rfl,cj xs,aY (fun hn=>?_) (fun _=>hR _ _ ⟨rfl,rfl⟩)⟩)⟩)⟩
     · rw[cW,decide_eq_true SO.hz] at hn;cases hn
     · rw[cW,decide_eq_false SO.hy] at hn;cases hn
   rintro σ1 H1 ⟨rfl,rfl⟩
   refine bg (fun σ' H'=>∃ o5,σ'=[some (.ref l),some (.ref lo),some (.ref d),some (.str z),some (.str y),o5,none,none]∧H'=H1) (fun R hR=>?_) ?_
   · walk_at "dm"
     refine⟨_,.inl (SqL.of hl),by decide,by decide,by rw[List.length_map];omega,by rw[List.length_map];omega,?_⟩
     rw[List.length_map]
     refine bf (H0:=fun _=>none) (bJ (lo:=1)) (fun i σ' H'=>∃ o5,σ'=[some (.ref l),some (.ref lo),some (.ref d),some (.str z),some (.str y),o5,none,none]∧H'=H1) ⟨none,rfl,rfl⟩ (fun _ _ _ _ _ b o e=>by cases e) ?_ (fun σ H' ⟨o5,e,h⟩=>hR _ _ ⟨o5,e,h⟩)
     rintro i x σ H' hi rfl ⟨o5,rfl,rfl⟩ R2 hR2
     have hx1:1≤xs.length:=List.length_pos_of_mem SO.hz
     obtain⟨u,hu⟩:∃ u,xs[i]?=some u:=⟨_,List.getElem?_eq_getElem (by omega)⟩
     obtain⟨v,hv⟩:∃ v,xs[i+1]?=some v:=⟨_,List.getElem?_eq_getElem (by omega)⟩
     have hlt:=tj SO.pw (Nat.lt_succ_self i) hu hv
     have e1:(1:Int)+(i:Int) - 1=i:=by omega
     have e2:(1:Int)+(i:Int)=((i+1:Nat):Int):=by omega
     walk_at "dm"
     rw[e1]
     refine⟨_,SqL.of hl,_,dj hu,_,SqL.of hl,_,by rw[e2];exact dj hv,u,rfl,v,rfl,?_⟩
     exact aY (fun hn=>absurd hlt hn) (fun _=>hR2 _ _ ⟨_,rfl,rfl⟩)
   rintro σ2 H2 ⟨o5,rfl,rfl⟩
   refine bg (fun σ' H'=>FzP Pz H2 H') (fun R hR=>?_) ?_
   · walk_at "dm"
     refine⟨⟨_,SqL.of hl⟩,?_⟩
     refine bf (H0:=nod H2) (aJ (pY (SqL.of hl))) (fun i σ' H'=>∃ (o6 o7:Option V),σ'=[some (.ref l),some (.ref lo),some (.ref d),some (.str z),some (.str y),o5,o6,o7]∧FzP Pz H2 H') ⟨none,none,rfl,FzP.refl _⟩ (fun _ _ _ _ ⟨_,_,_,h⟩=>h.nod) ?_ (fun σ H' ⟨_,_,_,h⟩=>hR _ _ h)
     rintro i x σ H' hi hx ⟨o6,o7,rfl,F⟩ R2 hR2
     rw[List.getElem?_map] at hx
     obtain⟨w1,hw1,rfl⟩:=Option.map_eq_some_iff.mp hx
     have hwm:=List.mem_of_getElem? hw1
     walk_at "dm"
     obtain⟨kvs,hRd,hkeys,htab⟩:=FzP.tabG F hG
     refine⟨kvs,gu hPd (W:=fun o HF=>lU (Itd d o kvs) _ _ _ _ HF) hRd fun o2 HF2 hHF2 FF2=>?_⟩
     refine bf (H0:=HF2) (cZ hHF2) (fun j σ' H''=>∃ (o7:Option V),σ'=[some (.ref l),some (.ref lo),some (.ref d),some (.str z),some (.str y),o5,some (.str w1),o7]∧ae HF2 H'') ⟨o7,rfl,ae.refl _⟩ (fun _ _ _ _ ⟨_,_,h⟩=>h) ?_ (fun σ H'' ⟨a7,e,h⟩=>hR2 _ _ ⟨_,a7,e,(F.trans FF2).trans (ae.fzp h)⟩)
     rintro j x σ H5 hj ⟨kk,v,hk2,rfl⟩ ⟨o7,rfl,hS⟩ R5 hR5
     obtain⟨b,hb,rfl⟩:∃ b,ns[j]?=some b∧Sum.inr b=kk:=by
       have h1:(kvs.map (·.1))[j]?=some kk:=by rw[List.getElem?_map,hk2];rfl
       rw[hkeys,List.getElem?_map] at h1
       exact Option.map_eq_some_iff.mp h1
     have hbm:=List.mem_of_getElem? hb
     have F5:FzP Pz H2 H5:=(F.trans FF2).trans (ae.fzp hS)
     obtain⟨r,g1,g2⟩:=(FzP.tabG F5 hG).get hbm (SO.ins w1 hwm).2
     have hl5:=F5.1 _ _ hl (fun _ e=>by cases e)
     walk_at "dm"
     refine⟨_,g1,r,rfl,_,g2,_,.inl (SqL.of hl5),rfl,cj xs,aY (fun hn=>?_) (fun _=>hR5 _ _ ⟨_,rfl,hS⟩)⟩
     rw[cW,decide_eq_true (SO.cl b hbm w1 hwm)] at hn
     cases hn
   rintro σ3 H3 F3
   walk_at "dm"
   exact q H3 F3
theorem gd.shut {ss so oo:List Str}{bs:List (Str×List Str)}{f y:Str}{R:Rows}(W:gd ss bs f R)(B:aR ss bs)(hf:f∈ss)(hpm:so.Perm (aM R))(hso:PyProof.Rows.sortedS so=true)(hy:y∉aM R)(ho:oo.Perm ss):jT (lkB ss bs) (bs.map (·.1)) ss oo f y so:=by
 have hk:∀ z,z∈so↔z∈aM R:=fun z=>hpm.mem_iff
 have hsl:=eK W.nd (W.mem B hf)
 have hsn:so.Nodup:=hpm.nodup_iff.mpr W.nd
 have hs12:=B.s12
 refine⟨iM hso hsn,fun x hx=>?_,⟨?_,?_⟩,(hk f).mpr (W.all [] fun _ h=>by cases h),fun h=>hy ((hk y).mp h),fun n hn x hx=>?_⟩
 · have:=W.mem B hf x ((hk x).mp hx)
   exact⟨ho.mem_iff.mpr this,this⟩
 · rw[hpm.length_eq,ho.length_eq];exact hsl
 · rw[ho.length_eq];omega
 · have hb:=W.row ((hk x).mp hx)
   have hok:OkR (bs.map (·.1)) (aO R x++[n]):=hb.1.app fun m hm=>by rw[List.mem_singleton.mp hm];exact hn
   have he:cp (lkB ss bs) (aO R x++[n]) f=lkB ss bs n x:=by rw[cO,hb.2.1];rfl
   have hm:=W.all _ hok
   rw[he] at hm
   exact(hk _).mpr hm
def mP:Sp:=fun vs H Q _=>∃ z y:Str,vs=[.str z,.str y]∧Q (.bl (decide (z=y))) H
theorem rR:aG ["_law_found", "_law_due"] ["_law_found", "_law_due"] (af gJ):=⟨rfl,rfl,rfl,by decide +kernel,rfl,by decide +kernel,by decide +kernel⟩
theorem qr {f:Addr}{fd:FuncData}(F:Fun K "_law_text_is" "_law_text_is" gJ f fd)
   (T:Txt mg)  :
   au P w K mg base CX0 1 f fd ["_law_found", "_law_due"] mP:=by
 refine F.ok rR (fun vs H Q E h=>?_) (fun cdv A outer s H vs Q E hr h=>?_)
 · obtain⟨_,_,rfl,_⟩:=h
   rfl
 · obtain⟨z,y,rfl,q⟩:=h
   refine⟨_,(ai (az (lW (al cR (by rfl) T.isi (by decide +kernel) (aa (pv 0) (aa (dv (v:=.ty "str") rfl T.str (by decide +kernel) rfl) ac))) (lV (dw dt (pv 0) (pv 1) (aK _)))))),?_⟩
   walk_at "dm"
   refine⟨_,eC.str _,true,rfl,?_⟩
   rw[if_pos rfl]
   exact⟨rfl,q⟩
end

section
variable {P:Program}{w:World}{K:PySem.W.Frag}{mg:Str→Option Value}{base:Heap}
def iE (C cN:Addr):Sp:=fun vs H Q E=>∃ (x:Addr)(ss:List Str)(bs:List (Str×List Str)) (z:Str),vs=[.ref x,.str z]∧ck H C x ss bs∧aR ss bs∧Shw z∧(z∈bs.map (·.1)→Q .non H)∧(z∉bs.map (·.1)→E (.ref cN) none H)
theorem oO {C f cN:Addr}{fd:FuncData}(F:Fun K "check_bath" "Book.check_bath" ej f fd)(c:Cls K C)(nT:ca K C "tables")(XN:eJ K cN)(mN:mg "NoBath"=some (.ref cN)):au P w K mg base (CX1 P w) 1 f fd ["self", "bath"] (iE C cN):=by
 refine F.okX m8 (fun vs H Q E h=>?_) (fun cdv A outer s H vs Q E hr h=>?_)
 · obtain⟨_,_,_,_,rfl,_⟩:=h
   rfl
 · obtain⟨x,ss,bs,z,rfl,⟨dx,t,d,so,h1,h2,h3,h4,h5⟩,B,hz,q,qe⟩:=h
   have hu:(cJ (CX1 P w) P w K mg base ["self", "bath"] "Book.check_bath" (af ej) f cdv A outer s H E).A.units+1 < cLine:=by
     have:=hr.units
     exact Nat.lt_of_le_of_lt (Nat.add_le_add_left (by decide) _) this
   refine⟨_,ai (aV (dL (cU hu (pv 1) (cc (pv 0) rfl))) (ai (b6 rfl rfl mN XN.exc PySem.F.excBase_ValueError (aa (fV (pv 1)) ac) d5)) ar),?_⟩
   by_cases hm:z∈bs.map (·.1)
   · obtain⟨b,hb,rfl⟩:=List.mem_map.mp hm
     obtain⟨r,hg,hr⟩:=ms.get B h5 hb
     walk_at "dm"
     exact⟨C,dx,_,h1,c,nT,_,dE,d,rfl,_,hg,q hm⟩
   · obtain⟨ds,e1,e2,e3⟩:=h5
     walk_at "dm"
     refine⟨C,dx,_,h1,c,nT,_,dE,d,rfl,none,.inl ⟨_,Sum.inr z,e1,rfl,(bM _ _ _ hm).symm⟩,?_⟩
     exact⟨hz.1,hz.2,fun y=>⟨by decide,qe hm⟩⟩
def jr (C cS:Addr):Sp:=fun vs H Q E=>∃ (x:Addr)(ss:List Str)(bs:List (Str×List Str)) (y:Str),vs=[.ref x,.str y]∧ck H C x ss bs∧Shw y∧(y∈ss→Q .non H)∧(y∉ss→E (.ref cS) none H)
theorem nQ {C f cS:Addr}{fd:FuncData}(F:Fun K "check_shade" "Book.check_shade" eM f fd)(c:Cls K C)(nO:ca K C "order")(XS:eJ K cS)(mS:mg "NoShade"=some (.ref cS)):au P w K mg base (CX1 P w) 1 f fd ["self", "shade"] (jr C cS):=by
 refine F.okX kq (fun vs H Q E h=>?_) (fun cdv A outer s H vs Q E hr h=>?_)
 · obtain⟨_,_,_,_,rfl,_⟩:=h
   rfl
 · obtain⟨x,ss,bs,y,rfl,⟨dx,t,d,so,h1,h2,h3,h4,h5⟩,hy,q,qe⟩:=h
   refine⟨_,ai (aV (ax bV (pv 1) (cc (pv 0) rfl) (by with_unfolding_all rfl)) (ai (b6 rfl rfl mS XS.exc PySem.F.excBase_ValueError (aa (fV (pv 1)) ac) d5)) ar),?_⟩
   by_cases hm:y∈ss
   · have hyo:y∈so:=h3.mem_iff.mpr hm
     walk_at "dm"
     refine⟨C,dx,_,h1,c,nO,_,gq,t,rfl,_,.inr (SqT.of h2),rfl,cj so,?_⟩
     rw[cW,decide_eq_true hyo]
     exact q hm
   · have hyo:y∉so:=fun h=>hm (h3.mem_iff.mp h)
     walk_at "dm"
     refine⟨C,dx,_,h1,c,nO,_,gq,t,rfl,_,.inr (SqT.of h2),rfl,cj so,?_⟩
     rw[cW,decide_eq_false hyo]
     exact⟨hy.1,hy.2,fun w=>⟨by decide,qe hm⟩⟩
end

section
variable {P:Program}{w:World}{K:PySem.W.Frag}{mg:Str→Option Value}{base:Heap}
def GN (ws:List Str):Prop:=ws.Nodup∧∀ x∈ws,cq x=true
def GO (ss os:List Str):Prop:=os.length=ss.length∧∀ x∈os,x∈ss
structure GB (ss:List Str)(bs:List (Str×List Str)):Prop where
 b8:bs.length≤8
 gn:GN (bs.map (·.1))
 go:∀ b∈bs,GO ss b.2
structure GS (ss:List Str):Prop where
 s1:1≤ss.length
 s12:ss.length≤12
 gn:GN ss
structure mI (ss:List Str)(bs:List (Str×List Str)):Prop where
 sl:ss.length≤100
 sh:∀ x∈ss,Shw x
 bl:bs.length≤100
 bh:∀ b∈bs,Shw b.1
 ol:∀ b∈bs,b.2.length≤100
 oh:∀ b∈bs,∀ x∈b.2,Shw x
theorem aR.of {ss:List Str}{bs:List (Str×List Str)}(X:mI ss bs)(a:GS ss)(b:GB ss bs):aR ss bs :=
 ⟨a.s1,a.s12,a.gn.1,a.gn.2,X.sh,b.b8,b.gn.1,fun x hx=>b.gn.2 _ (List.mem_map_of_mem hx),X.bh,fun x hx=>(b.go x hx).1,fun x hx=>(b.go x hx).2⟩
theorem aR.txt {ss:List Str}{bs:List (Str×List Str)}(B:aR ss bs):mI ss bs :=
 ⟨by have:=B.s12;omega,B.snw,by have:=B.b8;omega,B.bnw,fun b hb=>by have:=B.s12;rw[B.bln b hb];omega,fun b hb x hx=>B.snw x (B.bin b hb x hx)⟩
theorem aR.gs {ss:List Str}{bs:List (Str×List Str)}(B:aR ss bs):GS ss:=⟨B.s1,B.s12,B.snd,B.snm⟩
theorem aR.gb {ss:List Str}{bs:List (Str×List Str)}(B:aR ss bs):GB ss bs :=
 ⟨B.b8,⟨B.bnd,fun x hx=>by obtain⟨b,hb,rfl⟩:=List.mem_map.mp hx;exact B.bnm b hb⟩,fun b hb=>⟨B.bln b hb,B.bin b hb⟩⟩
theorem nu:∀ (l acc:List Str),(∀ x∈l.foldl eR acc,x∈acc∨x∈l)∧(acc.Nodup→(l.foldl eR acc).Nodup)∧(l.foldl eR acc).length≤acc.length+l.length
 | [],acc=>⟨fun x hx=>.inl hx,fun h=>h,Nat.le_refl _⟩
 | y::l,acc=>by
   obtain⟨h1,h2,h3⟩:=nu l (eR acc y)
   rw[List.foldl_cons]
   refine⟨fun x hx=>?_,fun hd=>h2 ?_,?_⟩
   · rcases h1 x hx with q | q
     · unfold eR at q
       split at q
       · exact .inl q
       · rcases List.mem_append.mp q with q | q
         · exact .inl q
         · rw[List.mem_singleton.mp q];exact .inr List.mem_cons_self
     · exact .inr (List.mem_cons_of_mem _ q)
   · unfold eR
     split
     · exact hd
     · rename_i hn;exact g7 hd hn
   · have:=mv acc y
     rw[List.length_cons];omega
theorem uu {l:List Str}(h:¬l.Nodup):(ee l).length≠l.length:=fun e=>h (by
 have key:∀ (l acc:List Str),acc.Nodup→(l.foldl eR acc).length=acc.length+l.length→(acc++l).Nodup:=by
   intro l
   induction l with
   | nil=>intro acc hd _;rw[List.append_nil];exact hd
   | cons y l ih =>
     intro acc hd he
     rw[List.foldl_cons,List.length_cons] at he
     by_cases hy:y∈acc
     · have e1:eR acc y=acc:=by unfold eR;rw[if_pos hy]
       rw[e1] at he
       have:=(nu l acc).2.2
       omega
     · have e1:eR acc y=acc++[y]:=by unfold eR;rw[if_neg hy]
       rw[e1] at he
       have:=ih (acc++[y]) (g7 hd hy) (by rw[he,List.length_append,List.length_singleton];omega)
       rw[List.append_assoc] at this
       exact this
 exact key l [] List.nodup_nil (by unfold ee at e;rw[e,List.length_nil,Nat.zero_add]))
def iO (K:PySem.W.Frag)(cB:Addr):Sp:=fun vs H Q E=>∃ (l:Addr)(ws:List Str),vs=[.ref l]∧SqL K H l (ws.map V.str)∧ws.length≤100∧(∀ x∈ws,Shw x)∧(GN ws→∀ H',ae H H'→Q .non H')∧(¬GN ws→∀ H',ae H H'→E (.ref cB) none H')
theorem pc {f fG cB:Addr}{fd fdG:FuncData}(F:Fun K "check_names" "check_names" fE f fd)(T:Txt mg)(XB:eJ K cB)(mB:mg "BadBook"=some (.ref cB))(GG:au P w K mg base CX0 1 fG fdG ["text"] l4)(kG:PySem.W.keepIn K (.ref fG)=true)(bG:aE K fdG ["text"] [])(mG:mg "good_name"=some (.ref fG)) :
   au P w K mg base (CX1 P w) 2 f fd ["texts"] (iO K cB):=by
 refine F.okX im (fun vs H Q E h=>?_) (fun cdv A outer s H vs Q E hr h=>?_)
 · obtain⟨_,_,rfl,_⟩:=h
   rfl
 · obtain⟨l,ws,rfl,hl,hlen,hsh,q,qe⟩:=h
   refine⟨_,aq (bu PassesOwn.leaving rfl (br (pv 0)) (ap (i:=1) im.nd rfl (Or.inl rfl))
       (ai (aV (cM (cE (ay GG hr rfl mG kG bG .nil aZ (aa (pv 1) ac)))) (ai (b6 rfl rfl mB XB.exc PySem.F.excBase_ValueError (aa (fV (pv 1)) ac) d5)) ar)))
     (ai (aV (ax lg (al kC (by rfl) T.len PySem.boot_len (aa (bw (nP rfl) (by rfl) T.set (by decide +kernel) (aa (pv 0) ac)) ac)) (al ao (by rfl) T.len PySem.boot_len (aa (pv 0) ac)) (aK _)) (ai (b6 rfl rfl mB XB.exc PySem.F.excBase_ValueError (aa bQ ac) d5)) ar)),?_⟩
   have hs:=bi
   walk_at "dm"
   refine⟨⟨_,hl⟩,?_⟩
   refine bE (H0:=H) (aJ hl) (fun i σ' H'=>∃ o,σ'=[some (.ref l),o]∧ae H H'∧∀ x∈ws.take i,cq x=true) ⟨none,rfl,ae.refl H,fun x hx=>by simp at hx⟩ (fun _ _ _ _ ⟨_,_,h,_⟩=>h) ?_ ?_
   · rintro i x σ H' hi hx ⟨o,rfl,hS,hb⟩
     rw[List.getElem?_map] at hx
     obtain⟨z,hz,rfl⟩:=Option.map_eq_some_iff.mp hx
     have hzm:=List.mem_of_getElem? hz
     have hzs:=hsh z hzm
     walk_at "dm"
     refine⟨z,rfl,hzs.1,fun H2 S2=>?_⟩
     by_cases hg:cq z=true
     · rw[hg]
       refine⟨_,rfl,aY (fun h=>by cases h) (fun _=>⟨hS.trans S2,fun x hx=>?_⟩)⟩
       rw[bH hz] at hx
       rcases List.mem_append.mp hx with hx | hx
       · exact hb x hx
       · rw[List.mem_singleton.mp hx];exact hg
     · have hg':cq z=false:=by simpa using hg
       rw[hg']
       exact⟨_,rfl,aY (fun _=>⟨hzs.1,hzs.2,fun y=>⟨by decide,qe (fun g=>hg (g.2 z hzm)) _ (hS.trans S2)⟩⟩) (fun h=>absurd rfl h)⟩
   · rintro σ H' ⟨o,rfl,hS,hb⟩
     rw[List.length_map,List.take_length] at hb
     walk_at "dm"
     refine⟨_,hS.seq hl,by omega,fun p hp=>⟨_,ad,_,.inl ((hS.step (hS.free hp)).seq hl),rfl,?_⟩⟩
     rw[List.length_map]
     by_cases hnd:ws.Nodup
     · rw[pJ hnd]
       exact aY (fun h=>absurd rfl h) (fun _=>q ⟨hnd,hb⟩ _ (hS.step (hS.free hp)))
     · have:=uu hnd
       exact aY (fun _=>⟨by decide,qe (fun g=>hnd g.1) _ (hS.step (hS.free hp))⟩) (fun h=>absurd (by omega:(ee ws).length=ws.length) this)
def jo (K:PySem.W.Frag)(cB:Addr):Sp:=fun vs H Q E=>∃ (l:Addr)(ws:List Str),vs=[.ref l]∧SqL K H l (ws.map V.str)∧ws.length≤100∧(∀ x∈ws,Shw x)∧(GS ws→∀ H',ae H H'→Q .non H')∧(¬GS ws→∀ H',ae H H'→E (.ref cB) none H')
theorem mV {f fG cB:Addr}{fd fdG:FuncData}(F:Fun K "check_shades" "check_shades" eU f fd)(T:Txt mg)(TB:rp mg)(XB:eJ K cB)(mB:mg "BadBook"=some (.ref cB))(GG:au P w K mg base (CX1 P w) 2 fG fdG ["texts"] (iO K cB))(kG:PySem.W.keepIn K (.ref fG)=true)(bG:aE K fdG ["texts"] [])(mG:mg "check_names"=some (.ref fG)) :
   au P w K mg base (CX1 P w) 3 f fd ["shades"] (jo K cB):=by
 refine F.okX lh (fun vs H Q E h=>?_) (fun cdv A outer s H vs Q E hr h=>?_)
 · obtain⟨_,_,rfl,_⟩:=h
   rfl
 · obtain⟨l,ws,rfl,hl,hlen,hsh,q,qe⟩:=h
   obtain⟨tg,hms⟩:=TB.mostS
   refine⟨_,aq (aV (ax iV (al ao (by rfl) T.len PySem.boot_len (aa (pv 0) ac)) aj (aK _)) (ai (b6 rfl rfl mB XB.exc PySem.F.excBase_ValueError (aa bQ ac) d5)) ar)
     (aq (aV (ax gh (al ao (by rfl) T.len PySem.boot_len (aa (pv 0) ac)) (df (v:=.int 12) rfl hms ⟨_,rfl⟩) (aK _)) (ai (b6 rfl rfl mB XB.exc PySem.F.excBase_ValueError (aa bQ ac) d5)) ar)
     (ai (aW (ay GG hr rfl mG kG bG .nil cG (aa (pv 0) ac))))),?_⟩
   have hs:=bi
   walk_at "dm"
   refine⟨_,.inl hl,?_⟩
   rw[List.length_map]
   refine aY (fun h=>⟨by decide,qe (fun g=>by have:=g.s1;omega) H (ae.refl H)⟩) (fun h1=>⟨_,.inl hl,?_⟩)
   rw[List.length_map]
   refine aY (fun h=>⟨by decide,qe (fun g=>by have:=g.s12;omega) H (ae.refl H)⟩) (fun h2=>?_)
   exact⟨l,ws,rfl,hl,hlen,hsh,fun g H' S=>q ⟨by omega,by omega,g⟩ H' S,fun g H' S=>qe (fun g2=>g g2.gn) H' S⟩
def nt (K:PySem.W.Frag)(cB:Addr):Sp:=fun vs H Q E=>∃ (l lo:Addr)(ss os:List Str),vs=[.ref l,.ref lo]∧SqL K H l (ss.map V.str)∧SqL K H lo (os.map V.str)∧os.length≤100∧(∀ x∈os,Shw x)∧(GO ss os→∀ H',ae H H'→Q .non H')∧(¬GO ss os→∀ H',ae H H'→E (.ref cB) none H')
theorem qV {f cB:Addr}{fd:FuncData}(F:Fun K "check_outs" "check_outs" gW f fd)(T:Txt mg)(XB:eJ K cB)(mB:mg "BadBook"=some (.ref cB)) :
   au P w K mg base (CX1 P w) 1 f fd ["shades", "outs"] (nt K cB):=by
 refine F.okX jh (fun vs H Q E h=>?_) (fun cdv A outer s H vs Q E hr h=>?_)
 · obtain⟨_,_,_,_,rfl,_⟩:=h
   rfl
 · obtain⟨l,lo,ss,os,rfl,hl,hlo,hlen,hsh,q,qe⟩:=h
   refine⟨_,aq (aV (ax lg (al ao (by rfl) T.len PySem.boot_len (aa (pv 1) ac)) (al ao (by rfl) T.len PySem.boot_len (aa (pv 0) ac)) (aK _)) (ai (b6 rfl rfl mB XB.exc PySem.F.excBase_ValueError (aa bQ ac) d5)) ar)
     (ai (bu PassesOwn.leaving rfl (br (pv 1)) (ap (i:=2) jh.nd rfl (Or.inl rfl))
       (ai (aV (ax bV (pv 2) (pv 0) (by with_unfolding_all rfl)) (ai (b6 rfl rfl mB XB.exc PySem.F.excBase_ValueError (aa (fV (pv 2)) ac) d5)) ar)))),?_⟩
   have hs:=bi
   walk_at "dm"
   refine⟨_,.inl hlo,_,.inl hl,rfl,?_⟩
   rw[List.length_map,List.length_map]
   refine aY (fun h=>⟨by decide,qe (fun g=>h (by rw[g.1])) H (ae.refl H)⟩) (fun hle=>⟨⟨_,hlo⟩,?_⟩)
   have hle':os.length=ss.length:=by omega
   refine bE (H0:=H) (aJ hlo) (fun i σ' H'=>∃ o,σ'=[some (.ref l),some (.ref lo),o]∧H'=H∧∀ x∈os.take i,x∈ss) ⟨none,rfl,rfl,fun x hx=>by simp at hx⟩ (fun _ _ _ _ ⟨_,_,h,_⟩=>by rw[h];exact ae.refl _) ?_ ?_
   · rintro i x σ H' hi hx ⟨o,rfl,rfl,hb⟩
     rw[List.getElem?_map] at hx
     obtain⟨z,hz,rfl⟩:=Option.map_eq_some_iff.mp hx
     have hzm:=List.mem_of_getElem? hz
     walk_at "dm"
     refine⟨_,.inl hl,rfl,cj ss,?_⟩
     rw[cW]
     by_cases hin:z∈ss
     · rw[decide_eq_true hin]
       intro x hx
       rw[bH hz] at hx
       rcases List.mem_append.mp hx with hx | hx
       · exact hb x hx
       · rw[List.mem_singleton.mp hx];exact hin
     · rw[decide_eq_false hin]
       exact⟨(hsh z hzm).1,(hsh z hzm).2,fun y=>⟨by decide,qe (fun g=>hin (g.2 z hzm)) _ (ae.refl _)⟩⟩
   · rintro σ H' ⟨o,rfl,rfl,hb⟩
     rw[List.length_map,List.take_length] at hb
     exact q ⟨hle',hb⟩ _ (ae.refl _)
end

section
variable {P:Program}{w:World}{K:PySem.W.Frag}{mg:Str→Option Value}{base:Heap}
def lj (K:PySem.W.Frag)(cB:Addr):Sp:=fun vs H Q E=>∃ (l lb:Addr)(ss:List Str)(bs:List (Str×List Str)),vs=[.ref l,.ref lb]∧SqL K H l (ss.map V.str)∧ik H lb bs∧mI ss bs∧(GB ss bs→∀ H',ae H H'→Q .non H')∧(¬GB ss bs→∀ H',ae H H'→E (.ref cB) none H')
theorem oK {f fG fO cB:Addr}{fd fdG fdO:FuncData}(F:Fun K "check_baths" "check_baths" fq f fd)(T:Txt mg)(TB:rp mg)(XB:eJ K cB)(mB:mg "BadBook"=some (.ref cB))(GG:au P w K mg base (CX1 P w) 2 fG fdG ["texts"] (iO K cB))(kG:PySem.W.keepIn K (.ref fG)=true)(bG:aE K fdG ["texts"] [])(mG:mg "check_names"=some (.ref fG))
   (GO_:au P w K mg base (CX1 P w) 1 fO fdO ["shades", "outs"] (nt K cB))(kO:PySem.W.keepIn K (.ref fO)=true)(bO:aE K fdO ["shades", "outs"] [])(mO:mg "check_outs"=some (.ref fO)) :
   au P w K mg base (CX1 P w) 3 f fd ["shades", "baths"] (lj K cB):=by
 refine F.okX e8 (fun vs H Q E h=>?_) (fun cdv A outer s H vs Q E hr h=>?_)
 · obtain⟨_,_,_,_,rfl,_⟩:=h
   rfl
 · obtain⟨l,lb,ss,bs,rfl,hl,⟨ps,hlb,hpl,hB⟩,X,q,qe⟩:=h
   obtain⟨tg,hms⟩:=TB.mostB
   have hr1:=hr.mono (j:=1) (by omega)
   refine⟨_,aq (aV (ax gh (al ao (by rfl) T.len PySem.boot_len (aa (pv 1) ac)) (df (v:=.int 8) rfl hms ⟨_,rfl⟩) (aK _)) (ai (b6 rfl rfl mB XB.exc PySem.F.excBase_ValueError (aa bQ ac) d5)) ar)
     (ak (aW (ay GG hr rfl mG kG bG .nil cG (aa (er (N':=["name", "outs"]) (pk:=[none,none]) rfl (cV.of (by rfl)) (br (pv 1)) (fun s H ex=>(dS (n:=2) rfl (aX (ap (i:=0) (by show(["name", "outs"]:List Str).Nodup;decide +kernel) rfl (Or.inl rfl)) (aX (ap (i:=1) (by show(["name", "outs"]:List Str).Nodup;decide +kernel) rfl (Or.inl rfl)) dm)):PG _ _ (ng K 2 (dq (cP 0) (dq (cP 1) me)))))
         (fun s H ex=>pv 0)) ac)))
     (ai (bu PassesOwn.leaving rfl (br (pv 1)) (dS (n:=2) rfl (aX (ap (i:=2) e8.nd rfl (Or.inl rfl)) (aX (ap (i:=3) e8.nd rfl (Or.inl rfl)) dm)))
       (ai (aW (ay GO_ hr1 rfl mO kO bO .nil cG (aa (pv 0) (aa (pv 3) ac)))))))),?_⟩
   have hs:=bi
   have hbl:=X.bl
   walk_at "dm"
   refine⟨_,.inl (SqL.of hlb),?_⟩
   rw[List.length_map]
   refine aY (fun h=>⟨by decide,qe (fun g=>by have:=g.b8;omega) H (ae.refl H)⟩) (fun h8=>?_)
   have hb8:bs.length≤8:=by omega
   refine cut (fun σ' H'=>σ'=[some (.ref l),some (.ref lb),none,none]∧ae H H'∧GN (bs.map (·.1))) ?_ ?_
   · walk_at "dm"
     refine⟨⟨_,SqL.of hlb⟩,fun D hD=>?_⟩
     refine dg (aJ (SqL.of hlb)) (by rw[List.length_map];omega) hD (fun σ=>∃ o1 o2,σ=[o1,o2]) (fun k=>V.str (bs.getD k (⟨#[]⟩,[])).1) ⟨none,none,rfl⟩ ?_ ?_
     · rintro k x σ' H3 hk hx ⟨o1,o2,rfl⟩ hS3 R hR
       rw[List.getElem?_map] at hx
       obtain⟨y,hy,rfl⟩:=Option.map_eq_some_iff.mp hx
       obtain⟨b,hb⟩:∃ b,bs[k]?=some b:=⟨_,List.getElem?_eq_getElem (by rw[List.length_map] at hk;omega)⟩
       obtain⟨lo,ht,hlo⟩:=hB k y b hy hb
       refine e6 (hS3 _ _ ht) ?_
       walk_at "dm"
       have e:(bs.getD k (⟨#[]⟩,[]))=b:=by rw[List.getD_eq_getElem?_getD,hb];rfl
       have:=hR [some (V.str b.1),some (V.ref lo)] ⟨_,_,rfl⟩
       rw[e] at this
       exact this
     · have e:(List.range (ps.map V.ref).length).map (fun k=>V.str (bs.getD k (⟨#[]⟩,[])).1)=(bs.map (·.1)).map V.str:=by
         rw[List.map_map]
         refine dP _ bs _ _ (by rw[List.length_map,hpl]) fun k x hx=>?_
         rw[List.getD_eq_getElem?_getD,hx]
         rfl
       rw[e]
       refine⟨D,bs.map (·.1),rfl,SqL.of ad,by rw[List.length_map];omega,fun x hx=>?_,fun g H' S'=>⟨(ae.updN hD).trans S',g⟩,fun g H' S'=>qe (fun g2=>g g2.gn) H' ((ae.updN hD).trans S')⟩
       obtain⟨b,hb,rfl⟩:=List.mem_map.mp hx
       exact X.bh b hb
   rintro σ1 H1 ⟨rfl,S1,hgn⟩
   walk_at "dm"
   refine⟨⟨_,SqL.of (S1 _ _ hlb)⟩,?_⟩
   refine bE (H0:=H) (aJ (SqL.of hlb)) (fun i σ' H'=>∃ o2 o3,σ'=[some (.ref l),some (.ref lb),o2,o3]∧ae H H'∧∀ b∈bs.take i,GO ss b.2) ⟨none,none,rfl,S1,fun x hx=>by simp at hx⟩ (fun _ _ _ _ ⟨_,_,_,h,_⟩=>h) ?_ ?_
   · rintro i x σ H' hi hx ⟨o2,o3,rfl,hS,hall⟩
     rw[List.getElem?_map] at hx
     obtain⟨y,hy,rfl⟩:=Option.map_eq_some_iff.mp hx
     obtain⟨b,hb⟩:∃ b,bs[i]?=some b:=⟨_,List.getElem?_eq_getElem (by rw[List.length_map] at hi;omega)⟩
     obtain⟨lo,ht,hlo⟩:=hB i y b hy hb
     have hbm:b∈bs:=List.mem_of_getElem? hb
     refine e6 (hS _ _ ht) ?_
     walk_at "dm"
     refine⟨l,lo,ss,b.2,rfl,hS.seq hl,SqL.of (hS _ _ hlo),X.ol b hbm,X.oh b hbm,fun g H2 S2=>⟨hS.trans S2,fun x hx=>?_⟩,fun g H2 S2=>qe (fun g2=>g (g2.go b hbm)) H2 (hS.trans S2)⟩
     rw[bH hb] at hx
     rcases List.mem_append.mp hx with hx | hx
     · exact hall x hx
     · rw[List.mem_singleton.mp hx];exact g
   · rintro σ H' ⟨o2,o3,rfl,hS,hall⟩
     rw[List.length_map,hpl,List.take_length] at hall
     exact q ⟨hb8,hgn,hall⟩ _ hS
def dJ (H H':Hp):Hp:=fun a=>match H a with | none=>H' a | some _=>none
theorem fm {H H':Hp}{a:Addr}(h:H a=none):dJ H H' a=H' a:=by
 unfold dJ;rw[h]
theorem kK {H H':Hp}:ae (dJ H H') H':=fun a o e=>by
 unfold dJ at e
 split at e
 · exact e
 · cases e
theorem g6 {H G H':Hp}(S:ae H G):ae (dJ G H') (dJ H H'):=fun a o e=>by
 cases hG:G a with
 | none=>rw[fm hG] at e;rw[fm (S.free hG)];exact e
 | some u=>unfold dJ at e;rw[hG] at e;cases e
def l9 (K:PySem.W.Frag)(C cB:Addr):Sp:=fun vs H Q E=>∃ (x dx l lb:Addr)(ss:List Str)(bs:List (Str×List Str)),vs=[.ref x,.ref l,.ref lb]∧H x=some (.ins C dx [])∧SqL K H l (ss.map V.str)∧ik H lb bs∧mI ss bs ∧
 (aR ss bs→∀ H',ae (hide H x) H'→ck (dJ (hide H x) H') C x ss bs→Q .non H')∧(¬aR ss bs→∀ H',ae H H'→E (.ref cB) none H')
theorem rP {C f fS fB cB:Addr}{fd fdS fdB:FuncData}(F:Fun K "__init__" "Book.__init__" hU f fd)(T:Txt mg)(c:Cls K C)(nO:ca K C "order")(nT:ca K C "tables")
   (GS:au P w K mg base (CX1 P w) 3 fS fdS ["shades"] (jo K cB))(kS:PySem.W.keepIn K (.ref fS)=true)(bS:aE K fdS ["shades"] [])(mS:mg "check_shades"=some (.ref fS))
   (GB:au P w K mg base (CX1 P w) 3 fB fdB ["shades", "baths"] (lj K cB))(kB:PySem.W.keepIn K (.ref fB)=true)(bB:aE K fdB ["shades", "baths"] [])(mB:mg "check_baths"=some (.ref fB)) :
   au P w K mg base (CX1 P w) 4 f fd ["self", "shades", "baths"] (l9 K C cB):=by
 refine F.okX iH (fun vs H Q E h=>?_) (fun cdv A outer s H vs Q E hr h=>?_)
 · obtain⟨_,_,_,_,_,_,rfl,_⟩:=h
   rfl
 · obtain⟨x,dx,l,lb,ss,bs,rfl,hx,hl,hb,X,q,qe⟩:=h
   have hu:(cJ (CX1 P w) P w K mg base ["self", "shades", "baths", "name", "outs"] "Book.__init__" (af hU) f cdv A outer s H E).A.units+1 < cLine:=by
     have:=hr.units
     exact Nat.lt_of_le_of_lt (Nat.add_le_add_left (by decide) _) this
   refine⟨_,ak (aW (ay GS hr rfl mS kS bS .nil cG (aa (pv 1) ac)))
     (ak (aW (ay GB hr rfl mB kB bB .nil cG (aa (pv 1) (aa (pv 2) ac))))
     (ak (eZ (pv 0) (bw gP (by rfl) T.tuple (by decide +kernel) (aa (al fu (by rfl) T.sorted (by decide +kernel) (aa (pv 1) ac)) ac)) rfl)
     (ak (eZ (pv 0) eN rfl)
     (ai (bu PassesOwn.leaving rfl (br (pv 2)) (dS (n:=2) rfl (aX (ap (i:=3) iH.nd rfl (Or.inl rfl)) (aX (ap (i:=4) iH.nd rfl (Or.inl rfl)) dm)))
       (ai (dY hu (cc (pv 0) rfl) (pv 3) (ju rfl (by rfl) T.dict (by rfl) T.zip (aa (pv 1) (aa (pv 4) ac))) rfl))))))),?_⟩
   have hs:=bi
   have hl0:=pC hx hl
   have hb0:=ky hx hb
   generalize hH0:hide H x=H0 at hl0 hb0 q
   have SH:ae H0 H:=by rw[←hH0];exact cz
   have hx0:H0 x=none:=by rw[←hH0];unfold hide;rw[if_pos rfl]
   refine cut (fun σ' H'=>σ'=[some (.ref x),some (.ref l),some (.ref lb),none,none]∧ae H H'∧DM.GS ss) ?_ ?_
   · walk_at "dm"
     exact⟨l,ss,rfl,hl,X.sl,X.sh,fun g H' S'=>⟨S',g⟩,fun g H' S'=>qe (fun B=>g B.gs) H' S'⟩
   rintro σ1 H1 ⟨rfl,S1,hgs⟩
   refine cut (fun σ' H'=>σ'=[some (.ref x),some (.ref l),some (.ref lb),none,none]∧ae H H'∧DM.GB ss bs) ?_ ?_
   · walk_at "dm"
     exact⟨l,lb,ss,bs,rfl,S1.seq hl,ae.bths S1 hb,X,fun g H' S'=>⟨S1.trans S',g⟩,fun g H' S'=>qe (fun B=>g B.gb) H' (S1.trans S')⟩
   rintro σ2 H2 ⟨rfl,S2,hgb⟩
   have B:aR ss bs:=aR.of X hgs hgb
   have q:=q B
   have hs12:=B.s12
   refine cut (fun σ' H'=>∃ t so,σ'=[some (.ref x),some (.ref l),some (.ref lb),none,none]∧ae H0 H'∧H' x=some (.ins C dx [("order",.ref t)])∧H' t=some (.tup (so.map V.str))∧so.Perm ss∧PyProof.Rows.sortedS so=true∧H0 t=none) ?_ ?_
   · walk_at "dm"
     have S02:ae H0 H2:=SH.trans S2
     have hx2:=S2 _ _ hx
     refine⟨ss,S2.seq hl,by omega,fun p so hp hpm hso=>⟨_,.inl ⟨SqL.of ad,fun t ht=>?_⟩⟩⟩
     have hxp:x≠p:=fun e=>by rw[←e,hx2] at hp;cases hp
     have ht2:H2 t=none:=(ae.updN hp).free ht
     have hxt:x≠t:=fun e=>by rw[←e,hx2] at ht2;cases ht2
     refine⟨C,dx,[],by rw[ag hxt,ag hxp];exact hx2,c,nO,by decide,((S02.step (S02.free hp)).step (S02.free ht2)).step hx0,t,by rw[ad,jZ],so,?_,hpm,hso,S02.free ht2⟩
     rw[ag (Ne.symm hxt)];exact ad
   rintro σ3 H3 ⟨t,so,rfl,S3,hx3,ht3,hpm,hso,ht0⟩
   refine cut (fun σ' H'=>∃ d,σ'=[some (.ref x),some (.ref l),some (.ref lb),none,none]∧H3 d=none∧H'=upd (upd H3 d (.dK [])) x (.ins C dx [("order",.ref t),("tables",.ref d)])) ?_ ?_
   · walk_at "dm"
     intro d hd
     have hxd:x≠d:=fun e=>by rw[←e,hx3] at hd;cases hd
     exact⟨C,dx,_,by rw[ag hxd];exact hx3,c,nT,by rw[List.length_singleton];decide,d,hd,by rw[i0]⟩
   rintro σ4 H4 ⟨d,rfl,hd3,rfl⟩
   have hxd:x≠d:=fun e=>by rw[←e,hx3] at hd3;cases hd3
   have htx:t≠x:=fun e=>by rw[e,hx3] at ht3;cases ht3
   have htd:t≠d:=fun e=>by rw[←e,ht3] at hd3;cases hd3
   have hd0:H0 d=none:=S3.free hd3
   obtain⟨ps,hlb,hpl,hB⟩:=hb0
   have hb8:=B.b8
   have S4:ae H0 (upd (upd H3 d (.dK [])) x (.ins C dx [("order",.ref t),("tables",.ref d)])):=(S3.step hd0).step hx0
   walk_at "dm"
   refine⟨⟨_,SqL.of (S4 _ _ hlb)⟩,?_⟩
   refine bE (H0:=H0) (aJ (SqL.of hlb)) (fun i σ' H'=>∃ (ds:List Addr)(o3 o4:Option V),σ'=[some (.ref x),some (.ref l),some (.ref lb),o3,o4]∧ae H0 H'∧H' x=some (.ins C dx [("order",.ref t),("tables",.ref d)])∧H' t=some (.tup (so.map V.str)) ∧
     H' d=some (.dK (bj ((bs.map (·.1)).take i) (ds.map V.ref)))∧ds.length=i∧∀ (j:Nat) r b,ds[j]?=some r→bs[j]?=some b→hide H' d r=some (.dK (hJ ss b))∧H0 r=none)
     ⟨[],none,none,rfl,S4,ad,(by rw[ag htx,ag htd];exact ht3),(by rw[ag (Ne.symm hxd)];exact ad),rfl,(by intro j r b h;simp at h)⟩ (fun _ _ _ _ ⟨_,_,_,_,h,_⟩=>h) ?_ ?_
   · rintro i y σ H' hi hy ⟨ds,o3,o4,rfl,hS,hHx,hHt,hHd,hdl,hD⟩
     rw[List.getElem?_map] at hy
     obtain⟨pr,hpr,rfl⟩:=Option.map_eq_some_iff.mp hy
     rw[List.length_map,hpl] at hi
     obtain⟨b,hb⟩:∃ b,bs[i]?=some b:=⟨_,List.getElem?_eq_getElem hi⟩
     obtain⟨lo,ht,hlo⟩:=hB i pr b hpr hb
     have hbm:b∈bs:=List.mem_of_getElem? hb
     have hk:(bs.map (·.1))[i]?=some b.1:=by rw[List.getElem?_map,hb];rfl
     have hnk:b.1∉(bs.map (·.1)).take i:=gg B.bnd hk
     have hln:((bs.map (·.1)).take i).length=(ds.map V.ref).length:=by rw[List.length_take,List.length_map,List.length_map,hdl];omega
     have hbl:b.2.length=ss.length:=B.bln b hbm
     refine e6 (hS _ _ ht) ?_
     walk_at "dm"
     refine⟨ss,hS.seq hl0,_,SqL.of (hS _ _ hlo),by rw[List.length_map];exact hbl.symm,by omega,fun r hr=>?_⟩
     rw[fZ B.snd]
     have hxr:x≠r:=fun e=>by rw[←e,hHx] at hr;cases hr
     have htr:t≠r:=fun e=>by rw[←e,hHt] at hr;cases hr
     have hrd:r≠d:=fun e=>by rw[e,hHd] at hr;cases hr
     refine⟨C,dx,_,by rw[ag hxr];exact hHx,c,nT,_,dE,d,rfl,_,.inl ⟨_,Sum.inr b.1,by rw[ag (Ne.symm hrd)];exact hHd,rfl,by rw[eO hln,List.length_take];omega,rfl⟩,(hS.step (hS.free hr)).step hd0,by rw[ag hxd,ag hxr];exact hHx,by rw[ag htd,ag htr];exact hHt,ds++[r],?_,by rw[List.length_append,hdl];rfl,fun j r2 b2 hr2 hb2=>?_⟩
     · rw[ad,dH _ (bM _ _ _ hnk),bH hk,List.map_append]
       exact congrArg (fun z=>some (HO.dK z)) (ez b.1 (V.ref r) hln).symm
     · rw[d7]
       by_cases hj:j < i
       · rw[List.getElem?_append_left (by omega)] at hr2
         exact⟨ae.hide (ae.updN hr) _ _ (hD j r2 b2 hr2 hb2).1,(hD j r2 b2 hr2 hb2).2⟩
       · have hj2:j=i:=by
           have:=(List.getElem?_eq_some_iff.mp hr2).1
           rw[List.length_append,hdl] at this
           simp only[List.length_singleton] at this
           omega
         subst hj2
         rw[List.getElem?_append_right (by omega),hdl,Nat.sub_self] at hr2
         cases hr2
         rw[hb] at hb2
         cases hb2
         refine⟨?_,hS.free hr⟩
         rw[bP hrd,ad]
         rfl
   · rintro σ H' ⟨ds,o3,o4,rfl,hS,hHx,hHt,hHd,hdl,hD⟩
     rw[List.length_map,hpl] at hHd hdl
     refine q H' hS ⟨dx,t,d,so,(fm hx0).trans hHx,(fm ht0).trans hHt,hpm,hso,ds,.inl ?_,hdl,fun j r b hr hb=>.inl ((fm (hD j r b hr hb).2).trans (cz _ _ (hD j r b hr hb).1))⟩
     rw[fm hd0,hHd,List.take_of_length_le (by rw[List.length_map];exact Nat.le_refl _)]
end

section
variable {P:Program}{w:World}{K:PySem.W.Frag}{mg:Str→Option Value}{base:Heap}
theorem tY {so:List Str}{n z:Str}{f:Str→Str}(hd:so.Nodup)(hz:z∈so):lkV so (n,so.map f) z=f z:=by
 obtain⟨i,hi⟩:=List.getElem?_of_mem hz
 have e:bZ (hJ so (n,so.map f)) (Sum.inr z)=some (V.str (f z)):=cT so ((so.map f).map V.str) i z _ hd hi (by rw[List.getElem?_map,List.getElem?_map,hi];rfl)
 unfold lkV
 rw[e]
def chB (ss so:List Str)(bs:List (Str×List Str)) (t:Str)(os:List Str) (n:Str):Str×List Str:=(n,if n=t then os else so.map (lkB ss bs n))
structure kh (ss so ns:List Str)(bs:List (Str×List Str)):Prop where
 ps:so.Perm ss
 ts:PyProof.Rows.sortedS so=true
 pn:ns.Perm (bs.map (·.1))
 tn:PyProof.Rows.sortedS ns=true
theorem sA {ss:List Str}{b:Str×List Str}{z:Str}(hd:ss.Nodup)(hl:b.2.length=ss.length)(hz:z∈ss):lkV ss b z∈b.2:=by
 obtain⟨i,hi⟩:=List.getElem?_of_mem hz
 have hil:i < b.2.length:=by rw[hl];exact(List.getElem?_eq_some_iff.mp hi).1
 have e:bZ (hJ ss b) (Sum.inr z)=some (V.str b.2[i]):=cT ss (b.2.map V.str) i z _ hd hi (by rw[List.getElem?_map,List.getElem?_eq_getElem hil];rfl)
 unfold lkV
 rw[e]
 exact List.getElem_mem hil
theorem rh {ss so ns:List Str}{bs:List (Str×List Str)}{t:Str}{os:List Str}(B:aR ss bs)(h:kh ss so ns bs)(hl:os.length=ss.length)(hin:∀ x∈os,x∈ss):aR so (ns.map (chB ss so bs t os)):=by
 have hsl:=h.ps.length_eq
 have hnl:ns.length=bs.length:=by rw[h.pn.length_eq,List.length_map]
 have e:(ns.map (chB ss so bs t os)).map (·.1)=ns:=by
   rw[List.map_map]
   exact List.map_id ns
 refine⟨by rw[hsl];exact B.s1,by rw[hsl];exact B.s12,h.ps.nodup_iff.mpr B.snd,fun x hx=>B.snm x (h.ps.mem_iff.mp hx),fun x hx=>B.snw x (h.ps.mem_iff.mp hx),by rw[List.length_map,hnl];exact B.b8,by rw[e];exact h.pn.nodup_iff.mpr B.bnd,fun b hb=>?_,fun b hb=>?_,fun b hb=>?_,fun b hb=>?_⟩
 · obtain⟨n,hn,rfl⟩:=List.mem_map.mp hb
   obtain⟨b2,hb2,e2⟩:=List.mem_map.mp (h.pn.mem_iff.mp hn)
   show cq n=true
   rw[←e2];exact B.bnm b2 hb2
 · obtain⟨n,hn,rfl⟩:=List.mem_map.mp hb
   obtain⟨b2,hb2,e2⟩:=List.mem_map.mp (h.pn.mem_iff.mp hn)
   show Shw n
   rw[←e2];exact B.bnw b2 hb2
 · obtain⟨n,hn,rfl⟩:=List.mem_map.mp hb
   unfold chB
   by_cases c:n=t
   · rw[if_pos c,hl,hsl]
   · rw[if_neg c,List.length_map]
 · obtain⟨n,hn,rfl⟩:=List.mem_map.mp hb
   obtain⟨b2,hb2,e2⟩:=List.mem_map.mp (h.pn.mem_iff.mp hn)
   unfold chB
   by_cases c:n=t
   · rw[if_pos c];exact fun x hx=>h.ps.mem_iff.mpr (hin x hx)
   · rw[if_neg c]
     intro x hx
     obtain⟨z,hz,rfl⟩:=List.mem_map.mp hx
     rw[←e2,f7 z B.bnd hb2]
     exact h.ps.mem_iff.mpr (B.bin b2 hb2 _ (sA B.snd (B.bln b2 hb2) (h.ps.mem_iff.mp hz)))
theorem uG {ss so ns:List Str}{bs:List (Str×List Str)}{t:Str}{os:List Str}(B:aR ss bs)(h:kh ss so ns bs){n z:Str}(hz:z∈so):lkV so (chB ss so bs t os n) z=if n=t then lkV so (t,os) z else lkB ss bs n z:=by
 unfold chB
 by_cases c:n=t
 · rw[if_pos c,if_pos c,c]
 · rw[if_neg c,if_neg c]
   exact tY (h.ps.nodup_iff.mpr B.snd) hz
theorem kU:aG ["self", "bath", "outs", "baths"] ["self", "bath", "outs"] (af eu):=⟨rfl,rfl,rfl,by decide +kernel,rfl,by decide +kernel,by decide +kernel⟩
end

section
variable {P:Program}{w:World}{K:PySem.W.Frag}{mg:Str→Option Value}{base:Heap}
def jq (K:PySem.W.Frag)(C cN cB:Addr):Sp:=fun vs H Q E=>∃ (x lu:Addr)(ss os:List Str)(bs:List (Str×List Str)) (z:Str),vs=[.ref x,.str z,.ref lu]∧ck H C x ss bs∧aR ss bs∧Shw z∧H lu=some (.lst (os.map V.str))∧os.length≤100∧(∀ v∈os,Shw v) ∧
 (z∉bs.map (·.1)→E (.ref cN) none H)∧(z∈bs.map (·.1)→¬GO ss os→∀ H',ae H H'→E (.ref cB) none H')∧(z∈bs.map (·.1)→GO ss os→∀ y so ns H',H y=none→ae H H'→kh ss so ns bs→aR so (ns.map (chB ss so bs z os))→ck (dJ H H') C y so (ns.map (chB ss so bs z os))→Q (.ref y) H')
theorem mQ {C f fI fC fS fB fTb cN cB:Addr}{fd fdI fdC fdS fdB fdTb:FuncData}(F:Fun K "changed" "Book.changed" eu f fd)(T:Txt mg)(c:Cls K C)(M:Mk K C fI)
   (GI:au P w K mg base (CX1 P w) 4 fI fdI ["self", "shades", "baths"] (l9 K C cB))(bI:aE K fdI ["self", "shades", "baths"] [])(mC:mg "Book"=some (.ref C))
   (GC:au P w K mg base (CX1 P w) 1 fC fdC ["self", "bath"] (iE C cN))(hmC:bW K C "check_bath" fC)(bC:aE K fdC ["self", "bath"] [])
   (GS:au P w K mg base CX0 1 fS fdS ["self"] (kH C))(hmS:bW K C "shades" fS)(bS:aE K fdS ["self"] [])
   (GB:au P w K mg base CX0 1 fB fdB ["self"] (jL C))(hmB:bW K C "baths" fB)(bB:aE K fdB ["self"] [])
   (GTb:au P w K mg base CX0 2 fTb fdTb ["self", "bath"] (nE C))(hmT:bW K C "table" fTb)(bTb:aE K fdTb ["self", "bath"] []) :
   au P w K mg base (CX1 P w) 6 f fd ["self", "bath", "outs"] (jq K C cN cB):=by
 refine F.okX kU (fun vs H Q E h=>?_) (fun cdv A outer s H vs Q E hr h=>?_)
 · obtain⟨_,_,_,_,_,_,rfl,_⟩:=h
   rfl
 · obtain⟨x,lu,ss,os,bs,z,rfl,hbk,B,hz,hlu,hol,hsh,qn,qe,q⟩:=h
   have hr1:=hr.mono (j:=1) (by omega)
   have hr2:=hr.mono (j:=2) (by omega)
   refine⟨_,ak (aW (bq (pv 0) c hmC GC hr1 bC .nil cG (aa (pv 1) ac)))
     (ak (lK (i:=3) (N':=["name", "outs", "bath", "self"]) (pk:=[none,some 2,some 1,some 0]) kU.nd rfl (Or.inl rfl) rfl (cV.of (by rfl)) (br (fh (pv 0) c hmB GB hr1 bB .nil aZ)) (fun s H ex=>ap (i:=0) (by show(["name", "outs", "bath", "self"]:List Str).Nodup;decide +kernel) rfl (Or.inl rfl))
         (fun s H ex=>ed (aa (pv 0) (aa (tJ (ax dt (pv 0) (pv 2) (aK _)) (pv 1) (bq (pv 3) c hmT GTb hr2 bTb .nil aZ (aa (pv 0) ac))) ac))))
     (ai (az (lT M GI hr rfl mC bI .nil cG (aa (fh (pv 0) c hmS GS hr1 bS .nil aZ) (aa (pv 3) ac)))))),?_⟩
   have hs:=bi
   have hb8:=B.b8
   have hs12:=B.s12
   obtain⟨dx,t,d',so,h1,h2,h3,h4,h5⟩:=hbk
   have hbk:ck H C x ss bs:=⟨dx,t,d',so,h1,h2,h3,h4,h5⟩
   refine cut (fun σ' H'=>σ'=[some (.ref x),some (.str z),some (.ref lu),none]∧H'=H∧z∈bs.map (·.1)) ?_ ?_
   · walk_at "dm"
     refine⟨dx,_,h1,cm (by decide +kernel) (by decide +kernel),x,ss,bs,z,rfl,hbk,B,hz,fun h=>⟨rfl,h⟩,qn⟩
   rintro σ1 H1 ⟨rfl,rfl,hzm⟩
   obtain⟨b0,hb0,rfl⟩:=List.mem_map.mp hzm
   refine cut (fun σ' H'=>∃ lb ns,σ'=[some (.ref x),some (.str b0.1),some (.ref lu),some (.ref lb)]∧ae H1 H'∧ns.Perm (bs.map (·.1))∧PyProof.Rows.sortedS ns=true∧ik H' lb (ns.map (chB ss so bs b0.1 os))) ?_ ?_
   · walk_at "dm"
     refine⟨dx,_,h1,cm (by decide +kernel) (by decide +kernel),x,ss,bs,rfl,hbk,B,fun l ns hl hp2 hs2=>?_⟩
     have hnl:ns.length=bs.length:=by rw[hp2.length_eq,List.length_map]
     have Sa:ae H1 (upd H1 l (.lst (ns.map V.str))):=ae.updN hl
     refine⟨l,rfl,⟨_,SqL.of ad⟩,fun D hD=>?_⟩
     generalize hGG:upd H1 l (.lst (ns.map V.str))=G at Sa hD
     have hGl:G l=some (.lst (ns.map V.str)):=by rw[←hGG];exact ad
     have hD1:H1 D=none:=Sa.free hD
     refine pA (H0:=G) (aJ (SqL.of hGl)) (by rw[List.length_map];omega) (fun i xs σ' H'=>(∃ o,σ'=[o,some (.ref lu),some (.str b0.1),some (.ref x)])∧ae G H'∧H' D=some (.lst xs)∧∃ qs:List Addr,xs=qs.map V.ref∧qs.length=i∧∀ (j:Nat) p n,qs[j]?=some p→ns[j]?=some n→k6 (hide H' D) p (chB ss so bs b0.1 os n))
       ⟨⟨none,rfl⟩,ae.updN hD,ad,[],rfl,rfl,(by intro j p b h;simp at h)⟩ (fun i xs σ' H' ⟨_,h1,_,qs,h2,h3,_⟩=>⟨h1,by rw[h2,List.length_map];exact h3⟩) ?_ ?_
     · rintro i xs σ' H' y hi hy ⟨⟨o1,rfl⟩,hS,hHD,qs,rfl,hql,hqB⟩ R hR
       rw[List.getElem?_map] at hy
       obtain⟨n,hn,rfl⟩:=Option.map_eq_some_iff.mp hy
       have hnm:n∈ns:=List.mem_of_getElem? hn
       obtain⟨b,hb,rfl⟩:=List.mem_map.mp (hp2.mem_iff.mp hnm)
       have S1':ae H1 H':=Sa.trans hS
       have last:∀ (v8:Addr)(H3:Hp)(t:Addr),ae H' H3→H3 t=none→H3 v8=some (.lst ((chB ss so bs b0.1 os b.1).2.map V.str))→v8≠D→R (.ref t) [some (.str b.1),some (.ref lu),some (.str b0.1),some (.ref x)] (upd H3 t (.tup [.str b.1,.ref v8])):=fun v8 H3 t S3 ht hv hvD=>by
         have ht':H' t=none:=S3.free ht
         have S4:=S3.step (o:=.tup [.str b.1,.ref v8]) ht'
         have htD:t≠D:=fun e=>by rw[e,hHD] at ht';cases ht'
         have hvt:v8≠t:=fun e=>by rw[←e,hv] at ht;cases ht
         refine hR _ _ _ (S4 _ _ hHD) ⟨⟨_,rfl⟩,(hS.trans S4).step hD,ad,qs++[t],by rw[List.map_append];rfl,by rw[List.length_append,hql];rfl,fun j p2 n2 hp2 hn2=>?_⟩
         rw[d7]
         by_cases hj:j < i
         · rw[List.getElem?_append_left (by omega)] at hp2
           exact ae.bthAt (ae.hide S4) (hqB j p2 n2 hp2 hn2)
         · have hj2:j=i:=by
             have:=(List.getElem?_eq_some_iff.mp hp2).1
             rw[List.length_append,hql] at this
             simp only[List.length_singleton] at this
             omega
           subst hj2
           rw[List.getElem?_append_right (by omega),hql,Nat.sub_self] at hp2
           cases hp2
           rw[hn] at hn2
           cases hn2
           refine⟨v8,?_,?_⟩
           · rw[bP htD];exact ad
           · rw[bP hvD,ag hvt];exact hv
       walk_at "dm"
       refine⟨rfl,aY (fun hc=>⟨by omega,fun t ht=>?_⟩) (fun hc=>?_)⟩
       · refine last lu H' t (ae.refl _) ht ?_ (fun e=>by rw[e,hD1] at hlu;cases hlu)
         unfold chB
         rw[if_pos hc]
         exact S1' _ _ hlu
       · refine⟨dx,_,S1' _ _ h1,cm (by decide +kernel) (by decide +kernel),x,ss,bs,b,rfl,ae.book S1' hbk,B,hb,fun l2 so2 hl2 hp3 hs3=>⟨by omega,fun t ht=>?_⟩⟩
         have e2:so2=so:=gi hs3 h4 (hp3.trans h3.symm)
         subst e2
         refine last l2 _ t (ae.updN hl2) ht ?_ (fun e=>by rw[e,hHD] at hl2;cases hl2)
         unfold chB
         rw[if_neg hc,ad]
         have e3:lkB ss bs b.1=lkV ss b:=funext fun z=>f7 z B.bnd hb
         rw[e3]
     · rintro xs σ' H' ⟨_,hS,hHD,qs,rfl,hql,hqB⟩
       rw[List.length_map] at hql
       refine⟨Sa.trans hS,ns,hp2,hs2,qs,hHD,by rw[List.length_map];exact hql,fun i p b hp hb=>?_⟩
       rw[List.getElem?_map] at hb
       obtain⟨n,hn,rfl⟩:=Option.map_eq_some_iff.mp hb
       exact ae.bthAt cz (hqB i p n hp hn)
   rintro σ2 H2 ⟨lb,ns,rfl,S2,hns,hsn,hB2⟩
   have CI:kh ss so ns bs:=⟨h3,h4,hns,hsn⟩
   walk_at "dm"
   refine⟨dx,_,S2 _ _ h1,cm (by decide +kernel) (by decide +kernel),x,ss,bs,rfl,ae.book S2 hbk,B,fun l so2 hl hp3 hs3 y dy hy hdy hne=>?_⟩
   have e2:so2=so:=gi hs3 h4 (hp3.trans h3.symm)
   subst e2
   generalize hGG:upd H2 l (.lst (so2.map V.str))=G at hy hdy
   have hGl:G l=some (.lst (so2.map V.str)):=by rw[←hGG];exact ad
   have Sa:ae H2 G:=by rw[←hGG];exact ae.updN hl
   have S5:ae G (upd (upd G dy (.own y)) y (.ins C dy [])):=(ae.updN hdy).step hy
   have hsl:so2.length=ss.length:=h3.length_eq
   have hnl:ns.length=bs.length:=by rw[hns.length_eq,List.length_map]
   have XT:mI so2 (ns.map (chB ss so2 bs b0.1 os)):=by
     refine⟨by omega,fun v hv=>B.snw v (h3.mem_iff.mp hv),by rw[List.length_map];omega,fun b hb=>?_,fun b hb=>?_,fun b hb v hv=>?_⟩
     · obtain⟨n,hn,rfl⟩:=List.mem_map.mp hb
       obtain⟨b2,hb2,e2⟩:=List.mem_map.mp (hns.mem_iff.mp hn)
       show Shw n
       rw[←e2];exact B.bnw b2 hb2
     · obtain⟨n,hn,rfl⟩:=List.mem_map.mp hb
       unfold chB
       by_cases e:n=b0.1
       · rw[if_pos e];exact hol
       · rw[if_neg e,List.length_map];omega
     · obtain⟨n,hn,rfl⟩:=List.mem_map.mp hb
       unfold chB at hv
       by_cases e:n=b0.1
       · rw[if_pos e] at hv;exact hsh v hv
       · rw[if_neg e] at hv
         obtain⟨u,hu,rfl⟩:=List.mem_map.mp hv
         obtain⟨b2,hb2,rfl⟩:=List.mem_map.mp (hns.mem_iff.mp hn)
         rw[f7 u B.bnd hb2]
         exact B.snw _ (B.bin b2 hb2 _ (sA B.snd (B.bln b2 hb2) (h3.mem_iff.mp hu)))
   have S6:ae H1 (hide (upd (upd G dy (.own y)) y (.ins C dy [])) y):=(S2.trans Sa).trans (fun u o e=>by
     rw[bP (aw e hy)];exact S5 u o e)
   have hgo:aR so2 (ns.map (chB ss so2 bs b0.1 os))→GO ss os:=fun B2=>by
     have hm:(chB ss so2 bs b0.1 os b0.1)∈ns.map (chB ss so2 bs b0.1 os):=List.mem_map_of_mem (hns.mem_iff.mpr (List.mem_map_of_mem hb0))
     have e1:(chB ss so2 bs b0.1 os b0.1).2=os:=by unfold chB;rw[if_pos rfl]
     have l1:=B2.bln _ hm
     have l2:=B2.bin _ hm
     rw[e1] at l1 l2
     exact⟨by omega,fun v hv=>h3.mem_iff.mp (l2 v hv)⟩
   refine⟨y,dy,l,lb,so2,ns.map (chB ss so2 bs b0.1 os),rfl,ad,SqL.of (S5 _ _ hGl),ae.bths (Sa.trans S5) hB2,XT,fun B2 H3 S3 hbk=>⟨rfl,q hzm (hgo B2) y so2 ns H3 ((S2.trans Sa).free hy) (S6.trans S3) CI B2 (ae.book (g6 S6) hbk)⟩,fun nB H3 S3=>qe hzm (fun g=>nB (rh B CI g.1 g.2)) H3 ((S2.trans (Sa.trans S5)).trans S3)⟩
end

section
variable {P:Program}{w:World}{K:PySem.W.Frag}{mg:Str→Option Value}{base:Heap}
abbrev Bk:=List Str×List (Str×List Str)
structure Hs where
 cl:List (Str×Str)
 day:Int
 dp:List (Int×Str×Str×Str)
 bk:List (Int×Bk)
def clV (cl:List (Str×Str)):List (Key×V):=cl.map fun c=>(Sum.inr c.1,V.str c.2)
def bkV (bk:List (Int×Bk))(rs:List Addr):List (Key×V):=(bk.zip rs).map fun e=>(Sum.inl e.1.1,V.ref e.2)
structure Ad where
 x:Addr
 dx:Addr
 d1:Addr
 ls:Addr
 db:Addr
def hid (H:Hp)(A:Ad):Hp:=fun b=>if b=A.x∨b=A.d1∨b=A.ls∨b=A.db then none else H b
theorem bp {H:Hp}{A:Ad}:ae (hid H A) H:=fun b o e=>by
 unfold hid at e
 split at e
 · cases e
 · exact e
theorem dI {H H':Hp}{A:Ad}(S:ae H H'):ae (hid H A) (hid H' A):=fun b o e=>by
 unfold hid at e ⊢
 split at e
 · cases e
 · rename_i h;rw[if_neg h];exact S b o e
def hfs (A:Ad) (day:Int):List (Str×V):=[("first_shades",.ref A.d1),("day_now",.int day),("standing",.ref A.ls),("books_from",.ref A.db)]
structure ba (H:Hp)(C CB:Addr)(A:Ad)(W:Hp)(ss:List Str) (h:Hs):Prop where
 ins:H A.x=some (.ins C A.dx (hfs A h.day))
 cl:H A.d1=some (.dK (clV h.cl))
 dp:∃ ps:List Addr,H A.ls=some (.lst (ps.map V.ref))∧ps.length=h.dp.length∧∀ (i:Nat) p e,ps[i]?=some p→h.dp[i]?=some e→W p=some (.tup [.int e.1,.str e.2.1,.str e.2.2.1,.str e.2.2.2])
 bk:∃ rs:List Addr,H A.db=some (.dK (bkV h.bk rs))∧rs.length=h.bk.length∧∀ (i:Nat) r e,rs[i]?=some r→h.bk[i]?=some e→ck W CB r e.2.1 e.2.2
 ne:A.d1≠A.db
 sub:ae W (hid H A)
def uW (H W W':Hp):Prop:=ae W W'∧∀ b o,W b=none→H b=some o→W' b=none
structure cy (ss:List Str)(names:List Str) (h:Hs):Prop where
 cnd:(h.cl.map (·.1)).Nodup
 csh:∀ c∈h.cl,c.2∈ss
 cnm:∀ c∈h.cl,cq c.1=true
 d1:1≤h.day
 d4:h.day≤400
 dl:h.dp.length≤1000
 dd:∀ e∈h.dp,1≤e.1∧e.1≤h.day
 ds:∀ e∈h.dp,e.2.2.2∈ss
 k1:∃ b r,h.bk=(1,b)::r
 ks:h.bk.Pairwise (fun a b=>a.1 < b.1)
 kd:∀ e∈h.bk,1≤e.1∧e.1≤h.day
 kl:h.bk.length≤400
 kb:∀ e∈h.bk,aR e.2.1 e.2.2∧(∀ n,n∈e.2.2.map (·.1)↔n∈names)∧∀ z,z∈e.2.1↔z∈ss
def aQ:List (Int×Bk)→Int→Bk
 | [],_=>([],[])
 | [e],_=>e.2
 | e::e2::r,d=>if e2.1≤d then aQ (e2::r) d else e.2
theorem ie:∀ (bk:List (Int×Bk)) (d M:Int)(b:Bk),bk.Pairwise (fun a b=>a.1 < b.1)→(M,b)∈bk→M≤d→(∀ e∈bk,e.1≤d→e.1≤M)→aQ bk d=b
 | [],_,_,_,_,h,_,_=>by cases h
 | [e],d,M,b,_,h,_,_=>by rw[List.mem_singleton] at h;rw[←h];rfl
 | e::e2::r,d,M,b,hp,h,hM,hx=>by
   have hp2:=List.pairwise_cons.mp hp
   unfold aQ
   by_cases h2:e2.1≤d
   · rw[if_pos h2]
     rcases List.mem_cons.mp h with h | h
     · have h3:=hp2.1 e2 List.mem_cons_self
       have h4:=hx e2 (List.mem_cons_of_mem _ List.mem_cons_self) h2
       rw[←h] at h3
       exact absurd h3 (by show ¬(M < e2.1);omega)
     · exact ie (e2::r) d M b hp2.2 h hM fun e he=>hx e (List.mem_cons_of_mem _ he)
   · rw[if_neg h2]
     rcases List.mem_cons.mp h with h | h
     · rw[←h]
     · rcases List.mem_cons.mp h with h | h
       · rw[←h] at h2;exact absurd hM h2
       · have:=(List.pairwise_cons.mp hp2.2).1 _ h
         exact absurd hM (by show ¬(M≤d);have h5:e2.1 < M:=this;omega)
theorem mr {cl:List (Str×Str)}{c:Str×Str}(hd:(cl.map (·.1)).Nodup)(h:c∈cl):bZ (clV cl) (Sum.inr c.1)=some (V.str c.2):=by
 induction cl with
 | nil=>cases h
 | cons a r ih =>
   rw[List.map_cons,List.nodup_cons] at hd
   unfold clV bZ
   rw[List.map_cons,List.find?_cons]
   by_cases e:a.1=c.1
   · rcases List.mem_cons.mp h with h | h
     · rw[h];simp
     · exact absurd (List.mem_map_of_mem (f:=(·.1)) h) (by rw[←e];exact hd.1)
   · rcases List.mem_cons.mp h with h | h
     · exact absurd (by rw[h]) e
     · have:=ih hd.2 h
       unfold clV bZ at this
       simp only[Sum.inr.injEq,e,decide_false]
       exact this
theorem f9 {cl:List (Str×Str)}{z:Str}(h:z∉cl.map (·.1)):bZ (clV cl) (Sum.inr z)=none:=by
 unfold bZ clV
 rw[Option.map_eq_none_iff,List.find?_eq_none]
 intro kv hkv
 obtain⟨c,hc,rfl⟩:=List.mem_map.mp hkv
 simp only[Sum.inr.injEq,decide_eq_true_eq]
 exact fun e=>h (by rw[←e];exact List.mem_map_of_mem hc)
theorem dU {H:Hp}{A:Ad}{b:Addr}{o:HO}(h:hid H A b=some o):H b=some o∧b≠A.x∧b≠A.d1∧b≠A.ls∧b≠A.db:=by
 unfold hid at h
 split at h
 · cases h
 · rename_i hn
   exact⟨h,fun e=>hn (.inl e),fun e=>hn (.inr (.inl e)),fun e=>hn (.inr (.inr (.inl e))),fun e=>hn (.inr (.inr (.inr e)))⟩
theorem ae.house {H H':Hp}{C CB:Addr}{A:Ad}{W:Hp}{ss:List Str}{h:Hs}(S:ae H H')(hh:ba H C CB A W ss h):ba H' C CB A W ss h:=by
 obtain⟨h1,h2,⟨ps,h3,h4,h5⟩,⟨rs,h6,h7,h8⟩,h9,h10⟩:=hh
 exact⟨S _ _ h1,S _ _ h2,⟨ps,S _ _ h3,h4,h5⟩,⟨rs,S _ _ h6,h7,h8⟩,h9,h10.trans (dI S)⟩
theorem l7 {H:Hp}{A:Ad}{b:Addr}{o:HO}(b1:b≠A.x)(b2:b≠A.d1)(b3:b≠A.ls)(b4:b≠A.db):hid (upd H b o) A=upd (hid H A) b o:=by
 funext y
 unfold hid
 by_cases hy:y=A.x∨y=A.d1∨y=A.ls∨y=A.db
 · rw[if_pos hy]
   have hyb:y≠b:=fun e=>by rw[e] at hy;rcases hy with z | z | z | z;exact b1 z;exact b2 z;exact b3 z;exact b4 z
   rw[ag hyb,if_pos hy]
 · rw[if_neg hy]
   by_cases e:y=b
   · rw[e,ad,ad]
   · rw[ag e,ag e,if_neg hy]
theorem ba.upd {H:Hp}{C CB:Addr}{A:Ad}{W:Hp}{ss:List Str}{h:Hs}{b:Addr}{u o:HO}(hh:ba H C CB A W ss h)(hb:hid H A b=some u)(hw:W b=none):ba (L2.upd H b o) C CB A W ss h:=by
 obtain⟨hb0,b1,b2,b3,b4⟩:=dU hb
 obtain⟨h1,h2,⟨ps,h3,h4,h5⟩,⟨rs,h6,h7,h8⟩,h9,h10⟩:=hh
 refine⟨by rw[ag (Ne.symm b1)];exact h1,by rw[ag (Ne.symm b2)];exact h2,⟨ps,by rw[ag (Ne.symm b3)];exact h3,h4,h5⟩,⟨rs,by rw[ag (Ne.symm b4)];exact h6,h7,h8⟩,h9,?_⟩
 rw[l7 b1 b2 b3 b4]
 exact fun y v e=>by rw[ag (aw e hw)];exact h10 y v e
theorem ba.up {H:Hp}{C CB:Addr}{A:Ad}{W:Hp}{ss:List Str}{h:Hs}(hh:ba H C CB A W ss h):ae W H:=hh.sub.trans bp
theorem eP {A:Ad}{d:Int}:List.lookup (Str.ofString "first_shades") (hfs A d)=some (.ref A.d1):=rfl
theorem vM {A:Ad}{d:Int}:List.lookup (Str.ofString "day_now") (hfs A d)=some (.int d):=rfl
theorem g9 {A:Ad}{d:Int}:List.lookup (Str.ofString "standing") (hfs A d)=some (.ref A.ls):=rfl
theorem jx {A:Ad}{d:Int}:List.lookup (Str.ofString "books_from") (hfs A d)=some (.ref A.db):=rfl
theorem fW {A:Ad}{d:Int}{m:Str}(h1:(m==Str.ofString "first_shades")=false)(h2:(m==Str.ofString "day_now")=false)(h3:(m==Str.ofString "standing")=false)(h4:(m==Str.ofString "books_from")=false):List.lookup m (hfs A d)=none:=by
 unfold hfs
 rw[List.lookup_cons,h1]
 show List.lookup m [(Str.ofString "day_now",V.int d),(Str.ofString "standing",V.ref A.ls),(Str.ofString "books_from",V.ref A.db)]=none
 rw[List.lookup_cons,h2]
 show List.lookup m [(Str.ofString "standing",V.ref A.ls),(Str.ofString "books_from",V.ref A.db)]=none
 rw[List.lookup_cons,h3]
 show List.lookup m [(Str.ofString "books_from",V.ref A.db)]=none
 rw[List.lookup_cons,h4]
 rfl
structure Hx (K:PySem.W.Frag)(mg:Str→Option Value)(C:Addr):Prop where
 c:Cls K C
 n1:ca K C "first_shades"
 n2:ca K C "day_now"
 n3:ca K C "standing"
 n4:ca K C "books_from"
 fd:∃ t,mg "FIRST_DAY"=some (.int 1 t)
 ld:∃ t,mg "LAST_DAY"=some (.int 400 t)
 mc:∃ t,mg "MOST_CLOTHS"=some (.int 50 t)
 md:∃ t,mg "MOST_DIPS"=some (.int 1000 t)
 max:mg "max"=none
def jG (cND:Addr):Sp:=fun vs H Q E=>∃ d:Int,vs=[.int d]∧((1≤d∧d≤400)→Q .non H)∧(¬(1≤d∧d≤400)→E (.ref cND) none H)
theorem vK:aG ["day"] ["day"] (af kR):=⟨rfl,rfl,rfl,by decide +kernel,rfl,by decide +kernel,by decide +kernel⟩
theorem uw {f:Addr}{fd:FuncData}{CH CB cND:Addr}(F:Fun K "check_day" "check_day" kR f fd)
   (T:Txt mg)(hX:Hx K mg CH)(cB:Cls K CB)(XND:eJ K cND)(mND:mg "NoDay"=some (.ref cND)) :
   au P w K mg base (CX1 P w) 1 f fd ["day"] (jG cND):=by
 refine F.okX vK (fun vs H Q E h=>?_) (fun cdv A outer s H vs Q E hr h=>?_)
 · obtain⟨_,rfl,_⟩:=h
   rfl
 · obtain⟨d,rfl,q,qe⟩:=h
   obtain⟨_,hfd⟩:=hX.fd
   obtain⟨_,hld⟩:=hX.ld
   refine⟨_,(ai (aV (PW.pt (dC (ax iV (pv 0) (df (v:=.int 1) rfl hfd ⟨_,rfl⟩) (aK _)) (dB (ax gh (pv 0) (df (v:=.int 400) rfl hld ⟨_,rfl⟩) (aK _))))) (ai (b6 rfl rfl mND XND.exc PySem.F.excBase_ValueError (aa bQ ac) d5)) ar)),?_⟩
   walk_at "dm"
   refine aY (fun h=>⟨by decide,qe (by omega)⟩) (fun h1=>aY (fun h=>⟨by decide,qe (by omega)⟩) (fun h2=>q (by omega)))
def tE (CH CB cNC:Addr):Sp:=fun vs H Q E=>∃ (A:Ad)(W:Hp)(ss:List Str) (h:Hs) (z:Str),vs=[.ref A.x,.str z]∧ba H CH CB A W ss h∧Shw z∧(h.cl.map (·.1)).Nodup∧(z∈h.cl.map (·.1)→Q .non H)∧(z∉h.cl.map (·.1)→E (.ref cNC) none H)
theorem wY:aG ["self", "cloth"] ["self", "cloth"] (af eF):=⟨rfl,rfl,rfl,by decide +kernel,rfl,by decide +kernel,by decide +kernel⟩
theorem vD {f:Addr}{fd:FuncData}{CH CB cNC:Addr}(F:Fun K "check_cloth" "House.check_cloth" eF f fd)
   (T:Txt mg)(hX:Hx K mg CH)(cB:Cls K CB)(XNC:eJ K cNC)(mNC:mg "NoCloth"=some (.ref cNC)) :
   au P w K mg base (CX1 P w) 1 f fd ["self", "cloth"] (tE CH CB cNC):=by
 refine F.okX wY (fun vs H Q E h=>?_) (fun cdv A outer s H vs Q E hr h=>?_)
 · obtain⟨_,_,_,_,_,rfl,_⟩:=h
   rfl
 · obtain⟨A0,W,ss,h,z,rfl,hh,hz,hnd,q,qe⟩:=h
   have hu:(cJ (CX1 P w) P w K mg base ["self", "cloth"] "House.check_cloth" (af eF) f cdv A outer s H E).A.units+1 < cLine:=by
     have:=hr.units
     exact Nat.lt_of_le_of_lt (Nat.add_le_add_left (by decide) _) this
   refine⟨_,(ai (aV (dL (cU hu (pv 1) (cc (pv 0) rfl))) (ai (b6 rfl rfl mNC XNC.exc PySem.F.excBase_ValueError (aa (fV (pv 1)) ac) d5)) ar)),?_⟩
   by_cases hm:z∈h.cl.map (·.1)
   · obtain⟨c,hc,rfl⟩:=List.mem_map.mp hm
     walk_at "dm"
     exact⟨CH,A0.dx,_,hh.ins,hX.c,hX.n1,_,eP,A0.d1,rfl,_,.inl ⟨_,Sum.inr c.1,.inl hh.cl,rfl,(mr hnd hc).symm⟩,q hm⟩
   · walk_at "dm"
     exact⟨CH,A0.dx,_,hh.ins,hX.c,hX.n1,_,eP,A0.d1,rfl,none,.inl ⟨_,Sum.inr z,.inl hh.cl,rfl,(f9 hm).symm⟩,hz.1,hz.2,fun y=>⟨by decide,qe hm⟩⟩
def su (CH CB cND cLa:Addr):Sp:=fun vs H Q E=>∃ (A:Ad)(W:Hp)(ss:List Str) (h:Hs) (d:Int),vs=[.ref A.x,.int d]∧ba H CH CB A W ss h∧((1≤d∧d≤400)→h.day≤d→Q .non H)∧(¬(1≤d∧d≤400)→E (.ref cND) none H)∧((1≤d∧d≤400)→d < h.day→E (.ref cLa) none H)
theorem wL:aG ["self", "day"] ["self", "day"] (af iB):=⟨rfl,rfl,rfl,by decide +kernel,rfl,by decide +kernel,by decide +kernel⟩
theorem vX {f fCD:Addr}{fd fdCD:FuncData}{CH CB cLa cND:Addr}(F:Fun K "check_day_to_do" "House.check_day_to_do" iB f fd)
   (T:Txt mg)(hX:Hx K mg CH)(cB:Cls K CB)(XLa:eJ K cLa)(mLa:mg "Late"=some (.ref cLa))
   (GCD:au P w K mg base (CX1 P w) 1 fCD fdCD ["day"] (jG cND))(kCD:PySem.W.keepIn K (.ref fCD)=true)(bCD:aE K fdCD ["day"] [])(mCD:mg "check_day"=some (.ref fCD)) :
   au P w K mg base (CX1 P w) 2 f fd ["self", "day"] (su CH CB cND cLa):=by
 refine F.okX wL (fun vs H Q E h=>?_) (fun cdv A outer s H vs Q E hr h=>?_)
 · obtain⟨_,_,_,_,_,rfl,_⟩:=h
   rfl
 · obtain⟨A0,W,ss,h,d,rfl,hh,q,qd,ql⟩:=h
   have hr1:=hr.mono (j:=1) (by omega)
   refine⟨_,(ak (aW (ay GCD hr1 rfl mCD kCD bCD .nil cG (aa (pv 1) ac)))
     (ai (aV (ax iV (pv 1) (cc (pv 0) rfl) (aK _)) (ai (b6 rfl rfl mLa XLa.exc PySem.F.excBase_ValueError (aa bQ ac) d5)) ar))),?_⟩
   refine bg (fun σ' H'=>(1≤d∧d≤400)∧σ'=[some (.ref A0.x),some (.int d)]∧H'=H) (fun R hR=>?_) ?_
   · walk_at "dm"
     exact⟨d,rfl,fun hd=>hR _ _ ⟨hd,rfl,rfl⟩,qd⟩
   rintro σ1 H1 ⟨hd,rfl,rfl⟩
   walk_at "dm"
   exact⟨CH,A0.dx,_,hh.ins,hX.c,hX.n2,_,vM,_,rfl,aY (fun h1=>⟨by decide,ql hd h1⟩) (fun h1=>q hd (by omega))⟩
end

section
variable {P:Program}{w:World}{K:PySem.W.Frag}{mg:Str→Option Value}{base:Heap}
theorem mq {bk:List (Int×Bk)}{rs:List Addr}(h:rs.length=bk.length):(bkV bk rs).length=bk.length:=by
 unfold bkV
 rw[List.length_map,List.length_zip,h,Nat.min_self]
theorem pB:∀ {bk:List (Int×Bk)}{rs:List Addr}{i:Nat}{e:Int×Bk}{r:Addr},bk.Pairwise (fun a b=>a.1 < b.1)→bk[i]?=some e→rs[i]?=some r→bZ (bkV bk rs) (Sum.inl e.1)=some (V.ref r)
 | [],_,i,_,_,_,h,_=>by simp at h
 | a::bk,[],i,_,_,_,_,h=>by simp at h
 | a::bk,r0::rs,0,e,r,_,h1,h2=>by
   simp only[List.getElem?_cons_zero,Option.some.injEq] at h1 h2
   subst h1 h2
   unfold bkV bZ
   simp
 | a::bk,r0::rs,i+1,e,r,hp,h1,h2=>by
   simp only[List.getElem?_cons_succ] at h1 h2
   have hp2:=List.pairwise_cons.mp hp
   have hlt:=hp2.1 e (List.mem_of_getElem? h1)
   have ih:=pB hp2.2 h1 h2
   unfold bkV bZ at ih ⊢
   rw[List.zip_cons_cons,List.map_cons,List.find?_cons]
   have hne:¬(a.1=e.1):=by omega
   simp only[Sum.inl.injEq,hne,decide_false]
   exact ih
def jj (CH CB cND:Addr):Sp:=fun vs H Q E=>∃ (A:Ad)(W:Hp)(ss names:List Str) (h:Hs) (d:Int),vs=[.ref A.x,.int d]∧ba H CH CB A W ss h∧cy ss names h∧((1≤d∧d≤400)→∀ r H',ae H H'→ck W CB r (aQ h.bk d).1 (aQ h.bk d).2→Q (.ref r) H')∧(¬(1≤d∧d≤400)→E (.ref cND) none H)
theorem tT:aG ["self", "day"] ["self", "day"] (af gT):=⟨rfl,rfl,rfl,by decide +kernel,rfl,by decide +kernel,by decide +kernel⟩
theorem rC {f fCD:Addr}{fd fdCD:FuncData}{CH CB cND:Addr}(F:Fun K "book" "House.book" gT f fd)
   (T:Txt mg)(hX:Hx K mg CH)(cB:Cls K CB)
   (GCD:au P w K mg base (CX1 P w) 1 fCD fdCD ["day"] (jG cND))(kCD:PySem.W.keepIn K (.ref fCD)=true)(bCD:aE K fdCD ["day"] [])(mCD:mg "check_day"=some (.ref fCD)) :
   au P w K mg base (CX1 P w) 2 f fd ["self", "day"] (jj CH CB cND):=by
 refine F.okX tT (fun vs H Q E h=>?_) (fun cdv A outer s H vs Q E hr h=>?_)
 · obtain⟨_,_,_,_,_,_,rfl,_⟩:=h
   rfl
 · obtain⟨A0,W,ss,names,h,d,rfl,hh,ho,q,qd⟩:=h
   have hu:(cJ (CX1 P w) P w K mg base ["self", "day"] "House.book" (af gT) f cdv A outer s H E).A.units+1 < cLine:=by
     have:=hr.units
     exact Nat.lt_of_le_of_lt (Nat.add_le_add_left (by decide) _) this
   have hr1:=hr.mono (j:=1) (by omega)
   refine⟨_,(ak (aW (ay GCD hr1 rfl mCD kCD bCD .nil cG (aa (pv 1) ac)))
     (ai (az (bn hu (cc (pv 0) rfl) (al (qP rfl) (by rfl) hX.max (by decide +kernel) (aa (uH (jA (N':=["start", "day"]) (pk:=[none,some 1]) rfl (cV.of (by rfl)) (fP (cc (pv 0) rfl)) (fun s H ex=>(ap (i:=0) (by show(["start", "day"]:List Str).Nodup;decide +kernel) rfl (Or.inl rfl))) (fun s H ex=>(ax uN (pv 0) (pv 1) (aK _))) (fun s H ex=>(pv 0)))) ac)) (fun _ _=>rfl))))),?_⟩
   have hs:=bi
   refine bg (fun σ' H'=>(1≤d∧d≤400)∧σ'=[some (.ref A0.x),some (.int d)]∧H'=H) (fun R hR=>?_) ?_
   · walk_at "dm"
     exact⟨d,rfl,fun hd=>hR _ _ ⟨hd,rfl,rfl⟩,qd⟩
   rintro σ1 H1 ⟨hd,rfl,rfl⟩
   obtain⟨rs,hdb,hrl,hrB⟩:=hh.bk
   have hkl:=ho.kl
   have hnf:∀ o u,H1 A0.db≠some (.frz o u):=fun o u e=>by rw[hdb] at e;cases e
   have hkm:(bkV h.bk rs).map (·.1)=h.bk.map (fun e=>Sum.inl e.1):=by
     unfold bkV
     rw[List.map_map]
     have:(fun e:(Int×Bk)×Addr=>(Sum.inl e.1.1:Key))=(fun e=>(Sum.inl e.1:Key))∘Prod.fst:=rfl
     show(h.bk.zip rs).map (fun e=>(Sum.inl e.1.1:Key))=_
     rw[this,←List.map_map,List.map_fst_zip (by omega)]
   walk_at "dm"
   refine⟨CH,A0.dx,_,hh.ins,hX.c,hX.n4,_,jx,CH,A0.dx,_,hh.ins,hX.c,hX.n4,_,jx,A0.db,rfl,_,.inl ⟨hdb,fun o D hD=>?_⟩⟩
   have hDb:D≠A0.db:=fun e=>by rw[e,ad] at hD;cases hD
   refine nV (cZ (H1:=upd H1 A0.db (.frz o (.dK (bkV h.bk rs)))) ad) (by rw[mq hrl];omega) hD (fun σ=>∃ o,σ=[o,some (.int d)]) (fun i=>decide ((h.bk.getD i (0,([],[]))).1≤d)) (fun i=>V.int (h.bk.getD i (0,([],[]))).1) ⟨none,rfl⟩ ?_ ?_
   · rintro i x σ' H3 hi ⟨k,v,hk,rfl⟩ ⟨o2,rfl⟩ hS R1 R0 h1 h0
     rw[mq hrl] at hi
     obtain⟨e,he⟩:∃ e,h.bk[i]?=some e:=⟨_,List.getElem?_eq_getElem hi⟩
     have ek:k=Sum.inl e.1:=by
       have:=congrArg (fun l=>l[i]?) hkm
       simp only[List.getElem?_map,hk,he] at this
       simpa using this
     subst ek
     have eg:h.bk.getD i (0,([],[]))=e:=by rw[List.getD_eq_getElem?_getD,he];rfl
     rw[eg] at h1 h0
     walk_at "dm"
     refine⟨_,rfl,aY (fun hle=>h1 (decide_eq_true (by simpa using hle)) _ ⟨_,rfl⟩) (fun hle=>h0 (decide_eq_false (by simpa using hle)) _ ⟨_,rfl⟩)⟩
   · refine .inr ⟨A0.db,o,_,by rw[ag (Ne.symm hDb)];exact ad,hnf,?_⟩
     have hD1:H1 D=none:=by rw[ag hDb] at hD;exact hD
     have SF:∀ L:List V,ae H1 (upd (upd (upd H1 A0.db (.frz o (.dK (bkV h.bk rs)))) D (.lst L)) A0.db (.dK (bkV h.bk rs))):=fun L b ob e=>by
       by_cases hb:b=A0.db
       · rw[hb,hdb] at e;rw[hb,ad];exact e
       · rw[ag hb,ag (aw e hD1),ag hb];exact e
     rw[mq hrl]
     have eL:((List.range h.bk.length).filter (fun i=>decide ((h.bk.getD i (0,([],[]))).1≤d))).map (fun i=>V.int (h.bk.getD i (0,([],[]))).1)=(((List.range h.bk.length).filter (fun i=>decide ((h.bk.getD i (0,([],[]))).1≤d))).map (fun i=>(h.bk.getD i (0,([],[]))).1)).map V.int:=by rw[List.map_map];rfl
     rw[eL]
     have mem:∀ M,M∈((List.range h.bk.length).filter (fun i=>decide ((h.bk.getD i (0,([],[]))).1≤d))).map (fun i=>(h.bk.getD i (0,([],[]))).1)↔∃ (i:Nat)(e:Int×Bk),h.bk[i]?=some e∧e.1≤d∧e.1=M:=fun M=>by
       rw[List.mem_map]
       constructor
       · rintro⟨i,hi,rfl⟩
         obtain⟨h1,h2⟩:=List.mem_filter.mp hi
         have hl:=List.mem_range.mp h1
         refine⟨i,h.bk.getD i (0,([],[])),?_,by simpa using h2,rfl⟩
         rw[List.getD_eq_getElem?_getD,List.getElem?_eq_getElem hl];rfl
       · rintro⟨i,e,h1,h2,rfl⟩
         have eg:h.bk.getD i (0,([],[]))=e:=by rw[List.getD_eq_getElem?_getD,h1];rfl
         exact⟨i,List.mem_filter.mpr ⟨List.mem_range.mpr (List.getElem?_eq_some_iff.mp h1).1,by rw[eg];exact decide_eq_true h2⟩,by rw[eg]⟩
     refine⟨_,SqL.of (by rw[ag hDb];exact ad),?_,fun M hM hmax=>?_⟩
     · obtain⟨b0,r0,hb0⟩:=ho.k1
       exact List.length_pos_of_mem ((mem 1).mpr ⟨0,(1,b0),by rw[hb0];rfl,hd.1,rfl⟩)
     · obtain⟨i,e,he,hle,rfl⟩:=(mem M).mp hM
       obtain⟨r,hr0⟩:∃ r,rs[i]?=some r:=⟨_,List.getElem?_eq_getElem (by rw[hrl];exact(List.getElem?_eq_some_iff.mp he).1)⟩
       refine⟨A0.db,rfl,V.ref r,.inl ⟨_,Sum.inl e.1,.inl ad,rfl,(pB ho.ks he hr0).symm⟩,q hd r _ (SF _) ?_⟩
       rw[ie h.bk d e.1 e.2 ho.ks (List.mem_of_getElem? he) hle fun e2 he2 hle2=>by
         obtain⟨j,hj⟩:=List.getElem?_of_mem he2
         exact hmax _ ((mem e2.1).mpr ⟨j,e2,hj,hle2,rfl⟩)]
       exact hrB i r e hr0 he
def mk (CH CB:Addr):Sp:=fun vs H Q E=>∃ (A:Ad)(W:Hp)(ss names:List Str) (h:Hs),vs=[.ref A.x]∧ba H CH CB A W ss h∧cy ss names h∧(∀ r H',ae H H'→ck W CB r (aQ h.bk 400).1 (aQ h.bk 400).2→Q (.ref r) H')
theorem we:aG ["self"] ["self"] (af fj):=⟨rfl,rfl,rfl,by decide +kernel,rfl,by decide +kernel,by decide +kernel⟩
theorem ue {f fHB:Addr}{fd fdHB:FuncData}{CH CB cND:Addr}(F:Fun K "newest_book" "House.newest_book" fj f fd)
   (T:Txt mg)(hX:Hx K mg CH)(cB:Cls K CB)
   (GHB:au P w K mg base (CX1 P w) 2 fHB fdHB ["self", "day"] (jj CH CB cND))(hmHB:bW K CH "book" fHB)(bHB:aE K fdHB ["self", "day"] []) :
   au P w K mg base (CX1 P w) 3 f fd ["self"] (mk CH CB):=by
 refine F.okX we (fun vs H Q E h=>?_) (fun cdv A outer s H vs Q E hr h=>?_)
 · obtain⟨_,_,_,_,_,rfl,_⟩:=h
   rfl
 · obtain⟨A0,W,ss,names,h,rfl,hh,ho,q⟩:=h
   obtain⟨_,hld⟩:=hX.ld
   have cH:=hX.c
   have hr2:=hr.mono (j:=2) (by omega)
   refine⟨_,(ai (az (bq (pv 0) cH hmHB GHB hr2 bHB .nil cG (aa (df (v:=.int 400) rfl hld ⟨_,rfl⟩) ac)))),?_⟩
   walk_at "dm"
   exact⟨A0.dx,_,hh.ins,fW (by decide +kernel) (by decide +kernel) (by decide +kernel) (by decide +kernel),A0,W,ss,names,h,400,rfl,hh,ho,fun _=>q,fun hn=>absurd (by omega) hn⟩
end

section
variable {P:Program}{w:World}{K:PySem.W.Frag}{mg:Str→Option Value}{base:Heap}
def cx (dp:List (Int×Str×Str×Str)) (c:Str) (d:Int):List (Int×Str×Str):=(dp.filter fun e=>decide (e.2.1=c)&&decide (e.1≤d)).map fun e=>(e.1,e.2.2.1,e.2.2.2)
def jP (dp:List (Int×Str×Str×Str)) (d:Int):List (Str×Str):=(dp.filter fun e=>decide (e.1=d)).map fun e=>(e.2.1,e.2.2.1)
def bR (h:Hs) (c:Str) (d:Int):Str:=match (cx h.dp c d).getLast? with
 | some e=>e.2.2
 | none=>((h.cl.lookup c).getD ⟨#[]⟩)
abbrev d0:Int×Str×Str×Str:=(0,⟨#[]⟩,⟨#[]⟩,⟨#[]⟩)
theorem g8 {α β:Type}(l:List α)(dflt:α)(p:α→Bool)(f:α→β):(((List.range l.length).filter (fun i=>p (l.getD i dflt))).map (fun i=>f (l.getD i dflt)))=(l.filter p).map f:=by
 have e:l=(List.range l.length).map (fun i=>l.getD i dflt):=by
   refine List.ext_getElem? fun i=>?_
   rw[List.getElem?_map]
   by_cases hi:i < l.length
   · rw[List.getElem?_range hi,List.getElem?_eq_getElem hi]
     show _=some (l.getD i dflt)
     rw[List.getD_eq_getElem?_getD,List.getElem?_eq_getElem hi];rfl
   · rw[List.getElem?_eq_none (by omega),List.getElem?_eq_none (by simpa using hi)];rfl
 conv=>rhs;rw[e]
 rw[List.filter_map,List.map_map]
 rfl
def nA (CH CB cNC cND:Addr):Sp:=fun vs H Q E=>∃ (A:Ad)(W:Hp)(ss names:List Str) (h:Hs) (z:Str) (d:Int),vs=[.ref A.x,.str z,.int d]∧ba H CH CB A W ss h∧cy ss names h∧Shw z∧(z∈h.cl.map (·.1)→(1≤d∧d≤400)→∀ l ps H',ae H H'→H l=none→H' l=some (.lst (ps.map V.ref))→eQ H' ps ((cx h.dp z d).map fun e=>[.int e.1,.str e.2.1,.str e.2.2])→Q (.ref l) H')∧(z∉h.cl.map (·.1)→E (.ref cNC) none H)∧(z∈h.cl.map (·.1)→¬(1≤d∧d≤400)→E (.ref cND) none H)
theorem tN:aG ["self", "cloth", "day"] ["self", "cloth", "day"] (af gC):=⟨rfl,rfl,rfl,by decide +kernel,rfl,by decide +kernel,by decide +kernel⟩
theorem qY {f fHC fCD:Addr}{fd fdHC fdCD:FuncData}{CH CB cNC cND:Addr}(F:Fun K "trail" "House.trail" gC f fd)
   (T:Txt mg)(hX:Hx K mg CH)(cB:Cls K CB)
   (GHC:au P w K mg base (CX1 P w) 1 fHC fdHC ["self", "cloth"] (tE CH CB cNC))(hmHC:bW K CH "check_cloth" fHC)(bHC:aE K fdHC ["self", "cloth"] [])
   (GCD:au P w K mg base (CX1 P w) 1 fCD fdCD ["day"] (jG cND))(kCD:PySem.W.keepIn K (.ref fCD)=true)(bCD:aE K fdCD ["day"] [])(mCD:mg "check_day"=some (.ref fCD)) :
   au P w K mg base (CX1 P w) 2 f fd ["self", "cloth", "day"] (nA CH CB cNC cND):=by
 refine F.okX tN (fun vs H Q E h=>?_) (fun cdv A outer s H vs Q E hr h=>?_)
 · obtain⟨_,_,_,_,_,_,_,rfl,_⟩:=h
   rfl
 · obtain⟨A0,W,ss,names,h,z,d,rfl,hh,ho,hz,q,qc,qd⟩:=h
   have cH:=hX.c
   have hr1:=hr.mono (j:=1) (by omega)
   refine⟨_,(ak (aW (bq (pv 0) cH hmHC GHC hr1 bHC .nil cG (aa (pv 1) ac)))
     (ak (aW (ay GCD hr1 rfl mCD kCD bCD .nil cG (aa (pv 2) ac)))
     (ai (az (jA (N':=["when", "dipped", "bath", "out", "cloth", "day"]) (pk:=[none,none,none,none,some 1,some 2]) rfl (cV.of (by rfl)) (br (cc (pv 0) rfl)) (fun s H ex=>((dS (n:=4) rfl (aX (ap (i:=0) (by show(["when", "dipped", "bath", "out", "cloth", "day"]:List Str).Nodup;decide +kernel) rfl (Or.inl rfl)) (aX (ap (i:=1) (by show(["when", "dipped", "bath", "out", "cloth", "day"]:List Str).Nodup;decide +kernel) rfl (Or.inl rfl)) (aX (ap (i:=2) (by show(["when", "dipped", "bath", "out", "cloth", "day"]:List Str).Nodup;decide +kernel) rfl (Or.inl rfl)) (aX (ap (i:=3) (by show(["when", "dipped", "bath", "out", "cloth", "day"]:List Str).Nodup;decide +kernel) rfl (Or.inl rfl)) dm))))):PG _ _ (ng K 4 (dq (cP 0) (dq (cP 1) (dq (cP 2) (dq (cP 3) me))))))) (fun s H ex=>(PW.pt (oM (ax dt (pv 1) (pv 4) (aK _)) (lP (ax uN (pv 0) (pv 5) (aK _)))))) (fun s H ex=>(ed (aa (pv 0) (aa (pv 2) (aa (pv 3) ac)))))))))),?_⟩
   have hs:=bi
   refine bg (fun σ' H'=>z∈h.cl.map (·.1)∧σ'=[some (.ref A0.x),some (.str z),some (.int d)]∧H'=H) (fun R hR=>?_) ?_
   · walk_at "dm"
     exact⟨A0.dx,_,hh.ins,fW (by decide +kernel) (by decide +kernel) (by decide +kernel) (by decide +kernel),A0,W,ss,h,z,rfl,hh,hz,ho.cnd,fun hm=>hR _ _ ⟨hm,rfl,rfl⟩,qc⟩
   rintro σ1 H1 ⟨hm,rfl,rfl⟩
   refine bg (fun σ' H'=>(1≤d∧d≤400)∧σ'=[some (.ref A0.x),some (.str z),some (.int d)]∧H'=H1) (fun R hR=>?_) ?_
   · walk_at "dm"
     exact⟨d,rfl,fun hd=>hR _ _ ⟨hd,rfl,rfl⟩,qd hm⟩
   rintro σ2 H2 ⟨hd,rfl,rfl⟩
   obtain⟨ps,hls,hpl,hpT⟩:=hh.dp
   have hdl:=ho.dl
   walk_at "dm"
   refine⟨CH,A0.dx,_,hh.ins,hX.c,hX.n3,_,g9,A0.ls,rfl,⟨_,SqL.of hls⟩,fun D hD=>?_⟩
   refine kP (aJ (SqL.of hls)) (by rw[List.length_map];omega) hD (fun σ=>∃ o1 o2 o3 o4,σ=[o1,o2,o3,o4,some (.str z),some (.int d)]) (fun i=>(fun e:Int×Str×Str×Str=>decide (e.2.1=z)&&decide (e.1≤d)) (h.dp.getD i d0)) (fun i=>(fun e:Int×Str×Str×Str=>[V.int e.1,.str e.2.2.1,.str e.2.2.2]) (h.dp.getD i d0)) ⟨none,none,none,none,rfl⟩ ?_ ?_
   · rintro i x σ' H3 hi hx ⟨o1,o2,o3,o4,rfl⟩ hS R1 R0 h1 h0
     rw[List.getElem?_map] at hx
     obtain⟨p,hp,rfl⟩:=Option.map_eq_some_iff.mp hx
     obtain⟨e,he⟩:∃ e,h.dp[i]?=some e:=⟨_,List.getElem?_eq_getElem (by rw[List.length_map] at hi;omega)⟩
     have ht:=hS _ _ (hh.up _ _ (hpT i p e hp he))
     have eg:h.dp.getD i d0=e:=by rw[List.getD_eq_getElem?_getD,he];rfl
     simp only[eg] at h1 h0
     refine sf ht ?_
     walk_at "dm"
     refine⟨rfl,aY (fun hc=>aY (fun hle=>⟨by omega,fun p hp=>h1 (by simp[hc,hle]) p _ ⟨_,_,_,_,rfl⟩ hp⟩) (fun hle=>h0 (by simp[hle]) _ ⟨_,_,_,_,rfl⟩)) (fun hc=>h0 (by simp[hc]) _ ⟨_,_,_,_,rfl⟩)⟩
   · intro qs H' S' hHD hT
     rw[List.length_map,hpl,g8 h.dp d0 (fun e=>decide (e.2.1=z)&&decide (e.1≤d)) (fun e=>[V.int e.1,.str e.2.2.1,.str e.2.2.2])] at hT
     refine q hm hd D qs H' S' hD hHD ?_
     unfold cx
     rw[List.map_map]
     exact hT
def ph (CH CB cND:Addr):Sp:=fun vs H Q E=>∃ (A:Ad)(W:Hp)(ss names:List Str) (h:Hs) (d:Int),vs=[.ref A.x,.int d]∧ba H CH CB A W ss h∧cy ss names h∧((1≤d∧d≤400)→∀ l ps H',ae H H'→H l=none→H' l=some (.lst (ps.map V.ref))→eQ H' ps ((jP h.dp d).map fun e=>[.str e.1,.str e.2])→Q (.ref l) H')∧(¬(1≤d∧d≤400)→E (.ref cND) none H)
theorem t9:aG ["self", "day"] ["self", "day"] (af iU):=⟨rfl,rfl,rfl,by decide +kernel,rfl,by decide +kernel,by decide +kernel⟩
theorem sL {f fCD:Addr}{fd fdCD:FuncData}{CH CB cND:Addr}(F:Fun K "dips" "House.dips" iU f fd)
   (T:Txt mg)(hX:Hx K mg CH)(cB:Cls K CB)
   (GCD:au P w K mg base (CX1 P w) 1 fCD fdCD ["day"] (jG cND))(kCD:PySem.W.keepIn K (.ref fCD)=true)(bCD:aE K fdCD ["day"] [])(mCD:mg "check_day"=some (.ref fCD)) :
   au P w K mg base (CX1 P w) 2 f fd ["self", "day"] (ph CH CB cND):=by
 refine F.okX t9 (fun vs H Q E h=>?_) (fun cdv A outer s H vs Q E hr h=>?_)
 · obtain⟨_,_,_,_,_,_,rfl,_⟩:=h
   rfl
 · obtain⟨A0,W,ss,names,h,d,rfl,hh,ho,q,qd⟩:=h
   have hr1:=hr.mono (j:=1) (by omega)
   refine⟨_,(ak (aW (ay GCD hr1 rfl mCD kCD bCD .nil cG (aa (pv 1) ac)))
     (ai (az (jA (N':=["when", "cloth", "bath", "out", "day"]) (pk:=[none,none,none,none,some 1]) rfl (cV.of (by rfl)) (br (cc (pv 0) rfl)) (fun s H ex=>((dS (n:=4) rfl (aX (ap (i:=0) (by show(["when", "cloth", "bath", "out", "day"]:List Str).Nodup;decide +kernel) rfl (Or.inl rfl)) (aX (ap (i:=1) (by show(["when", "cloth", "bath", "out", "day"]:List Str).Nodup;decide +kernel) rfl (Or.inl rfl)) (aX (ap (i:=2) (by show(["when", "cloth", "bath", "out", "day"]:List Str).Nodup;decide +kernel) rfl (Or.inl rfl)) (aX (ap (i:=3) (by show(["when", "cloth", "bath", "out", "day"]:List Str).Nodup;decide +kernel) rfl (Or.inl rfl)) dm))))):PG _ _ (ng K 4 (dq (cP 0) (dq (cP 1) (dq (cP 2) (dq (cP 3) me))))))) (fun s H ex=>(ax dt (pv 0) (pv 4) (aK _))) (fun s H ex=>(ed (aa (pv 1) (aa (pv 2) ac)))))))),?_⟩
   have hs:=bi
   refine bg (fun σ' H'=>(1≤d∧d≤400)∧σ'=[some (.ref A0.x),some (.int d)]∧H'=H) (fun R hR=>?_) ?_
   · walk_at "dm"
     exact⟨d,rfl,fun hd=>hR _ _ ⟨hd,rfl,rfl⟩,qd⟩
   rintro σ2 H2 ⟨hd,rfl,rfl⟩
   obtain⟨ps,hls,hpl,hpT⟩:=hh.dp
   have hdl:=ho.dl
   walk_at "dm"
   refine⟨CH,A0.dx,_,hh.ins,hX.c,hX.n3,_,g9,A0.ls,rfl,⟨_,SqL.of hls⟩,fun D hD=>?_⟩
   refine kP (aJ (SqL.of hls)) (by rw[List.length_map];omega) hD (fun σ=>∃ o1 o2 o3 o4,σ=[o1,o2,o3,o4,some (.int d)]) (fun i=>(fun e:Int×Str×Str×Str=>decide (e.1=d)) (h.dp.getD i d0)) (fun i=>(fun e:Int×Str×Str×Str=>[V.str e.2.1,.str e.2.2.1]) (h.dp.getD i d0)) ⟨none,none,none,none,rfl⟩ ?_ ?_
   · rintro i x σ' H3 hi hx ⟨o1,o2,o3,o4,rfl⟩ hS R1 R0 h1 h0
     rw[List.getElem?_map] at hx
     obtain⟨p,hp,rfl⟩:=Option.map_eq_some_iff.mp hx
     obtain⟨e,he⟩:∃ e,h.dp[i]?=some e:=⟨_,List.getElem?_eq_getElem (by rw[List.length_map] at hi;omega)⟩
     have ht:=hS _ _ (hh.up _ _ (hpT i p e hp he))
     have eg:h.dp.getD i d0=e:=by rw[List.getD_eq_getElem?_getD,he];rfl
     simp only[eg] at h1 h0
     refine sf ht ?_
     walk_at "dm"
     refine⟨rfl,aY (fun hle=>⟨by omega,fun p hp=>h1 (by simp[hle]) p _ ⟨_,_,_,_,rfl⟩ hp⟩) (fun hle=>h0 (by simp[hle]) _ ⟨_,_,_,_,rfl⟩)⟩
   · intro qs H' S' hHD hT
     rw[List.length_map,hpl,g8 h.dp d0 (fun e=>decide (e.1=d)) (fun e=>[V.str e.2.1,.str e.2.2.1])] at hT
     refine q hd D qs H' S' hD hHD ?_
     unfold jP
     rw[List.map_map]
     exact hT
theorem jn {cl:List (Str×Str)}{c:Str×Str}(hd:(cl.map (·.1)).Nodup)(h:c∈cl):cl.lookup c.1=some c.2:=by
 induction cl with
 | nil=>cases h
 | cons a r ih =>
   rw[List.map_cons,List.nodup_cons] at hd
   rw[List.lookup_cons]
   by_cases e:c.1=a.1
   · rw[show(c.1==a.1)=true from beq_iff_eq.mpr e]
     rcases List.mem_cons.mp h with h | h
     · rw[h]
     · exact absurd (List.mem_map_of_mem (f:=(·.1)) h) (by rw[e];exact hd.1)
   · rw[show(c.1==a.1)=false from beq_eq_false_iff_ne.mpr e]
     rcases List.mem_cons.mp h with h | h
     · exact absurd (by rw[h]) e
     · exact ih hd.2 h
def js (CH CB cNC cND:Addr):Sp:=fun vs H Q E=>∃ (A:Ad)(W:Hp)(ss names:List Str) (h:Hs) (z:Str) (d:Int),vs=[.ref A.x,.str z,.int d]∧ba H CH CB A W ss h∧cy ss names h∧Shw z∧(z∈h.cl.map (·.1)→(1≤d∧d≤400)→∀ H',ae H H'→Q (.str (bR h z d)) H')∧(z∉h.cl.map (·.1)→E (.ref cNC) none H)∧(z∈h.cl.map (·.1)→¬(1≤d∧d≤400)→E (.ref cND) none H)
theorem mU:aG ["self", "cloth", "day", "trail"] ["self", "cloth", "day"] (af fQ):=⟨rfl,rfl,rfl,by decide +kernel,rfl,by decide +kernel,by decide +kernel⟩
theorem qw {f fHT:Addr}{fd fdHT:FuncData}{CH CB cNC cND:Addr}(F:Fun K "shade" "House.shade" fQ f fd)
   (T:Txt mg)(hX:Hx K mg CH)(cB:Cls K CB)
   (GHT:au P w K mg base (CX1 P w) 2 fHT fdHT ["self", "cloth", "day"] (nA CH CB cNC cND))(hmHT:bW K CH "trail" fHT)(bHT:aE K fdHT ["self", "cloth", "day"] []) :
   au P w K mg base (CX1 P w) 3 f fd ["self", "cloth", "day"] (js CH CB cNC cND):=by
 refine F.okX mU (fun vs H Q E h=>?_) (fun cdv A outer s H vs Q E hr h=>?_)
 · obtain⟨_,_,_,_,_,_,_,rfl,_⟩:=h
   rfl
 · obtain⟨A0,W,ss,names,h,z,d,rfl,hh,ho,hz,q,qc,qd⟩:=h
   have hu:(cJ (CX1 P w) P w K mg base ["self", "cloth", "day", "trail"] "House.shade" (af fQ) f cdv A outer s H E).A.units+1 < cLine:=by
     have:=hr.units
     exact Nat.lt_of_le_of_lt (Nat.add_le_add_left (by decide) _) this
   have cH:=hX.c
   have hr2:=hr.mono (j:=2) (by omega)
   refine⟨_,(ak (aB (i:=3) mU.nd rfl (Or.inl rfl) (bq (pv 0) cH hmHT GHT hr2 bHT .nil cG (aa (pv 1) (aa (pv 2) ac))))
     (ak (aV (ax dt (al ao (by rfl) T.len PySem.boot_len (aa (pv 3) ac)) aj (aK _)) (ai (az (bn hu (cc (pv 0) rfl) (pv 1) (fun _ _=>rfl)))) ar)
     (ai (az (bc du (bc aP (pv 3) (m9 jR aj) (fun _ _=>rfl)) aj (fun _ _=>rfl)))))),?_⟩
   have hs:=bi
   refine bg (fun σ' H'=>∃ l ps,(z∈h.cl.map (·.1))∧(1≤d∧d≤400)∧σ'=[some (.ref A0.x),some (.str z),some (.int d),some (.ref l)]∧ae H H'∧H' l=some (.lst (ps.map V.ref))∧eQ H' ps ((cx h.dp z d).map fun e=>[.int e.1,.str e.2.1,.str e.2.2])) (fun R hR=>?_) ?_
   · walk_at "dm"
     exact⟨A0.dx,_,hh.ins,fW (by decide +kernel) (by decide +kernel) (by decide +kernel) (by decide +kernel),A0,W,ss,names,h,z,d,rfl,hh,ho,hz,fun hm hd l ps H' S' hl hH hT=>hR _ _ ⟨l,ps,hm,hd,rfl,S',hH,hT⟩,qc,qd⟩
   rintro σ1 H1 ⟨l,ps,hm,hd,rfl,S1,hl1,hT⟩
   have q:=q hm hd
   refine bg (fun σ' H'=>cx h.dp z d≠[]∧σ'=[some (.ref A0.x),some (.str z),some (.int d),some (.ref l)]∧H'=H1) (fun R hR=>?_) ?_
   · obtain⟨c,hc,rfl⟩:=List.mem_map.mp hm
     walk_at "dm"
     have hpl:=hT.1
     rw[List.length_map] at hpl
     refine⟨_,.inl (SqL.of hl1),rfl,?_⟩
     rw[List.length_map,hpl]
     refine aY (fun h0=>?_) (fun h0=>hR _ _ ⟨fun e=>h0 (by rw[e];rfl),rfl,rfl⟩)
     have e0:cx h.dp c.1 d=[]:=List.length_eq_zero_iff.mp (by omega)
     refine⟨CH,A0.dx,_,S1 _ _ hh.ins,hX.c,hX.n1,_,eP,_,rfl,_,.inl ⟨_,Sum.inr c.1,.inl (S1 _ _ hh.cl),rfl,(mr ho.cnd hc).symm⟩,?_⟩
     have es:bR h c.1 d=c.2:=by
       unfold bR
       rw[e0]
       show(h.cl.lookup c.1).getD _=_
       rw[jn ho.cnd hc]
       rfl
     have:=q H1 S1
     rw[es] at this
     exact this
   rintro σ2 H2 ⟨hne,rfl,rfl⟩
   have hpl:=hT.1
   rw[List.length_map] at hpl
   have hlast:(cx h.dp z d).getLast?=some ((cx h.dp z d).getLast hne):=List.getLast?_eq_some_getLast hne
   have hps:ps≠[]:=fun e=>hne (List.length_eq_zero_iff.mp (by rw[←hpl,e];rfl))
   walk_at "dm"
   have ea:atI (ps.map V.ref) (-1)=some (V.ref (ps.getLast hps)):=by
     have e:ps.map V.ref=ps.dropLast.map V.ref++[V.ref (ps.getLast hps)]:=by
       rw[←List.map_singleton,←List.map_append,List.dropLast_concat_getLast hps]
     rw[e]
     exact ic _ _
   have ht:=hT.2 (ps.length - 1) (ps.getLast hps) [.int ((cx h.dp z d).getLast hne).1,.str ((cx h.dp z d).getLast hne).2.1,.str ((cx h.dp z d).getLast hne).2.2] (by rw[List.getLast_eq_getElem];exact List.getElem?_eq_getElem _) (by rw[List.getElem?_map,hpl,List.getLast_eq_getElem,List.getElem?_eq_getElem (by have:=List.length_pos_iff.mpr hne;omega)];rfl)
   refine⟨_,SqL.of hl1,_,ea,_,rfl,_,SqT.of ht,V.str ((cx h.dp z d).getLast hne).2.2,rfl,?_⟩
   have es:bR h z d=((cx h.dp z d).getLast hne).2.2:=by
     unfold bR
     rw[hlast]
   rw[←es]
   exact q H2 S1
end

section
variable {P:Program}{w:World}{K:PySem.W.Frag}{mg:Str→Option Value}{base:Heap}
theorem pF1 {v:V}:dz (Str.ofString "first_shades") v []=[(Str.ofString "first_shades",v)]:=rfl
theorem pF2 {v u:V}:dz (Str.ofString "day_now") u [(Str.ofString "first_shades",v)]=[(Str.ofString "first_shades",v),(Str.ofString "day_now",u)]:=by
 show(if Str.ofString "first_shades"=Str.ofString "day_now" then _ else _)=_
 rw[if_neg (by decide +kernel)]
 rfl
theorem pF3 {v u t:V}:dz (Str.ofString "standing") t [(Str.ofString "first_shades",v),(Str.ofString "day_now",u)]=[(Str.ofString "first_shades",v),(Str.ofString "day_now",u),(Str.ofString "standing",t)]:=by
 unfold dz
 rw[if_neg (by decide +kernel)]
 unfold dz
 rw[if_neg (by decide +kernel)]
 rfl
theorem pF4 {v u t r:V}:dz (Str.ofString "books_from") r [(Str.ofString "first_shades",v),(Str.ofString "day_now",u),(Str.ofString "standing",t)]=[(Str.ofString "first_shades",v),(Str.ofString "day_now",u),(Str.ofString "standing",t),(Str.ofString "books_from",r)]:=by
 unfold dz
 rw[if_neg (by decide +kernel)]
 unfold dz
 rw[if_neg (by decide +kernel)]
 unfold dz
 rw[if_neg (by decide +kernel)]
 rfl
theorem pFd {A:Ad}{d e:Int}:dz (Str.ofString "day_now") (.int e) (hfs A d)=hfs A e:=by
 unfold hfs dz
 rw[if_neg (by decide +kernel)]
 unfold dz
 rw[if_pos rfl]
def qh (CH CB:Addr):Sp:=fun vs H Q _=>∃ (x dx bk:Addr)(W:Hp)(ss:List Str)(bs:List (Str×List Str)),vs=[.ref x,.ref bk]∧H x=some (.ins CH dx [])∧ae W (hide H x)∧ck W CB bk ss bs∧∀ (A:Ad) H',A.x=x→ae (hide H x) (hid H' A)→ba H' CH CB A W ss ⟨[],1,[],[(1,(ss,bs))]⟩→Q .non H'
theorem uF:aG ["self", "book"] ["self", "book"] (af ip):=⟨rfl,rfl,rfl,by decide +kernel,rfl,by decide +kernel,by decide +kernel⟩
theorem sr {f:Addr}{fd:FuncData}{CH CB :Addr}(F:Fun K "__init__" "House.__init__" ip f fd)
   (T:Txt mg)(hX:Hx K mg CH)(cB:Cls K CB)  :
   au P w K mg base CX0 1 f fd ["self", "book"] (qh CH CB):=by
 refine F.ok uF (fun vs H Q E h=>?_) (fun cdv A outer s H vs Q E hr h=>?_)
 · obtain⟨_,_,_,_,_,_,rfl,_⟩:=h
   rfl
 · obtain⟨x,dx,bk,W,ss,bs,rfl,hx,hW,hbk,q⟩:=h
   obtain⟨_,hfd⟩:=hX.fd
   refine⟨_,(ak (eZ (pv 0) eN rfl)
     (ak (eZ (pv 0) (df (v:=.int 1) rfl hfd ⟨_,rfl⟩) rfl)
     (ak (eZ (pv 0) (cn ac) rfl)
     (ai (eZ (pv 0) (mi (jW (df (v:=.int 1) rfl hfd ⟨_,rfl⟩) (pv 1) lM) rfl rfl (by simp) (by decide)) rfl))))),?_⟩
   have hs:=bi
   have hx0:hide H x x=none:=by unfold hide;rw[if_pos rfl]
   refine bg (fun σ' H'=>∃ d1,σ'=[some (.ref x),some (.ref bk)]∧H d1=none∧H'=upd (upd H d1 (.dK [])) x (.ins CH dx [("first_shades",.ref d1)])) (fun R hR=>?_) ?_
   · walk_at "dm"
     intro d hd
     have hxd:x≠d:=fun e=>by rw[←e,hx] at hd;cases hd
     exact⟨CH,dx,_,by rw[ag hxd];exact hx,hX.c,hX.n1,by decide,hR _ _ ⟨d,rfl,hd,by rw[pF1]⟩⟩
   rintro σ1 H1 ⟨d1,rfl,hd1,rfl⟩
   have hxd1:x≠d1:=fun e=>by rw[←e,hx] at hd1;cases hd1
   refine bg (fun σ' H'=>σ'=[some (.ref x),some (.ref bk)]∧H'=upd (upd H d1 (.dK [])) x (.ins CH dx [("first_shades",.ref d1),("day_now",.int 1)])) (fun R hR=>?_) ?_
   · walk_at "dm"
     exact⟨CH,dx,_,ad,hX.c,hX.n2,by simp,hR _ _ ⟨rfl,by rw[pF2,gE]⟩⟩
   rintro σ2 H2 ⟨rfl,rfl⟩
   refine bg (fun σ' H'=>∃ ls,σ'=[some (.ref x),some (.ref bk)]∧upd (upd H d1 (.dK [])) x (.ins CH dx [("first_shades",.ref d1),("day_now",.int 1)]) ls=none∧H'=upd (upd (upd (upd H d1 (.dK [])) x (.ins CH dx [("first_shades",.ref d1),("day_now",.int 1)])) ls (.lst [])) x (.ins CH dx [("first_shades",.ref d1),("day_now",.int 1),("standing",.ref ls)])) (fun R hR=>?_) ?_
   · walk_at "dm"
     refine⟨by omega,fun ls hls=>?_⟩
     have hxl:x≠ls:=fun e=>by rw[←e,ad] at hls;cases hls
     exact⟨CH,dx,_,by rw[ag hxl];exact ad,hX.c,hX.n3,by simp,hR _ _ ⟨ls,rfl,hls,by rw[pF3]⟩⟩
   rintro σ3 H3 ⟨ls,rfl,hls,rfl⟩
   have hxl:x≠ls:=fun e=>by rw[←e,ad] at hls;cases hls
   have hlsH:ls≠d1:=fun e=>by rw[e,ag (Ne.symm hxd1),ad] at hls;cases hls
   have hlsN:H ls=none:=by rw[ag (Ne.symm hxl),ag hlsH] at hls;exact hls
   walk_at "dm"
   intro p hp
   have hxp:x≠p:=fun e=>by rw[←e,ad] at hp;cases hp
   have hlp:ls≠p:=fun e=>by rw[←e,ag (Ne.symm hxl),ad] at hp;cases hp
   have hdp:d1≠p:=fun e=>by rw[←e,ag (Ne.symm hxd1),ag (Ne.symm hlsH),ag (Ne.symm hxd1),ad] at hp;cases hp
   have hpN:H p=none:=by rw[ag (Ne.symm hxp),ag (Ne.symm hlp),ag (Ne.symm hxp),ag (Ne.symm hdp)] at hp;exact hp
   refine⟨ad,[(Sum.inl 1,V.ref bk)],rfl,by simp,CH,dx,_,by rw[ag hxp,ag hxp,ad],hX.c,hX.n4,by simp,?_⟩
   rw[pF4]
   have e1:cC [] [((Sum.inl 1:Key),V.ref bk)]=[(Sum.inl 1,V.ref bk)]:=rfl
   rw[e1]
   have S:ae (hide H x) (hid (upd (upd (upd (upd (upd (upd (upd H d1 (.dK [])) x (.ins CH dx [("first_shades",.ref d1),("day_now",.int 1)])) ls (.lst [])) x (.ins CH dx [("first_shades",.ref d1),("day_now",.int 1),("standing",.ref ls)])) p (.dK [])) p (.dK [(Sum.inl 1,V.ref bk)])) x (.ins CH dx [("first_shades",.ref d1),("day_now",.int 1),("standing",.ref ls),("books_from",.ref p)])) ⟨x,dx,d1,ls,p⟩):=fun b o e=>by
     have hbx:b≠x:=fun z=>by rw[z,hx0] at e;cases e
     rw[bP hbx] at e
     have h1:b≠d1:=aw e hd1
     have h2:b≠ls:=aw e hlsN
     have h3:b≠p:=aw e hpN
     unfold hid
     rw[if_neg (fun z=>by rcases z with z | z | z | z;exact hbx z;exact h1 z;exact h2 z;exact h3 z)]
     rw[ag hbx,ag h3,ag h3,ag hbx,ag h2,ag hbx,ag h1]
     exact e
   refine q ⟨x,dx,d1,ls,p⟩ _ rfl S ⟨ad,?_,⟨[],?_,rfl,by intro i p e h;simp at h⟩,⟨[bk],?_,rfl,?_⟩,hdp,hW.trans S⟩
   · show upd _ x _ d1=_
     rw[ag (Ne.symm hxd1),ag hdp,ag hdp,ag (Ne.symm hxd1),ag (Ne.symm hlsH),ag (Ne.symm hxd1),ad]
     rfl
   · show upd _ x _ ls=_
     rw[ag (Ne.symm hxl),ag hlp,ag hlp,ag (Ne.symm hxl),ad]
     rfl
   · show upd _ x _ p=_
     rw[ag (Ne.symm hxp),ad]
     rfl
   · intro i r e hr he
     rcases i with _ | i
     · cases hr
       cases he
       exact hbk
     · simp at hr
end

section
variable {P:Program}{w:World}{K:PySem.W.Frag}{mg:Str→Option Value}{base:Heap}
theorem nG:∀ {bk:List (Int×Bk)}{d:Int},bk≠[]→∃ e∈bk,aQ bk d=e.2
 | [],_,h=>absurd rfl h
 | [e],d,_=>⟨e,List.mem_cons_self,rfl⟩
 | e::e2::r,d,_=>by
   unfold aQ
   by_cases h2:e2.1≤d
   · rw[if_pos h2]
     obtain⟨x,hx,hxe⟩:=nG (bk:=e2::r) (d:=d) (by simp)
     exact⟨x,List.mem_cons_of_mem _ hx,hxe⟩
   · rw[if_neg h2]
     exact⟨e,List.mem_cons_self,rfl⟩
theorem cy.on {ss names:List Str}{h:Hs}(ho:cy ss names h) (d:Int):aR (aQ h.bk d).1 (aQ h.bk d).2∧(∀ n,n∈(aQ h.bk d).2.map (·.1)↔n∈names)∧∀ z,z∈(aQ h.bk d).1↔z∈ss:=by
 obtain⟨b,r,hb⟩:=ho.k1
 obtain⟨e,he,hbk⟩:=nG (bk:=h.bk) (d:=d) (by rw[hb];simp)
 rw[hbk]
 exact ho.kb e he
theorem rT {cl:List (Str×Str)}{c z:Str}(h:c∉cl.map (·.1)):cK (clV cl) (Sum.inr c) (V.str z)=clV (cl++[(c,z)]):=by
 rw[dH _ (f9 h)]
 unfold clV
 rw[List.map_append]
 rfl
theorem pR {cl:List (Str×Str)}:(clV cl).length=cl.length:=List.length_map ..
theorem hV {H:Hp}{A:Ad}{b:Addr}{o:HO}(h:b=A.x∨b=A.d1∨b=A.ls∨b=A.db):hid (upd H b o) A=hid H A:=by
 funext y
 unfold hid
 by_cases hy:y=A.x∨y=A.d1∨y=A.ls∨y=A.db
 · rw[if_pos hy,if_pos hy]
 · rw[if_neg hy,if_neg hy]
   exact ag fun e=>hy (by rw[e];exact h)
theorem ba.xd {H:Hp}{C CB:Addr}{A:Ad}{W:Hp}{ss:List Str}{h:Hs}(hh:ba H C CB A W ss h):A.x≠A.d1∧A.x≠A.ls∧A.x≠A.db∧A.d1≠A.ls∧A.ls≠A.db:=by
 obtain⟨h1,h2,⟨ps,h3,_⟩,⟨rs,h6,_⟩,_,_⟩:=hh
 refine⟨fun e=>?_,fun e=>?_,fun e=>?_,fun e=>?_,fun e=>?_⟩
 · rw[e,h2] at h1;cases h1
 · rw[e,h3] at h1;cases h1
 · rw[e,h6] at h1;cases h1
 · rw[e,h3] at h2;cases h2
 · rw[e,h6] at h3;cases h3
def nh (CH CB cBN cKn cNS cFu:Addr):Sp:=fun vs H Q E=>∃ (A:Ad)(W:Hp)(ss names:List Str) (h:Hs) (c z:Str),vs=[.ref A.x,.str c,.str z]∧ba H CH CB A W ss h∧cy ss names h∧h.cl.length≤1000∧Shw c∧Shw z∧(cq c=false→∀ H',ae H H'→E (.ref cBN) none H')∧(cq c=true→c∈h.cl.map (·.1)→∀ H',ae H H'→E (.ref cKn) none H')∧(cq c=true→c∉h.cl.map (·.1)→z∉ss→∀ H',ae H H'→E (.ref cNS) none H')∧(cq c=true→c∉h.cl.map (·.1)→z∈ss→50≤h.cl.length→∀ H',ae H H'→E (.ref cFu) none H')∧(cq c=true→c∉h.cl.map (·.1)→z∈ss→h.cl.length < 50→∀ H',ae (hid H A) (hid H' A)→ba H' CH CB A W ss { h with cl:=h.cl++[(c,z)] }→Q .non H')
theorem sG:aG ["self", "cloth", "shade"] ["self", "cloth", "shade"] (af fY):=⟨rfl,rfl,rfl,by decide +kernel,rfl,by decide +kernel,by decide +kernel⟩
theorem qt {f fGd fHN fMH:Addr}{fd fdGd fdHN fdMH:FuncData}{CH CB cBN cFu cKn cNS:Addr}(F:Fun K "bring" "House.bring" fY f fd)
   (T:Txt mg)(hX:Hx K mg CH)(cB:Cls K CB)(XBN:eJ K cBN)(mBN:mg "BadName"=some (.ref cBN))(XKn:eJ K cKn)(mKn:mg "Known"=some (.ref cKn))(XFu:eJ K cFu)(mFu:mg "Full"=some (.ref cFu))
   (GGd:au P w K mg base CX0 1 fGd fdGd ["text"] l4)(kGd:PySem.W.keepIn K (.ref fGd)=true)(bGd:aE K fdGd ["text"] [])(mGd:mg "good_name"=some (.ref fGd))
   (GHN:au P w K mg base (CX1 P w) 3 fHN fdHN ["self"] (mk CH CB))(hmHN:bW K CH "newest_book" fHN)(bHN:aE K fdHN ["self"] [])
   (GMH:au P w K mg base (CX1 P w) 1 fMH fdMH ["self", "shade"] (jr CB cNS))(hmMH:bW K CB "check_shade" fMH)(bMH:aE K fdMH ["self", "shade"] []) :
   au P w K mg base (CX1 P w) 5 f fd ["self", "cloth", "shade"] (nh CH CB cBN cKn cNS cFu):=by
 refine F.okX sG (fun vs H Q E h=>?_) (fun cdv A outer s H vs Q E hr h=>?_)
 · obtain⟨_,_,_,_,_,_,_,rfl,_⟩:=h
   rfl
 · obtain⟨A0,W,ss,names,h,c,z,rfl,hh,ho,hcl,hc,hz,qb,qk,qs,qf,q⟩:=h
   have hu:(cJ (CX1 P w) P w K mg base ["self", "cloth", "shade"] "House.bring" (af fY) f cdv A outer s H E).A.units+1 < cLine:=by
     have:=hr.units
     exact Nat.lt_of_le_of_lt (Nat.add_le_add_left (by decide) _) this
   obtain⟨_,hmc⟩:=hX.mc
   have cH:=hX.c
   have hr1:=hr.mono (j:=1) (by omega)
   have hr3:=hr.mono (j:=3) (by omega)
   refine⟨_,(ak (aV (cM (cE (ay GGd hr1 rfl mGd kGd bGd .nil aZ (aa (pv 1) ac)))) (ai (b6 rfl rfl mBN XBN.exc PySem.F.excBase_ValueError (aa (fV (pv 1)) ac) d5)) ar)
     (ak (aV (dL (jE hu (pv 1) (cc (pv 0) rfl))) (ai (b6 rfl rfl mKn XKn.exc PySem.F.excBase_ValueError (aa (fV (pv 1)) ac) d5)) ar)
     (ak (aW (bq (fh (pv 0) cH hmHN GHN hr3 bHN .nil cG) cB hmMH GMH hr1 bMH .nil cG (aa (pv 2) ac)))
     (ak (aV (ax i5 (al qM (by rfl) T.len PySem.boot_len (aa (cc (pv 0) rfl) ac)) (df (v:=.int 50) rfl hmc ⟨_,rfl⟩) (aK _)) (ai (b6 rfl rfl mFu XFu.exc PySem.F.excBase_ValueError (aa bQ ac) d5)) ar)
     (ai (dY hu (cc (pv 0) rfl) (pv 1) (pv 2) rfl)))))),?_⟩
   have hs:=bi
   refine bg (fun σ' H'=>cq c=true∧σ'=[some (.ref A0.x),some (.str c),some (.str z)]∧ae H H') (fun R hR=>?_) ?_
   · walk_at "dm"
     refine⟨c,rfl,hc.1,fun H2 S2=>?_⟩
     by_cases hg:cq c=true
     · rw[hg]
       exact⟨_,rfl,aY (fun h=>by cases h) (fun _=>hR _ _ ⟨hg,rfl,S2⟩)⟩
     · have hg':cq c=false:=by simpa using hg
       rw[hg']
       exact⟨_,rfl,aY (fun _=>⟨hc.1,hc.2,fun y=>⟨by decide,qb hg' _ S2⟩⟩) (fun h=>absurd rfl h)⟩
   rintro σ1 H1 ⟨hg,rfl,S1⟩
   have hh1:=ae.house S1 hh
   refine bg (fun σ' H'=>c∉h.cl.map (·.1)∧σ'=[some (.ref A0.x),some (.str c),some (.str z)]∧H'=H1) (fun R hR=>?_) ?_
   · by_cases hm:c∈h.cl.map (·.1)
     · obtain⟨c0,hc0,rfl⟩:=List.mem_map.mp hm
       walk_at "dm"
       exact⟨CH,A0.dx,_,hh1.ins,hX.c,hX.n1,_,eP,A0.d1,rfl,_,.inl ⟨_,Sum.inr c0.1,.inl hh1.cl,rfl,(mr ho.cnd hc0).symm⟩,hc.1,hc.2,fun y=>⟨by decide,qk hg hm _ S1⟩⟩
     · walk_at "dm"
       exact⟨CH,A0.dx,_,hh1.ins,hX.c,hX.n1,_,eP,A0.d1,rfl,none,.inl ⟨_,Sum.inr c,.inl hh1.cl,rfl,(f9 hm).symm⟩,hR _ _ ⟨hm,rfl,rfl⟩⟩
   rintro σ2 H2 ⟨hm,rfl,rfl⟩
   refine bg (fun σ' H'=>z∈ss∧σ'=[some (.ref A0.x),some (.str c),some (.str z)]∧ae H H') (fun R hR=>?_) ?_
   · walk_at "dm"
     refine⟨A0.dx,_,hh1.ins,fW (by decide +kernel) (by decide +kernel) (by decide +kernel) (by decide +kernel),A0,W,ss,names,h,rfl,hh1,ho,fun r H3 S3 hbk=>?_⟩
     have hbk2:=ae.book (ae.house S3 hh1).up hbk
     have hbk3:=hbk2
     obtain⟨dxb,tb,db,so,b1,b2,b3,b4,b5⟩:=hbk2
     exact⟨r,rfl,dxb,_,b1,cm (by decide +kernel) (by decide +kernel),r,_,_,z,rfl,hbk3,hz,fun hzs=>hR _ _ ⟨((ho.on 400).2.2 z).mp hzs,rfl,S1.trans S3⟩,fun hzs=>qs hg hm (fun y=>hzs (((ho.on 400).2.2 z).mpr y)) _ (S1.trans S3)⟩
   rintro σ3 H3 ⟨hzs,rfl,S3⟩
   have hh3:=ae.house S3 hh
   refine bg (fun σ' H'=>h.cl.length < 50∧σ'=[some (.ref A0.x),some (.str c),some (.str z)]∧H'=H3) (fun R hR=>?_) ?_
   · walk_at "dm"
     refine⟨CH,A0.dx,_,hh3.ins,hX.c,hX.n1,_,eP,A0.d1,rfl,_,hh3.cl,?_⟩
     rw[pR]
     exact aY (fun h5=>⟨by decide,qf hg hm hzs (by omega) _ S3⟩) (fun h5=>hR _ _ ⟨by omega,rfl,rfl⟩)
   rintro σ4 H4 ⟨h50,rfl,rfl⟩
   obtain⟨n1,n2,n3,n4,n5⟩:=hh3.xd
   walk_at "dm"
   refine⟨CH,A0.dx,_,hh3.ins,hX.c,hX.n1,_,eP,A0.d1,rfl,_,.inl ⟨_,Sum.inr c,hh3.cl,rfl,by rw[pR];omega,rfl⟩,?_⟩
   rw[rT hm]
   have eh:hid (upd H4 A0.d1 (.dK (clV (h.cl++[(c,z)])))) A0=hid H4 A0:=hV (.inr (.inl rfl))
   refine q hg hm hzs h50 _ (by rw[eh];exact dI S3) ?_
   obtain⟨h1,h2,⟨ps,h3,h4,h5⟩,⟨rs,h6,h7,h8⟩,h9,h10⟩:=hh3
   exact⟨by rw[ag n1];exact h1,ad,⟨ps,by rw[ag (Ne.symm n4)];exact h3,h4,h5⟩,⟨rs,by rw[ag (Ne.symm h9)];exact h6,h7,h8⟩,h9,by rw[eh];exact h10⟩
end

section
variable {P:Program}{w:World}{K:PySem.W.Frag}{mg:Str→Option Value}{base:Heap}
theorem oG {ss names:List Str}{h:Hs}(ho:cy ss names h){c:Str}(hc:c∈h.cl.map (·.1)) (d:Int):bR h c d∈ss:=by
 unfold bR
 split
 · rename_i e he
   have hm:=List.mem_of_getLast? he
   unfold cx at hm
   obtain⟨x,hx,rfl⟩:=List.mem_map.mp hm
   exact ho.ds x (List.mem_filter.mp hx).1
 · obtain⟨c0,hc0,rfl⟩:=List.mem_map.mp hc
   rw[jn ho.cnd hc0]
   exact ho.csh c0 hc0
def lG (CH CB cNC cNB cND cLa cFu:Addr):Sp:=fun vs H Q E=>∃ (A:Ad)(W:Hp)(ss names:List Str) (h:Hs) (c b:Str) (d:Int),vs=[.ref A.x,.str c,.str b,.int d]∧ba H CH CB A W ss h∧cy ss names h∧Shw c∧Shw b∧(c∉h.cl.map (·.1)→∀ H',ae H H'→E (.ref cNC) none H')∧(c∈h.cl.map (·.1)→b∉names→∀ H',ae H H'→E (.ref cNB) none H')∧(c∈h.cl.map (·.1)→b∈names→¬(1≤d∧d≤400)→∀ H',ae H H'→E (.ref cND) none H')∧(c∈h.cl.map (·.1)→b∈names→(1≤d∧d≤400)→d < h.day→∀ H',ae H H'→E (.ref cLa) none H')∧(c∈h.cl.map (·.1)→b∈names→(1≤d∧d≤400)→h.day≤d→1000≤h.dp.length→∀ H',ae H H'→E (.ref cFu) none H')∧(c∈h.cl.map (·.1)→b∈names→(1≤d∧d≤400)→h.day≤d→h.dp.length < 1000→∀ H' W',ae (hid H A) (hid H' A)→uW H W W'→ba H' CH CB A W' ss { h with day:=d,dp:=h.dp++[(d,c,b,lkB (aQ h.bk d).1 (aQ h.bk d).2 b (bR h c d))] }→Q (.str (lkB (aQ h.bk d).1 (aQ h.bk d).2 b (bR h c d))) H')
theorem tu:aG ["self", "cloth", "bath", "day", "out"] ["self", "cloth", "bath", "day"] (af lx):=⟨rfl,rfl,rfl,by decide +kernel,rfl,by decide +kernel,by decide +kernel⟩
theorem um {f fHC fHN fMC fHD fHB fHS fMO:Addr}{fd fdHC fdHN fdMC fdHD fdHB fdHS fdMO:FuncData}{CH CB cFu cLa cNB cNC cND:Addr}(F:Fun K "dip" "House.dip" lx f fd)
   (T:Txt mg)(hX:Hx K mg CH)(cB:Cls K CB)(XFu:eJ K cFu)(mFu:mg "Full"=some (.ref cFu))
   (GHC:au P w K mg base (CX1 P w) 1 fHC fdHC ["self", "cloth"] (tE CH CB cNC))(hmHC:bW K CH "check_cloth" fHC)(bHC:aE K fdHC ["self", "cloth"] [])
   (GHN:au P w K mg base (CX1 P w) 3 fHN fdHN ["self"] (mk CH CB))(hmHN:bW K CH "newest_book" fHN)(bHN:aE K fdHN ["self"] [])
   (GMC:au P w K mg base (CX1 P w) 1 fMC fdMC ["self", "bath"] (iE CB cNB))(hmMC:bW K CB "check_bath" fMC)(bMC:aE K fdMC ["self", "bath"] [])
   (GHD:au P w K mg base (CX1 P w) 2 fHD fdHD ["self", "day"] (su CH CB cND cLa))(hmHD:bW K CH "check_day_to_do" fHD)(bHD:aE K fdHD ["self", "day"] [])
   (GHB:au P w K mg base (CX1 P w) 2 fHB fdHB ["self", "day"] (jj CH CB cND))(hmHB:bW K CH "book" fHB)(bHB:aE K fdHB ["self", "day"] [])
   (GHS:au P w K mg base (CX1 P w) 3 fHS fdHS ["self", "cloth", "day"] (js CH CB cNC cND))(hmHS:bW K CH "shade" fHS)(bHS:aE K fdHS ["self", "cloth", "day"] [])
   (GMO:au P w K mg base CX0 2 fMO fdMO ["self", "bath", "shade"] (og CB))(hmMO:bW K CB "out" fMO)(bMO:aE K fdMO ["self", "bath", "shade"] []) :
   au P w K mg base (CX1 P w) 5 f fd ["self", "cloth", "bath", "day"] (lG CH CB cNC cNB cND cLa cFu):=by
 refine F.okX tu (fun vs H Q E h=>?_) (fun cdv A outer s H vs Q E hr h=>?_)
 · obtain⟨_,_,_,_,_,_,_,_,rfl,_⟩:=h
   rfl
 · obtain⟨A0,W,ss,names,h,c,b,d,rfl,hh,ho,hc,hb,qc,qb,qd,ql,qf,q⟩:=h
   obtain⟨_,hmd⟩:=hX.md
   have cH:=hX.c
   have hr1:=hr.mono (j:=1) (by omega)
   have hr2:=hr.mono (j:=2) (by omega)
   have hr3:=hr.mono (j:=3) (by omega)
   refine⟨_,(ak (aW (bq (pv 0) cH hmHC GHC hr1 bHC .nil cG (aa (pv 1) ac)))
     (ak (aW (bq (fh (pv 0) cH hmHN GHN hr3 bHN .nil cG) cB hmMC GMC hr1 bMC .nil cG (aa (pv 2) ac)))
     (ak (aW (bq (pv 0) cH hmHD GHD hr2 bHD .nil cG (aa (pv 3) ac)))
     (ak (aV (ax i5 (al ao (by rfl) T.len PySem.boot_len (aa (cc (pv 0) rfl) ac)) (df (v:=.int 1000) rfl hmd ⟨_,rfl⟩) (aK _)) (ai (b6 rfl rfl mFu XFu.exc PySem.F.excBase_ValueError (aa bQ ac) d5)) ar)
     (ak (aB (i:=4) tu.nd rfl (Or.inl rfl) (bq (bq (pv 0) cH hmHB GHB hr2 bHB .nil cG (aa (pv 3) ac)) cB hmMO GMO hr2 bMO .nil aZ (aa (pv 2) (aa (bq (pv 0) cH hmHS GHS hr3 bHS .nil cG (aa (pv 1) (aa (pv 3) ac))) ac))))
     (ak (aW (gc PySem.F.plainAttrs_list PySem.F.slot_list_append PySem.F.type_list_append cr (cc (pv 0) rfl) (aa (ed (aa (pv 3) (aa (pv 1) (aa (pv 2) (aa (pv 4) ac))))) ac)))
     (ak (eZ (pv 0) (pv 3) rfl)
     (ai (az (pv 4)))))))))),?_⟩
   have hs:=bi
   have lo:∀ {m:Str}{dd:Int},(m==Str.ofString "first_shades")=false→(m==Str.ofString "day_now")=false→(m==Str.ofString "standing")=false→(m==Str.ofString "books_from")=false→List.lookup m (hfs A0 dd)=none:=fun h1 h2 h3 h4=>fW h1 h2 h3 h4
   refine bg (fun σ' H'=>c∈h.cl.map (·.1)∧σ'=[some (.ref A0.x),some (.str c),some (.str b),some (.int d),none]∧H'=H) (fun R hR=>?_) ?_
   · walk_at "dm"
     exact⟨A0.dx,_,hh.ins,lo (by decide +kernel) (by decide +kernel) (by decide +kernel) (by decide +kernel),A0,W,ss,h,c,rfl,hh,hc,ho.cnd,fun hm=>hR _ _ ⟨hm,rfl,rfl⟩,fun hm=>qc hm _ (ae.refl H)⟩
   rintro σ1 H1 ⟨hm,rfl,rfl⟩
   refine bg (fun σ' H'=>b∈names∧σ'=[some (.ref A0.x),some (.str c),some (.str b),some (.int d),none]∧ae H1 H') (fun R hR=>?_) ?_
   · walk_at "dm"
     refine⟨A0.dx,_,hh.ins,lo (by decide +kernel) (by decide +kernel) (by decide +kernel) (by decide +kernel),A0,W,ss,names,h,rfl,hh,ho,fun r H3 S3 hbk=>?_⟩
     have hbk2:=ae.book (ae.house S3 hh).up hbk
     have hbk3:=hbk2
     obtain⟨dxb,tb,db,so,b1,b2,b3,b4,b5⟩:=hbk2
     obtain⟨B,hN,_⟩:=ho.on 400
     exact⟨r,rfl,dxb,_,b1,cm (by decide +kernel) (by decide +kernel),r,_,_,b,rfl,hbk3,B,hb,fun hzs=>hR _ _ ⟨(hN b).mp hzs,rfl,S3⟩,fun hzs=>qb hm (fun z=>hzs ((hN b).mpr z)) _ S3⟩
   rintro σ2 H2 ⟨hbn,rfl,S2⟩
   have hh2:=ae.house S2 hh
   refine bg (fun σ' H'=>(1≤d∧d≤400)∧h.day≤d∧σ'=[some (.ref A0.x),some (.str c),some (.str b),some (.int d),none]∧H'=H2) (fun R hR=>?_) ?_
   · walk_at "dm"
     exact⟨A0.dx,_,hh2.ins,lo (by decide +kernel) (by decide +kernel) (by decide +kernel) (by decide +kernel),A0,W,ss,h,d,rfl,hh2,fun hd hl=>hR _ _ ⟨hd,hl,rfl,rfl⟩,fun hd=>qd hm hbn hd _ S2,fun hd hl=>ql hm hbn hd hl _ S2⟩
   rintro σ3 H3 ⟨hd,hl,rfl,rfl⟩
   obtain⟨ps,hls,hpl,hpT⟩:=hh2.dp
   refine bg (fun σ' H'=>h.dp.length < 1000∧σ'=[some (.ref A0.x),some (.str c),some (.str b),some (.int d),none]∧H'=H3) (fun R hR=>?_) ?_
   · walk_at "dm"
     refine⟨CH,A0.dx,_,hh2.ins,hX.c,hX.n3,_,g9,A0.ls,rfl,_,.inl (SqL.of hls),?_⟩
     rw[List.length_map,hpl]
     exact aY (fun h5=>⟨by decide,qf hm hbn hd hl (by omega) _ S2⟩) (fun h5=>hR _ _ ⟨by omega,rfl,rfl⟩)
   rintro σ4 H4 ⟨h1000,rfl,rfl⟩
   obtain⟨B,hN,hZ⟩:=ho.on d
   refine bg (fun σ' H'=>σ'=[some (.ref A0.x),some (.str c),some (.str b),some (.int d),some (.str (lkB (aQ h.bk d).1 (aQ h.bk d).2 b (bR h c d)))]∧ae H4 H') (fun R hR=>?_) ?_
   · walk_at "dm"
     refine⟨A0.dx,_,hh2.ins,lo (by decide +kernel) (by decide +kernel) (by decide +kernel) (by decide +kernel),A0,W,ss,names,h,d,rfl,hh2,ho,fun _ r H5 S5 hbk=>?_,fun hn=>absurd hd hn⟩
     have hbk2:=ae.book (ae.house S5 hh2).up hbk
     have hbk3:=hbk2
     obtain⟨dxb,tb,db,so,b1,b2,b3,b4,b5⟩:=hbk2
     refine⟨r,rfl,dxb,_,b1,cm (by decide +kernel) (by decide +kernel),A0.dx,_,S5 _ _ hh2.ins,lo (by decide +kernel) (by decide +kernel) (by decide +kernel) (by decide +kernel),A0,W,ss,names,h,c,d,rfl,ae.house S5 hh2,ho,hc,fun _ _ H6 S6=>?_,fun hn=>absurd hm hn,fun _ hn=>absurd hd hn⟩
     obtain⟨bb,hbb,rfl⟩:=List.mem_map.mp ((hN b).mpr hbn)
     refine⟨r,_,_,bb,_,rfl,ae.book S6 hbk3,B,hbb,(hZ _).mpr (oG ho hm d),?_⟩
     rw[←f7 _ B.bnd hbb]
     exact hR _ _ ⟨rfl,S5.trans S6⟩
   rintro σ5 H5 ⟨rfl,S5⟩
   generalize hout:lkB (aQ h.bk d).1 (aQ h.bk d).2 b (bR h c d)=out at q
   have hh5:=ae.house S5 hh2
   obtain⟨n1,n2,n3,n4,n5⟩:=hh5.xd
   have hls5:=S5 _ _ hls
   refine bg (fun σ' H'=>∃ t,σ'=[some (.ref A0.x),some (.str c),some (.str b),some (.int d),some (.str out)]∧H5 t=none∧H'=upd (upd H5 t (.tup [.int d,.str c,.str b,.str out])) A0.ls (.lst (ps.map V.ref++[V.ref t]))) (fun R hR=>?_) ?_
   · walk_at "dm"
     refine⟨CH,A0.dx,_,hh5.ins,hX.c,hX.n3,_,g9,?_⟩
     refine⟨.inl ⟨rfl,_,SqL.of hls5⟩,by omega,fun t ht=>⟨A0.ls,rfl,_,?_,by rw[List.length_map];omega,hR _ _ ⟨t,rfl,ht,rfl⟩⟩⟩
     rw[ag (aw hls5 ht)]
     exact hls5
   rintro σ6 H6 ⟨t,rfl,ht,rfl⟩
   have htx:A0.x≠t:=aw hh5.ins ht
   have htl:A0.ls≠t:=aw hls5 ht
   refine bg (fun σ' H'=>σ'=[some (.ref A0.x),some (.str c),some (.str b),some (.int d),some (.str out)]∧H'=upd (upd (upd H5 t (.tup [.int d,.str c,.str b,.str out])) A0.ls (.lst (ps.map V.ref++[V.ref t]))) A0.x (.ins CH A0.dx (hfs A0 d))) (fun R hR=>?_) ?_
   · walk_at "dm"
     refine⟨CH,A0.dx,_,by rw[ag n2,ag htx];exact hh5.ins,hX.c,hX.n2,by show 4 < 1000;decide,hR _ _ ⟨rfl,?_⟩⟩
     rw[pFd]
   rintro σ7 H7 ⟨rfl,rfl⟩
   walk_at "dm"
   have e1:hid (upd (upd (upd H5 t (.tup [.int d,.str c,.str b,.str out])) A0.ls (.lst (ps.map V.ref++[V.ref t]))) A0.x (.ins CH A0.dx (hfs A0 d))) A0=hid (upd H5 t (.tup [.int d,.str c,.str b,.str out])) A0:=by
     rw[hV (.inl rfl),hV (.inr (.inr (.inl rfl)))]
   have St:ae H5 (upd H5 t (.tup [.int d,.str c,.str b,.str out])):=ae.updN ht
   obtain⟨h1,h2,⟨ps',h3,h4,h5⟩,⟨rs,h6,h7,h8⟩,h9,h10⟩:=hh5
   have hWt:W t=none:=by
     have hx:hid H5 A0 t=none:=by unfold hid;rw[ht];split<;>rfl
     exact h10.free hx
   have htd:A0.d1≠t:=aw h2 ht
   have htb:A0.db≠t:=aw h6 ht
   have SW:ae W (upd W t (.tup [.int d,.str c,.str b,.str out])):=ae.updN hWt
   refine q hm hbn hd hl h1000 _ (upd W t (.tup [.int d,.str c,.str b,.str out])) (by rw[e1];exact dI ((S2.trans S5).trans St)) ⟨SW,fun y o hy hHy=>?_⟩ ?_
   · have hyt:y≠t:=fun z=>by rw[z] at hHy;have:=(S2.trans S5) _ _ hHy;rw[ht] at this;cases this
     rw[ag hyt];exact hy
   have eps:ps'=ps:=by
     rw[hls5] at h3
     have h3':ps.map V.ref=ps'.map V.ref:=by simpa using h3
     exact(List.map_inj_right (fun a b e=>by simpa using e)).mp h3'.symm
   subst eps
   refine⟨ad,by rw[ag (Ne.symm n1),ag n4,ag htd];exact h2,⟨ps'++[t],by rw[ag (Ne.symm n2),ad,List.map_append];rfl,by rw[List.length_append,List.length_append,h4];rfl,?_⟩,⟨rs,by rw[ag (Ne.symm n3),ag (Ne.symm n5),ag htb];exact h6,h7,fun i r e hr he=>ae.book SW (h8 i r e hr he)⟩,h9,?_⟩
   · intro i p e hp he
     by_cases hi:i < ps'.length
     · rw[List.getElem?_append_left hi] at hp
       rw[List.getElem?_append_left (by omega)] at he
       exact SW _ _ (h5 i p e hp he)
     · have hj:i=ps'.length:=by
         have:=(List.getElem?_eq_some_iff.mp hp).1
         rw[List.length_append,List.length_singleton] at this
         omega
       subst hj
       rw[List.getElem?_append_right (Nat.le_refl _),Nat.sub_self] at hp
       rw[List.getElem?_append_right (by omega),h4,Nat.sub_self] at he
       cases hp
       cases he
       exact ad
   · rw[e1,l7 (Ne.symm htx) (Ne.symm htd) (Ne.symm htl) (Ne.symm htb)]
     intro y o hy
     by_cases hyt:y=t
     · rw[hyt,ad] at hy;rw[hyt,ad];exact hy
     · rw[ag hyt] at hy;rw[ag hyt];exact h10 _ _ hy
end

section
variable {P:Program}{w:World}{K:PySem.W.Frag}{mg:Str→Option Value}{base:Heap}
theorem mE (dp:List (Int×Str×Str×Str)) (d:Int) (c b o z:Str) (e:Int):cx (dp++[(d,c,b,o)]) z e=cx dp z e++(if c=z∧d≤e then[(d,b,o)] else[]):=by
 unfold cx
 rw[List.filter_append,List.map_append]
 congr 1
 by_cases h:c=z∧d≤e
 · rw[if_pos h]
   simp[h.1,h.2]
 · rw[if_neg h]
   have:(decide (c=z)&&decide (d≤e))=false:=by
     rw[Bool.and_eq_false_iff]
     by_cases hc:c=z
     · exact .inr (decide_eq_false fun z=>h ⟨hc,z⟩)
     · exact .inl (decide_eq_false hc)
   simp[this]
theorem gr (h:Hs) (d:Int) (c b o z:Str) (e dy:Int):bR { h with day:=dy,dp:=h.dp++[(d,c,b,o)] } z e=if c=z∧d≤e then o else bR h z e:=by
 unfold bR
 show(match (cx (h.dp++[(d,c,b,o)]) z e).getLast? with | some e=>e.2.2 | none=>_)=_
 rw[mE]
 by_cases hc:c=z∧d≤e
 · rw[if_pos hc,if_pos hc,List.getLast?_append]
   rfl
 · rw[if_neg hc,if_neg hc,List.append_nil]
   all_goals rfl
theorem cy.dip {ss names:List Str}{h:Hs}{d:Int}{c b o:Str}(ho:cy ss names h)(hd:1≤d∧d≤400)(hl:h.day≤d)(hn:h.dp.length < 1000)(hos:o∈ss):cy ss names { h with day:=d,dp:=h.dp++[(d,c,b,o)] } :=
 ⟨ho.cnd,ho.csh,ho.cnm,hd.1,hd.2,by show(h.dp++_).length≤1000;rw[List.length_append,List.length_singleton];omega,fun e he=>by
     rcases List.mem_append.mp he with he | he
     · have:=ho.dd e he;exact⟨this.1,by show e.1≤d;omega⟩
     · rw[List.mem_singleton.mp he];exact⟨hd.1,Int.le_refl _⟩,fun e he=>by
     rcases List.mem_append.mp he with he | he
     · exact ho.ds e he
     · rw[List.mem_singleton.mp he];exact hos,ho.k1,ho.ks,fun e he=>by have:=ho.kd e he;exact⟨this.1,by show e.1≤d;omega⟩,ho.kl,ho.kb⟩
theorem cy.bring {ss names:List Str}{h:Hs}{c z:Str}(ho:cy ss names h)(hc:c∉h.cl.map (·.1))(hz:z∈ss)(hg:cq c=true):cy ss names { h with cl:=h.cl++[(c,z)] } :=
 ⟨by show((h.cl++_).map _).Nodup;rw[List.map_append];exact g7 ho.cnd hc,fun e he=>by
     rcases List.mem_append.mp he with he | he
     · exact ho.csh e he
     · rw[List.mem_singleton.mp he];exact hz,fun e he=>by
     rcases List.mem_append.mp he with he | he
     · exact ho.cnm e he
     · rw[List.mem_singleton.mp he];exact hg,ho.d1,ho.d4,ho.dl,ho.dd,ho.ds,ho.k1,ho.ks,ho.kd,ho.kl,ho.kb⟩
theorem cy.new {ss:List Str}{bs:List (Str×List Str)}(B:aR ss bs):cy ss (bs.map (·.1)) ⟨[],1,[],[(1,(ss,bs))]⟩ :=
 ⟨List.nodup_nil,(fun e he=>by cases he),(fun e he=>by cases he),by show(1:Int)≤1;decide,by show(1:Int)≤400;decide,by show 0≤1000;decide,(fun e he=>by cases he),(fun e he=>by cases he),⟨(ss,bs),[],rfl⟩,List.pairwise_singleton _ _,fun e he=>by rw[List.mem_singleton.mp he];exact⟨by show(1:Int)≤1;decide,by show(1:Int)≤1;decide⟩,by show 1≤400;decide,fun e he=>by rw[List.mem_singleton.mp he];exact⟨B,fun n=>Iff.rfl,fun z=>Iff.rfl⟩⟩
end

section
variable {P:Program}{w:World}{K:PySem.W.Frag}{mg:Str→Option Value}{base:Heap}
def cQ (bk:List (Int×Bk)) (d:Int)(B:Bk):List (Int×Bk):=if(bk.any fun e=>decide (e.1=d))=true then bk.map (fun e=>if e.1=d then(e.1,B) else e) else bk++[(d,B)]
theorem pW {d:Int}{y:Addr}{B:Bk}:∀ (bk:List (Int×Bk))(rs:List Addr),rs.length=bk.length→(bkV bk rs).map (fun kv=>if kv.1=Sum.inl d then(kv.1,V.ref y) else kv)=bkV (bk.map fun e=>if e.1=d then(e.1,B) else e) ((bk.zip rs).map fun e=>if e.1.1=d then y else e.2)
 | [],[],_=>rfl
 | [],_::_,h=>by simp at h
 | _::_,[],h=>by simp at h
 | b::bk,r::rs,h=>by
   have ih:=pW (d:=d) (y:=y) (B:=B) bk rs (by simpa using h)
   unfold bkV at ih ⊢
   rw[List.zip_cons_cons,List.map_cons,List.map_cons,List.map_cons,List.map_cons,List.zip_cons_cons,List.map_cons,ih]
   by_cases e:b.1=d
   · simp[e]
   · simp[e]
theorem pO {d:Int}:∀ (bk:List (Int×Bk))(rs:List Addr),rs.length=bk.length→((bkV bk rs).any fun kv=>decide (kv.1=Sum.inl d))=bk.any fun e=>decide (e.1=d)
 | [],[],_=>rfl
 | [],_::_,h=>by simp at h
 | _::_,[],h=>by simp at h
 | b::bk,r::rs,h=>by
   have ih:=pO (d:=d) bk rs (by simpa using h)
   unfold bkV at ih ⊢
   rw[List.zip_cons_cons,List.map_cons,List.any_cons,List.any_cons,ih]
   simp
theorem rY {bk:List (Int×Bk)}{rs:List Addr}(h:rs.length=bk.length):(bkV bk rs).length=bk.length:=by
 unfold bkV
 rw[List.length_map,List.length_zip,h,Nat.min_self]
theorem uM {bk:List (Int×Bk)}{rs:List Addr}{d:Int}{y:Addr}(B:Bk)(h:rs.length=bk.length):∃ rs',cK (bkV bk rs) (Sum.inl d) (V.ref y)=bkV (cQ bk d B) rs'∧rs'.length=(cQ bk d B).length∧∀ (i:Nat) r e,rs'[i]?=some r→(cQ bk d B)[i]?=some e→(r=y∧e.2=B)∨(rs[i]?=some r∧bk[i]?=some e):=by
 unfold cK cQ
 rw[pO bk rs h]
 by_cases c:(bk.any fun e=>decide (e.1=d))=true
 · rw[if_pos c,if_pos c]
   refine⟨_,pW bk rs h,by rw[List.length_map,List.length_map,List.length_zip,h,Nat.min_self],fun i r e hr he=>?_⟩
   rw[List.getElem?_map] at hr he
   obtain⟨b,hb,rfl⟩:=Option.map_eq_some_iff.mp he
   obtain⟨⟨b2,r2⟩,hz,rfl⟩:=Option.map_eq_some_iff.mp hr
   rw[List.getElem?_zip_eq_some] at hz
   obtain⟨h1,h2⟩:=hz
   rw[hb] at h1
   have hbb:b=b2:=by simpa using h1
   subst hbb
   by_cases e:b.1=d
   · refine .inl ⟨?_,?_⟩
     · show(if b.1=d then y else r2)=y
       rw[if_pos e]
     · rw[if_pos e]
   · refine .inr ⟨?_,?_⟩
     · show rs[i]?=some (if b.1=d then y else r2)
       rw[if_neg e];exact h2
     · rw[if_neg e];exact hb
 · rw[if_neg c,if_neg c]
   refine⟨rs++[y],?_,by rw[List.length_append,List.length_append,h];rfl,fun i r e hr he=>?_⟩
   · unfold bkV
     rw[List.zip_append h.symm,List.map_append]
     rfl
   · by_cases hi:i < rs.length
     · rw[List.getElem?_append_left hi] at hr
       rw[List.getElem?_append_left (by omega)] at he
       exact .inr ⟨hr,he⟩
     · rw[List.getElem?_append_right (by omega)] at hr
       rw[List.getElem?_append_right (by omega)] at he
       have hj:i - rs.length=0:=by
         have:=(List.getElem?_eq_some_iff.mp hr).1
         simp only[List.length_singleton] at this
         omega
       rw[hj] at hr
       rw[show i - bk.length=0 by omega] at he
       cases hr
       cases he
       exact .inl ⟨rfl,rfl⟩
def nv (W N:Hp):Hp:=fun a=>match W a with | some o=>some o | none=>N a
theorem oZ {W N:Hp}:ae W (nv W N):=fun a o e=>by
 unfold nv;rw[e]
theorem vZ {W N:Hp}(h:∀ a o,N a=some o→W a=none):ae N (nv W N):=fun a o e=>by
 unfold nv;rw[h a o e];exact e
theorem uo {W N H:Hp}(h1:ae W H)(h2:ae N H):ae (nv W N) H:=fun a o e=>by
 unfold nv at e
 cases hw:W a with
 | some u=>rw[hw] at e;cases e;exact h1 _ _ hw
 | none=>rw[hw] at e;exact h2 _ _ e
theorem jF {H H':Hp}{a:Addr}{o:HO}(e:dJ H H' a=some o):H a=none:=by
 cases hH:H a with
 | none=>rfl
 | some u=>unfold dJ at e;rw[hH] at e;cases e
def k9 (K:PySem.W.Frag)(CH CB cNB cBB cND cLa:Addr):Sp:=fun vs H Q E=>∃ (A:Ad)(W:Hp)(ss names os:List Str) (h:Hs) (b:Str)(lu:Addr) (d:Int),vs=[.ref A.x,.str b,.ref lu,.int d]∧ba H CH CB A W ss h∧cy ss names h∧Shw b∧H lu=some (.lst (os.map V.str))∧os.length≤100∧(∀ v∈os,Shw v)∧(b∉names→∀ H',ae H H'→E (.ref cNB) none H')∧(b∈names→¬GO (aQ h.bk 400).1 os→∀ H',ae H H'→E (.ref cBB) none H')∧(b∈names→GO (aQ h.bk 400).1 os→¬(1≤d∧d≤400)→∀ H',ae H H'→E (.ref cND) none H')∧(b∈names→GO (aQ h.bk 400).1 os→(1≤d∧d≤400)→(d < h.day∨jP h.dp d≠[])→∀ H',ae H H'→E (.ref cLa) none H')∧(b∈names→GO (aQ h.bk 400).1 os→(1≤d∧d≤400)→h.day≤d→jP h.dp d=[]→∀ so ns H' W',kh (aQ h.bk 400).1 so ns (aQ h.bk 400).2→aR so (ns.map (chB (aQ h.bk 400).1 so (aQ h.bk 400).2 b os))→ae (hid H A) (hid H' A)→uW H W W'→ba H' CH CB A W' ss { h with day:=d,bk:=cQ h.bk d (so,ns.map (chB (aQ h.bk 400).1 so (aQ h.bk 400).2 b os)) }→Q .non H')
theorem lv:aG ["self", "bath", "outs", "day", "newer"] ["self", "bath", "outs", "day"] (af eI):=⟨rfl,rfl,rfl,by decide +kernel,rfl,by decide +kernel,by decide +kernel⟩
theorem oC {f fHN fMX fHD fHP:Addr}{fd fdHN fdMX fdHD fdHP:FuncData}{CH CB cBB cLa cNB cND:Addr}(F:Fun K "change" "House.change" eI f fd)
   (T:Txt mg)(hX:Hx K mg CH)(cB:Cls K CB)(XLa:eJ K cLa)(mLa:mg "Late"=some (.ref cLa))
   (GHN:au P w K mg base (CX1 P w) 3 fHN fdHN ["self"] (mk CH CB))(hmHN:bW K CH "newest_book" fHN)(bHN:aE K fdHN ["self"] [])
   (GMX:au P w K mg base (CX1 P w) 6 fMX fdMX ["self", "bath", "outs"] (jq K CB cNB cBB))(hmMX:bW K CB "changed" fMX)(bMX:aE K fdMX ["self", "bath", "outs"] [])
   (GHD:au P w K mg base (CX1 P w) 2 fHD fdHD ["self", "day"] (su CH CB cND cLa))(hmHD:bW K CH "check_day_to_do" fHD)(bHD:aE K fdHD ["self", "day"] [])
   (GHP:au P w K mg base (CX1 P w) 2 fHP fdHP ["self", "day"] (ph CH CB cND))(hmHP:bW K CH "dips" fHP)(bHP:aE K fdHP ["self", "day"] []) :
   au P w K mg base (CX1 P w) 7 f fd ["self", "bath", "outs", "day"] (k9 K CH CB cNB cBB cND cLa):=by
 refine F.okX lv (fun vs H Q E h=>?_) (fun cdv A outer s H vs Q E hr h=>?_)
 · obtain⟨_,_,_,_,_,_,_,_,_,rfl,_⟩:=h
   rfl
 · obtain⟨A0,W,ss,names,os,h,b,lu,d,rfl,hh,ho,hb,hlu,hol,hsh,qb,qg,qd,ql,q⟩:=h
   have hu:(cJ (CX1 P w) P w K mg base ["self", "bath", "outs", "day", "newer"] "House.change" (af eI) f cdv A outer s H E).A.units+1 < cLine:=by
     have:=hr.units
     exact Nat.lt_of_le_of_lt (Nat.add_le_add_left (by decide) _) this
   have cH:=hX.c
   have hr2:=hr.mono (j:=2) (by omega)
   have hr3:=hr.mono (j:=3) (by omega)
   have hr6:=hr.mono (j:=6) (by omega)
   refine⟨_,(ak (aB (i:=4) lv.nd rfl (Or.inl rfl) (bq (fh (pv 0) cH hmHN GHN hr3 bHN .nil cG) cB hmMX GMX hr6 bMX .nil cG (aa (pv 1) (aa (pv 2) ac))))
     (ak (aW (bq (pv 0) cH hmHD GHD hr2 bHD .nil cG (aa (pv 3) ac)))
     (ak (aV (ax gh (al ao (by rfl) T.len PySem.boot_len (aa (bq (pv 0) cH hmHP GHP hr2 bHP .nil cG (aa (pv 3) ac)) ac)) aj (aK _)) (ai (b6 rfl rfl mLa XLa.exc PySem.F.excBase_ValueError (aa bQ ac) d5)) ar)
     (ak (dY hu (cc (pv 0) rfl) (pv 3) (pv 4) rfl)
     (ai (eZ (pv 0) (pv 3) rfl)))))),?_⟩
   have hs:=bi
   have lo:∀ {m:Str}{dd:Int},(m==Str.ofString "first_shades")=false→(m==Str.ofString "day_now")=false→(m==Str.ofString "standing")=false→(m==Str.ofString "books_from")=false→List.lookup m (hfs A0 dd)=none:=fun h1 h2 h3 h4=>fW h1 h2 h3 h4
   obtain⟨B,hN,hZ⟩:=ho.on 400
   generalize hbk0:aQ h.bk 400=bz at *
   refine bg (fun σ' H'=>∃ y so ns,b∈names∧GO bz.1 os∧σ'=[some (.ref A0.x),some (.str b),some (.ref lu),some (.int d),some (.ref y)]∧ae H H'∧H y=none∧kh bz.1 so ns bz.2∧aR so (ns.map (chB bz.1 so bz.2 b os))∧ck (dJ H H') CB y so (ns.map (chB bz.1 so bz.2 b os))) (fun R hR=>?_) ?_
   · walk_at "dm"
     refine⟨A0.dx,_,hh.ins,lo (by decide +kernel) (by decide +kernel) (by decide +kernel) (by decide +kernel),A0,W,ss,names,h,rfl,hh,ho,fun r H3 S3 hbk=>?_⟩
     rw[hbk0] at hbk
     have hbk2:=ae.book (ae.house S3 hh).up hbk
     have hbk3:=hbk2
     obtain⟨dxb,tb,db,so,b1,b2,b3,b4,b5⟩:=hbk2
     refine⟨r,rfl,dxb,_,b1,cm (by decide +kernel) (by decide +kernel),r,lu,bz.1,os,bz.2,b,rfl,hbk3,B,hb,S3 _ _ hlu,hol,hsh,fun hn=>qb (fun z=>hn ((hN b).mpr z)) _ S3,fun hm hg H4 S4=>qg ((hN b).mp hm) hg _ (S3.trans S4),fun hm hg y so ns H4 hy S4 CI B2 hbk4=>hR _ _ ⟨y,so,ns,(hN b).mp hm,hg,rfl,S3.trans S4,S3.free hy,CI,B2,ae.book (g6 S3) hbk4⟩⟩
   rintro σ1 H1 ⟨y,so,ns,hm,hg,rfl,S1,hy,CI,B2,hbk⟩
   have hh1:=ae.house S1 hh
   refine bg (fun σ' H'=>(1≤d∧d≤400)∧h.day≤d∧σ'=[some (.ref A0.x),some (.str b),some (.ref lu),some (.int d),some (.ref y)]∧H'=H1) (fun R hR=>?_) ?_
   · walk_at "dm"
     exact⟨A0.dx,_,hh1.ins,lo (by decide +kernel) (by decide +kernel) (by decide +kernel) (by decide +kernel),A0,W,ss,h,d,rfl,hh1,fun hd hl=>hR _ _ ⟨hd,hl,rfl,rfl⟩,fun hd=>qd hm hg hd _ S1,fun hd hl=>ql hm hg hd (.inl hl) _ S1⟩
   rintro σ2 H2 ⟨hd,hl,rfl,rfl⟩
   refine bg (fun σ' H'=>jP h.dp d=[]∧σ'=[some (.ref A0.x),some (.str b),some (.ref lu),some (.int d),some (.ref y)]∧ae H2 H') (fun R hR=>?_) ?_
   · walk_at "dm"
     refine⟨A0.dx,_,hh1.ins,lo (by decide +kernel) (by decide +kernel) (by decide +kernel) (by decide +kernel),A0,W,ss,names,h,d,rfl,hh1,ho,fun _ l ps H' S' hl0 hH hT=>?_,fun hn=>absurd hd hn⟩
     have hpl:=hT.1
     rw[List.length_map] at hpl
     refine⟨l,rfl,_,.inl (SqL.of hH),?_⟩
     rw[List.length_map,hpl]
     exact aY (fun h0=>⟨by decide,ql hm hg hd (.inr fun e=>by rw[e] at h0;exact absurd h0 (by decide)) _ (S1.trans S')⟩) (fun h0=>hR _ _ ⟨List.length_eq_zero_iff.mp (by omega),rfl,S'⟩)
   rintro σ3 H3 ⟨hno,rfl,S3⟩
   have hh3:=ae.house S3 hh1
   obtain⟨n1,n2,n3,n4,n5⟩:=hh3.xd
   obtain⟨h1,h2,⟨ps',h3,h4,h5⟩,⟨rs,h6,h7,h8⟩,h9,h10⟩:=hh3
   obtain⟨rs',hput,hrl,hrs⟩:=uM (d:=d) (y:=y) (so,ns.map (chB bz.1 so bz.2 b os)) h7
   have hkl:=ho.kl
   refine bg (fun σ' H'=>σ'=[some (.ref A0.x),some (.str b),some (.ref lu),some (.int d),some (.ref y)]∧H'=upd H3 A0.db (.dK (bkV (cQ h.bk d (so,ns.map (chB bz.1 so bz.2 b os))) rs'))) (fun R hR=>?_) ?_
   · walk_at "dm"
     refine⟨CH,A0.dx,_,h1,hX.c,hX.n4,_,jx,A0.db,rfl,_,.inl ⟨_,Sum.inl d,h6,rfl,by rw[rY h7];omega,rfl⟩,?_⟩
     rw[hput]
     exact hR _ _ ⟨rfl,rfl⟩
   rintro σ4 H4 ⟨rfl,rfl⟩
   walk_at "dm"
   refine⟨CH,A0.dx,_,by rw[ag n3];exact h1,hX.c,hX.n2,by show 4 < 1000;decide,?_⟩
   rw[pFd]
   have hWN:∀ a o,dJ H H2 a=some o→W a=none:=fun a o e=>hh.up.free (jF e)
   have SN:ae (dJ H H2) (hid H3 A0):=fun a o e=>by
     have e0:=jF e
     obtain⟨_,z3,_,_⟩:=hh.dp
     obtain⟨_,z4,_,_⟩:=hh.bk
     unfold hid
     rw[if_neg (fun z=>by
       rcases z with z | z | z | z
       · rw[z,hh.ins] at e0;cases e0
       · rw[z,hh.cl] at e0;cases e0
       · rw[z,z3] at e0;cases e0
       · rw[z,z4] at e0;cases e0)]
     exact S3 _ _ (kK _ _ e)
   have e1:∀ u v,hid (upd (upd H3 A0.db u) A0.x v) A0=hid H3 A0:=fun u v=>by
     rw[hV (.inl rfl),hV (.inr (.inr (.inr rfl)))]
   refine q hm hg hd hl hno so ns _ (nv W (dJ H H2)) CI B2 (by rw[e1];exact dI (S1.trans S3)) ⟨oZ,fun a o hw hH=>?_⟩ ⟨ad,by rw[ag (Ne.symm n1),ag h9];exact h2,⟨ps',by rw[ag (Ne.symm n2),ag n5];exact h3,h4,fun i p e hp he=>oZ _ _ (h5 i p e hp he)⟩,⟨rs',by rw[ag (Ne.symm n3),ad],hrl,fun i r e hr he=>?_⟩,h9,by rw[e1];exact uo h10 SN⟩
   · unfold nv dJ
     rw[hw,hH]
   · rcases hrs i r e hr he with ⟨rfl,he2⟩ | ⟨hr2,he2⟩
     · rw[he2];exact ae.book (vZ hWN) hbk
     · exact ae.book oZ (h8 i r e hr2 he2)
end

section
variable {P:Program}{w:World}{K:PySem.W.Frag}{mg:Str→Option Value}{base:Heap}
theorem iL {bk:List (Int×Bk)}{d:Int}{B:Bk}{e:Int×Bk}(h:e∈cQ bk d B):e=(d,B)∨e∈bk:=by
 unfold cQ at h
 split at h
 · obtain⟨x,hx,rfl⟩:=List.mem_map.mp h
   by_cases c:x.1=d
   · rw[if_pos c,c];exact .inl rfl
   · rw[if_neg c];exact .inr hx
 · rcases List.mem_append.mp h with h | h
   · exact .inr h
   · exact .inl (List.mem_singleton.mp h)
theorem tP:∀ {bk:List (Int×Bk)}{lo hi:Int},bk.Pairwise (fun a b=>a.1 < b.1)→(∀ e∈bk,lo≤e.1∧e.1≤hi)→lo≤hi+1→(bk.length:Int)≤hi - lo+1
 | [],_,_,_,_,h=>by simp;omega
 | a::r,lo,hi,hp,hb,_=>by
   have h1:=List.pairwise_cons.mp hp
   have h2:=hb a List.mem_cons_self
   have:=tP (bk:=r) (lo:=a.1+1) (hi:=hi) h1.2 (fun e he=>⟨by have:=h1.1 e he;omega,(hb e (List.mem_cons_of_mem _ he)).2⟩) (by omega)
   rw[List.length_cons]
   push_cast
   omega
theorem cy.change {ss names:List Str}{h:Hs}{d:Int}{B:Bk}(ho:cy ss names h)(hd:1≤d∧d≤400)(hl:h.day≤d)(hB:aR B.1 B.2∧(∀ n,n∈B.2.map (·.1)↔n∈names)∧∀ z,z∈B.1↔z∈ss):cy ss names { h with day:=d,bk:=cQ h.bk d B }:=by
 have hks:(cQ h.bk d B).Pairwise (fun a b=>a.1 < b.1):=by
   unfold cQ
   split
   · rw[List.pairwise_map]
     refine ho.ks.imp fun {a b} hab=>?_
     have e:∀ x:Int×Bk,(if x.1=d then(x.1,B) else x).1=x.1:=fun x=>by split<;>rfl
     rw[e,e];exact hab
   · rename_i hn
     rw[List.pairwise_append]
     refine⟨ho.ks,List.pairwise_singleton ..,fun a ha b hb=>?_⟩
     rw[List.mem_singleton.mp hb]
     show a.1 < d
     have h1:=(ho.kd a ha).2
     have h2:a.1≠d:=fun e=>hn (List.any_eq_true.mpr ⟨a,ha,decide_eq_true e⟩)
     omega
 have hkd:∀ e∈cQ h.bk d B,1≤e.1∧e.1≤d:=fun e he=>by
   rcases iL he with rfl | he
   · exact⟨hd.1,Int.le_refl _⟩
   · have:=ho.kd e he;exact⟨this.1,by omega⟩
 refine⟨ho.cnd,ho.csh,ho.cnm,hd.1,hd.2,ho.dl,fun e he=>by have:=ho.dd e he;exact⟨this.1,by show e.1≤d;omega⟩,ho.ds,?_,hks,hkd,?_,fun e he=>?_⟩
 · obtain⟨b,r,hb⟩:=ho.k1
   show ∃ b r,cQ h.bk d B=(1,b)::r
   unfold cQ
   rw[hb]
   split
   · rw[List.map_cons]
     by_cases c:(1:Int)=d
     · exact⟨B,_,by rw[if_pos c]⟩
     · exact⟨b,_,by rw[if_neg c]⟩
   · exact⟨b,_,rfl⟩
 · have:=tP hks hkd (by omega)
   show(cQ h.bk d B).length≤400
   omega
 · rcases iL he with rfl | he
   · exact hB
   · exact ho.kb e he
theorem cy.ch {ss names so ns os:List Str}{h:Hs}{b:Str}(ho:cy ss names h)(CI:kh (aQ h.bk 400).1 so ns (aQ h.bk 400).2)(B2:aR so (ns.map (chB (aQ h.bk 400).1 so (aQ h.bk 400).2 b os))):aR so (ns.map (chB (aQ h.bk 400).1 so (aQ h.bk 400).2 b os))∧(∀ n,n∈(ns.map (chB (aQ h.bk 400).1 so (aQ h.bk 400).2 b os)).map (·.1)↔n∈names)∧∀ z,z∈so↔z∈ss:=by
 obtain⟨_,hN,hZ⟩:=ho.on 400
 have e:(ns.map (chB (aQ h.bk 400).1 so (aQ h.bk 400).2 b os)).map (·.1)=ns:=by
   rw[List.map_map]
   exact List.map_id ns
 refine⟨B2,fun n=>?_,fun z=>?_⟩
 · rw[e,CI.pn.mem_iff];exact hN n
 · rw[CI.ps.mem_iff];exact hZ z
end

section
variable {P:Program}{w:World}{K:PySem.W.Frag}{mg:Str→Option Value}{base:Heap}
theorem tD {kvs:List (Key×V)}{k:Key}{v:V}(h:(bZ kvs k).isSome=true):(cK kvs k v).map (·.1)=kvs.map (·.1):=by
 unfold cK
 rw[fe,if_pos h,List.map_map]
 refine List.map_congr_left fun kv _=>?_
 show(if kv.1=k then(kv.1,v) else kv).1=kv.1
 split<;>rfl
def iz (so:List Str) (t:Str)(os:List Str)(lk:Str→Str→Str):Str→Str→Str:=fun n z=>if n=t then lkV so (t,os) z else lk n z
end

section
variable {P:Program}{w:World}{K:PySem.W.Frag}{mg:Str→Option Value}{base:Heap}
theorem pd:∀ (a:Int×Bk)(r:List (Int×Bk)) (e:Int),(a::r).Pairwise (fun a b=>a.1 < b.1)→a.1≤e→∃ x∈a::r,x.1≤e∧(∀ y∈a::r,y.1≤e→y.1≤x.1)∧aQ (a::r) e=x.2
 | a,[],e,_,h=>⟨a,List.mem_cons_self,h,fun y hy _=>by rw[List.mem_singleton.mp hy];exact Int.le_refl _,rfl⟩
 | a,b::r,e,hp,h=>by
   have hp2:=List.pairwise_cons.mp hp
   by_cases hb:b.1≤e
   · obtain⟨x,hx,h1,h2,h3⟩:=pd b r e hp2.2 hb
     refine⟨x,List.mem_cons_of_mem _ hx,h1,fun y hy hye=>?_,?_⟩
     · rcases List.mem_cons.mp hy with rfl | hy
       · have h4:=hp2.1 b List.mem_cons_self
         have h5:=h2 b List.mem_cons_self hb
         omega
       · exact h2 y hy hye
     · show(if b.1≤e then aQ (b::r) e else a.2)=x.2
       rw[if_pos hb];exact h3
   · refine⟨a,List.mem_cons_self,h,fun y hy hye=>?_,?_⟩
     · rcases List.mem_cons.mp hy with rfl | hy
       · exact Int.le_refl _
       · rcases List.mem_cons.mp hy with rfl | hy
         · exact absurd hye hb
         · have:=(List.pairwise_cons.mp hp2.2).1 y hy;omega
     · show(if b.1≤e then aQ (b::r) e else a.2)=a.2
       rw[if_neg hb]
theorem cy.ex {ss names:List Str}{h:Hs}(ho:cy ss names h){e:Int}(he:1≤e):∃ x∈h.bk,x.1≤e∧(∀ y∈h.bk,y.1≤e→y.1≤x.1)∧aQ h.bk e=x.2:=by
 obtain⟨b1,r1,hb⟩:=ho.k1
 have hks:=ho.ks
 rw[hb] at hks ⊢
 exact pd (1,b1) r1 e hks he
theorem oU {bk:List (Int×Bk)}{d:Int}{B:Bk}:(d,B)∈cQ bk d B:=by
 unfold cQ
 split
 · rename_i h
   obtain⟨x,hx,hd⟩:=List.any_eq_true.mp h
   have hd:=of_decide_eq_true hd
   exact List.mem_map.mpr ⟨x,hx,by rw[if_pos hd,hd]⟩
 · exact List.mem_append_right _ List.mem_cons_self
theorem rj {bk:List (Int×Bk)}{d:Int}{B:Bk}{x:Int×Bk}(hx:x∈bk)(hd:x.1≠d):x∈cQ bk d B:=by
 unfold cQ
 split
 · exact List.mem_map.mpr ⟨x,hx,by rw[if_neg hd]⟩
 · exact List.mem_append_left _ hx
theorem sP {ss names:List Str}{h:Hs}{d:Int}{B:Bk}(ho:cy ss names h)(ho2:cy ss names { h with day:=d,bk:=cQ h.bk d B }){e:Int}(he:1≤e):aQ (cQ h.bk d B) e=if d≤e then B else aQ h.bk e:=by
 have hks:(cQ h.bk d B).Pairwise (fun a b=>a.1 < b.1):=ho2.ks
 by_cases hde:d≤e
 · rw[if_pos hde]
   exact ie _ e d B hks oU hde (fun x hx _=>(ho2.kd x hx).2)
 · rw[if_neg hde]
   obtain⟨x,hx,h1,h2,h3⟩:=ho.ex he
   rw[h3]
   refine ie _ e x.1 x.2 hks (rj hx (by omega)) h1 (fun y hy hye=>?_)
   rcases iL hy with rfl | hy
   · exact absurd hye hde
   · exact h2 y hy hye
theorem lq {ss names:List Str}{h:Hs}(ho:cy ss names h){e:Int}(he:h.day≤e):aQ h.bk e=aQ h.bk 400:=by
 have hd1:=ho.d1
 have hd4:=ho.d4
 obtain⟨x,hx,h1,h2,h3⟩:=ho.ex (e:=e) (by omega)
 rw[h3]
 refine(ie _ 400 x.1 x.2 ho.ks hx ?_ fun y hy _=>h2 y hy ?_).symm
 · have:=(ho.kd x hx).2;omega
 · have:=(ho.kd y hy).2;omega
theorem vx {ss so ns:List Str}{bs:List (Str×List Str)}{t:Str}{os:List Str}(B:aR ss bs)(CI:kh ss so ns bs)(B2:aR so (ns.map (chB ss so bs t os))){n z:Str}(hn:n∈ns)(hz:z∈so):lkB so (ns.map (chB ss so bs t os)) n z=if n=t then lkV so (t,os) z else lkB ss bs n z:=by
 have h1:=f7 (ss:=so) z B2.bnd (List.mem_map_of_mem (f:=chB ss so bs t os) hn)
 exact h1.trans (uG B CI hz)
theorem wX {ss names so so2 ns:List Str}{h:Hs}{bs:List (Str×List Str)}(ho:cy ss names h)(hn:ss.Nodup)(hp:so.Perm ss)(ht:PyProof.Rows.sortedS so=true)(CI:kh (aQ h.bk 400).1 so2 ns bs):so2=so:=by
 obtain⟨B,_,hZ⟩:=ho.on 400
 have hp2:(aQ h.bk 400).1.Perm ss:=(List.perm_ext_iff_of_nodup B.snd hn).mpr hZ
 exact gi CI.ts ht (CI.ps.trans (hp2.trans hp.symm))
theorem iZ {ss names:List Str}{h:Hs}(ho:cy ss names h)(hn:ss.Nodup) (d:Int):(aQ h.bk d).1.Perm ss:=by
 obtain⟨B,_,hZ⟩:=ho.on d
 exact(List.perm_ext_iff_of_nodup B.snd hn).mpr hZ
theorem g0 {H:Hp}{A:Ad}{b:Addr}{o:HO}(h:H b=some o)(b1:b≠A.x)(b2:b≠A.d1)(b3:b≠A.ls)(b4:b≠A.db):hid H A b=some o:=by
 unfold hid;rw[if_neg (fun z=>by rcases z with z | z | z | z;exact b1 z;exact b2 z;exact b3 z;exact b4 z)];exact h
theorem f8 {H H':Hp}{C CB:Addr}{A:Ad}{W:Hp}{ss:List Str}{h:Hs}{b:Addr}{o:HO}(hh:ba H C CB A W ss h)(hb:H b=none)(h':H' b=some o):hid H' A b=some o:=by
 obtain⟨_,hls,_⟩:=hh.dp
 obtain⟨_,hdb,_⟩:=hh.bk
 exact g0 h' (fun z=>by rw[z,hh.ins] at hb;cases hb) (fun z=>by rw[z,hh.cl] at hb;cases hb) (fun z=>by rw[z,hls] at hb;cases hb) (fun z=>by rw[z,hdb] at hb;cases hb)
theorem t4 {H:Hp}{C CB:Addr}{A:Ad}{W:Hp}{ss:List Str}{h:Hs}{b:Addr}{xs:List V}(hh:ba H C CB A W ss h)(hb:H b=some (.tup xs)):hid H A b=some (.tup xs):=by
 obtain⟨_,hls,_⟩:=hh.dp
 obtain⟨_,hdb,_⟩:=hh.bk
 exact g0 hb (fun z=>by rw[z,hh.ins] at hb;cases hb) (fun z=>by rw[z,hh.cl] at hb;cases hb) (fun z=>by rw[z,hls] at hb;cases hb) (fun z=>by rw[z,hdb] at hb;cases hb)
end

section
variable {P:Program}{w:World}{K:PySem.W.Frag}{mg:Str→Option Value}{base:Heap}
def lw (K:PySem.W.Frag)(C:Addr):Sp:=fun vs H Q _=>∃ (l lb:Addr)(ss:List Str)(bs:List (Str×List Str)),vs=[.ref l,.ref lb]∧SqL K H l (ss.map V.str)∧ik H lb bs∧aR ss bs∧∀ x H',H x=none→ae H H'→ck (dJ H H') C x ss bs→Q (.ref x) H'
theorem oV {C f fI cB:Addr}{fd fdI:FuncData}(F:Fun K "_law_handed" "_law_handed" gD f fd)(T:Txt mg)(M:Mk K C fI)(GI:au P w K mg base (CX1 P w) 4 fI fdI ["self", "shades", "baths"] (l9 K C cB))(bI:aE K fdI ["self", "shades", "baths"] [])(mC:mg "Book"=some (.ref C)) :
   au P w K mg base CX0 6 f fd ["_law_shades", "_law_baths"] (lw K C):=by
 refine F.ok sM (fun vs H Q E h=>?_) (fun cdv A outer s H vs Q E hr h=>?_)
 · obtain⟨_,_,_,_,rfl,_⟩:=h
   rfl
 · obtain⟨l,lb,ss,bs,rfl,hl,⟨ps,hlb,hpl,hB⟩,B,q⟩:=h
   refine⟨_,ai (az (lT M GI hr rfl mC bI .nil il (aa (bw fR (by rfl) T.list (by decide +kernel) (aa (pv 0) ac)) (aa (er (N':=["_law_title", "_law_outs_here"]) (pk:=[none,none]) rfl (cV.of (by rfl)) (br (pv 1))
       (fun s H ex=>(dS (n:=2) rfl (aX (ap (i:=0) (by show(["_law_title", "_law_outs_here"]:List Str).Nodup;decide +kernel) rfl (Or.inl rfl)) (aX (ap (i:=1) (by show(["_law_title", "_law_outs_here"]:List Str).Nodup;decide +kernel) rfl (Or.inl rfl)) dm)):PG _ _ (ng K 2 (dq (cP 0) (dq (cP 1) me)))))
       (fun s H ex=>ed (aa (pv 0) (aa (bw (fR:cX _ (.type "list") (fun xs H Q=>∃ p ys,xs=[.ref p]∧(SqL K H p ys∨SqT K H p ys)∧∀ l,H l=none→Q (.ref l) (upd H l (.lst ys)))) (by rfl) T.list (by decide +kernel) (aa (pv 1) ac)) ac)))) ac)))),?_⟩
   have hs:=bi
   have hb8:=B.b8
   walk_at "dm"
   refine⟨_,.inl hl,fun l2 hl2=>?_⟩
   have Sa:ae H (upd H l2 (.lst (ss.map V.str))):=ae.updN hl2
   refine⟨⟨_,SqL.of (Sa _ _ hlb)⟩,fun D hD=>?_⟩
   generalize hG:upd H l2 (.lst (ss.map V.str))=G at Sa hD
   have hGl:G l2=some (.lst (ss.map V.str)):=by rw[←hG];exact ad
   refine pA (H0:=G) (aJ (SqL.of (Sa _ _ hlb))) (by rw[List.length_map];omega) (fun i xs σ' H'=>(∃ o1 o2,σ'=[o1,o2])∧ae G H'∧H' D=some (.lst xs)∧∃ qs:List Addr,xs=qs.map V.ref∧qs.length=i∧∀ (j:Nat) p b,qs[j]?=some p→bs[j]?=some b→k6 (hide H' D) p b)
     ⟨⟨none,none,rfl⟩,ae.updN hD,ad,[],rfl,rfl,(by intro j p b h;simp at h)⟩ (fun i xs σ' H' ⟨_,h1,_,qs,h2,h3,_⟩=>⟨h1,by rw[h2,List.length_map];exact h3⟩) ?_ ?_
   · rintro i xs σ' H' x hi hx ⟨⟨o1,o2,rfl⟩,hS,hHD,qs,rfl,hql,hqB⟩ R hR
     rw[List.getElem?_map] at hx
     obtain⟨p,hp,rfl⟩:=Option.map_eq_some_iff.mp hx
     obtain⟨b,hb⟩:∃ b,bs[i]?=some b:=⟨_,List.getElem?_eq_getElem (by rw[List.length_map] at hi;omega)⟩
     obtain⟨lo,ht,hlo⟩:=hB i p b hp hb
     refine e6 (hS _ _ (Sa _ _ ht)) ?_
     walk_at "dm"
     refine⟨_,.inl (SqL.of (hS _ _ (Sa _ _ hlo))),fun l3 hl3=>⟨by omega,fun t ht3=>?_⟩⟩
     have S3:ae H' (upd H' l3 (.lst (b.2.map V.str))):=ae.updN hl3
     have ht':H' t=none:=S3.free ht3
     have S4:=S3.step (o:=.tup [.str b.1,.ref l3]) ht'
     have hl3D:l3≠D:=fun e=>by rw[e,hHD] at hl3;cases hl3
     have htD:t≠D:=fun e=>by rw[e,hHD] at ht';cases ht'
     have hl3t:l3≠t:=fun e=>by rw[←e,ad] at ht3;cases ht3
     refine hR _ _ _ (S4 _ _ hHD) ⟨⟨_,_,rfl⟩,(hS.trans S4).step hD,ad,qs++[t],by rw[List.map_append];rfl,by rw[List.length_append,hql];rfl,fun j p2 b2 hp2 hb2=>?_⟩
     rw[d7]
     by_cases hj:j < i
     · rw[List.getElem?_append_left (by omega)] at hp2
       exact ae.bthAt (ae.hide S4) (hqB j p2 b2 hp2 hb2)
     · have hj2:j=i:=by
         have:=(List.getElem?_eq_some_iff.mp hp2).1
         rw[List.length_append,hql] at this
         simp only[List.length_singleton] at this
         omega
       subst hj2
       rw[List.getElem?_append_right (by omega),hql,Nat.sub_self] at hp2
       cases hp2
       rw[hb] at hb2
       cases hb2
       refine⟨l3,?_,?_⟩
       · rw[bP htD];exact ad
       · rw[bP hl3D,ag hl3t];exact ad
   · rintro xs σ' H' ⟨_,hS,hHD,qs,rfl,hql,hqB⟩ x dx hx hdx hne
     rw[List.length_map,hpl] at hql
     have S5:ae H' (upd (upd H' dx (.own x)) x (.ins C dx [])):=(ae.updN hdx).step hx
     have S6:ae H' (hide (upd (upd H' dx (.own x)) x (.ins C dx [])) x):=fun y o e=>by
       rw[bP (aw e hx)];exact S5 y o e
     refine⟨x,dx,l2,D,ss,bs,rfl,ad,SqL.of (S5 _ _ (hS _ _ hGl)),⟨qs,S5 _ _ hHD,hql,fun j p b hp hb=>ae.bthAt (cz.trans S5) (hqB j p b hp hb)⟩,B.txt,fun _ H2 S2 hbk=>⟨rfl,?_⟩,fun hn=>absurd B hn⟩
     exact q x H2 ((Sa.trans hS).free hx) (((Sa.trans hS).trans S6).trans S2) (ae.book (g6 ((Sa.trans hS).trans S6)) hbk)
def ve (H:Hp)(d:Addr)(ss:List Str)(bs:List (Str×List Str)):Prop :=
 ∃ ds:List Addr,H d=some (.dK (bj (bs.map (·.1)) (ds.map V.ref)))∧ds.length=bs.length∧∀ (i:Nat) r b,ds[i]?=some r→bs[i]?=some b→hide H d r=some (.dK (hJ ss b))
def kY (K:PySem.W.Frag):Sp:=fun vs H Q _=>∃ (l lb:Addr)(ss:List Str)(bs:List (Str×List Str)),vs=[.ref l,.ref lb]∧SqL K H l (ss.map V.str)∧ik H lb bs∧aR ss bs ∧
 ∀ d H',H d=none→ae H H'→ve H' d ss bs→Q (.ref d) H'
theorem o0 {f:Addr}{fd:FuncData}(F:Fun K "_law_tables" "_law_tables" fw f fd)(T:Txt mg):au P w K mg base CX0 1 f fd ["_law_shades", "_law_baths"] (kY K):=by
 refine F.ok gj (fun vs H Q E h=>?_) (fun cdv A outer s H vs Q E hr h=>?_)
 · obtain⟨_,_,_,_,rfl,_⟩:=h
   rfl
 · obtain⟨l,lb,ss,bs,rfl,hl,hb,B,q⟩:=h
   have hu:(cJ CX0 P w K mg base ["_law_shades", "_law_baths", "_law_tables_here", "_law_title", "_law_outs_here", "_law_k"] "_law_tables" (af fw) f cdv A outer s H E).A.units+1 < cLine:=by
     have:=hr.units
     exact Nat.lt_of_le_of_lt (Nat.add_le_add_left (by decide) _) this
   refine⟨_,aq (aB (i:=2) gj.nd rfl (Or.inl rfl) eN)
     (aq (bu PassesOwn.never rfl (br (pv 1)) (dS (n:=2) rfl (aX (ap (i:=3) gj.nd rfl (Or.inl rfl)) (aX (ap (i:=4) gj.nd rfl (Or.inl rfl)) dm)))
       (ak (dY hu (pv 2) (pv 3) eN rfl)
       (ai (bu PassesOwn.never rfl (cu rfl T.range (aa (al ao (by rfl) T.len PySem.boot_len (aa (pv 0) ac)) ac)) (ap (i:=5) gj.nd rfl (Or.inl rfl))
         (ai (dY hu (bn hu (pv 2) (pv 3) (fun _ _=>rfl)) (bc aP (pv 0) (pv 5) (fun _ _=>rfl)) (bc aP (pv 4) (pv 5) (fun _ _=>rfl)) rfl))))))
     (ai (az (pv 2)))),?_⟩
   have hs:=bi
   walk_at "dm"
   intro d hd
   obtain⟨ps,hlb,hpl,hB⟩:=hb
   have hb8:=B.b8
   have S0:ae H (upd H d (.dK [])):=ae.updN hd
   refine⟨⟨_,SqL.of (S0 _ _ hlb)⟩,?_⟩
   refine bE (H0:=H) (aJ (SqL.of hlb)) (fun i σ' H'=>∃ (ds:List Addr)(o3 o4 o5:Option V),σ'=[some (.ref l),some (.ref lb),some (.ref d),o3,o4,o5]∧ae H H'∧H' d=some (.dK (bj ((bs.map (·.1)).take i) (ds.map V.ref))) ∧
     ds.length=i∧∀ (j:Nat) r b,ds[j]?=some r→bs[j]?=some b→hide H' d r=some (.dK (hJ ss b)))
     ⟨[],none,none,none,rfl,S0,ad,rfl,(by intro j r b h;simp at h)⟩ (fun _ _ _ _ ⟨_,_,_,_,_,h,_⟩=>h) ?_ ?_
   · rintro i x σ H' hi hx ⟨ds,o3,o4,o5,rfl,hS,hH,hdl,hD⟩
     rw[List.getElem?_map] at hx
     obtain⟨pr,hpr,rfl⟩:=Option.map_eq_some_iff.mp hx
     rw[List.length_map,hpl] at hi
     obtain⟨b,hb⟩:∃ b,bs[i]?=some b:=⟨_,List.getElem?_eq_getElem hi⟩
     obtain⟨lo,ht,hlo⟩:=hB i pr b hpr hb
     have hbm:b∈bs:=List.mem_of_getElem? hb
     have hk:(bs.map (·.1))[i]?=some b.1:=by rw[List.getElem?_map,hb];rfl
     have hnk:b.1∉(bs.map (·.1)).take i:=gg B.bnd hk
     have hln:((bs.map (·.1)).take i).length=(ds.map V.ref).length:=by rw[List.length_take,List.length_map,List.length_map,hdl];omega
     refine e6 (hS _ _ ht) ?_
     walk_at "dm"
     refine cut (fun σ' H''=>∃ r,σ'=[some (.ref l),some (.ref lb),some (.ref d),some (.str b.1),some (.ref lo),o5]∧H' r=none∧r≠d∧H''=upd (upd H' r (.dK [])) d (.dK (bj ((bs.map (·.1)).take (i+1)) ((ds++[r]).map V.ref)))) ?_ ?_
     · walk_at "dm"
       intro r hr
       have hrd:r≠d:=fun e=>by rw[e,hH] at hr;cases hr
       refine⟨_,.inl ⟨_,Sum.inr b.1,by rw[ag (Ne.symm hrd)];exact hH,rfl,by rw[eO hln,List.length_take];omega,rfl⟩,r,hr,hrd,?_⟩
       rw[dH _ (bM _ _ _ hnk),bH hk,List.map_append]
       exact congrArg (fun z=>upd (upd H' r (HO.dK [])) d (HO.dK z)) (ez b.1 (V.ref r) hln).symm
     rintro σ2 H2 ⟨r,rfl,hr,hrd,rfl⟩
     have hrH:H r=none:=hS.free hr
     generalize hG:(upd (upd H' r (.dK [])) d (.dK (bj ((bs.map (·.1)).take (i+1)) ((ds++[r]).map V.ref))))=G
     have hGr:G r=some (.dK []):=by rw[←hG,ag hrd];exact ad
     have hGd:G d=some (.dK (bj ((bs.map (·.1)).take (i+1)) ((ds++[r]).map V.ref))):=by rw[←hG];exact ad
     have SG:ae H G:=by rw[←hG];exact(hS.step hrH).step hd
     have SG':ae (hide H' d) (hide G d):=by rw[←hG,d7];exact ae.hide (ae.updN hr)
     have hval:bZ (bj ((bs.map (·.1)).take (i+1)) ((ds++[r]).map V.ref)) (Sum.inr b.1)=some (V.ref r):=by
       refine cT _ _ i _ _ (B.bnd.sublist (List.take_sublist _ _)) ?_ ?_
       · rw[List.getElem?_take,if_pos (Nat.lt_succ_self i)];exact hk
       · rw[List.getElem?_map,List.getElem?_append_right (by omega),hdl,Nat.sub_self];rfl
     have hbl:b.2.length=ss.length:=B.bln b hbm
     have hs12:=B.s12
     walk_at "dm"
     refine⟨_,.inl (SG.seq hl),?_⟩
     rw[List.length_map]
     refine⟨by omega,by omega,?_⟩
     refine bE (H0:=H) bJ (fun k σ' H''=>∃ o5,σ'=[some (.ref l),some (.ref lb),some (.ref d),some (.str b.1),some (.ref lo),o5]∧H''=upd G r (.dK (bj (ss.take k) ((b.2.take k).map V.str))))
       ⟨o5,rfl,?_⟩ (fun _ _ _ _ ⟨_,_,e⟩=>by rw[e];exact SG.step hrH) ?_ ?_
     · funext y
       by_cases e:y=r
       · rw[e,ad];exact hGr
       · rw[ag e]
     · rintro k x σ H'' hk2 rfl ⟨o5,rfl,rfl⟩
       have ek:(0:Int)+(k:Int)=k:=by omega
       rw[ek]
       have hkn:k < ss.length:=by omega
       obtain⟨sk,hsk⟩:∃ y,ss[k]?=some y:=⟨_,List.getElem?_eq_getElem hkn⟩
       obtain⟨ok,hok⟩:∃ y,b.2[k]?=some y:=⟨_,List.getElem?_eq_getElem (by omega)⟩
       have S2:ae H (upd G r (.dK (bj (ss.take k) ((b.2.take k).map V.str)))):=SG.step hrH
       have hl2:(ss.take k).length=((b.2.take k).map V.str).length:=by rw[List.length_map,List.length_take,List.length_take];omega
       walk_at "dm"
       refine⟨_,SqL.of (S2 _ _ hlo),_,dj hok,V.ref r,.inl ⟨_,Sum.inr b.1,.inl (by rw[ag (Ne.symm hrd)];exact hGd),rfl,hval.symm⟩,_,S2.seq hl,_,dj hsk,r,rfl,_,.inl ⟨_,Sum.inr sk,ad,rfl,by rw[eO hl2,List.length_take];omega,rfl⟩,?_⟩
       rw[gE,dH _ (bM _ _ _ (gg B.snd hsk)),bH hsk,bH hok,List.map_append]
       exact congrArg (fun z=>upd G r (HO.dK z)) (ez sk (V.str ok) hl2).symm
     · rintro σ H'' ⟨o5,rfl,rfl⟩
       have e1:ss.take ((ss.length:Int)).toNat=ss:=by rw[Int.toNat_natCast,List.take_length]
       have e2:b.2.take ((ss.length:Int)).toNat=b.2:=by rw[Int.toNat_natCast,←hbl,List.take_length]
       rw[e1,e2]
       refine⟨⟨_,_,_,rfl⟩,SG.step hrH,ds++[r],by rw[ag (Ne.symm hrd)];exact hGd,by rw[List.length_append,hdl];rfl,fun j r2 b2 hr2 hb2=>?_⟩
       by_cases hj:j < i
       · rw[List.getElem?_append_left (by omega)] at hr2
         have h1:=SG' _ _ (hD j r2 b2 hr2 hb2)
         have h2:H' r2=some (.dK (hJ ss b2)):=cz _ _ (hD j r2 b2 hr2 hb2)
         have hne:r2≠r:=fun e=>by rw[e,hr] at h2;cases h2
         unfold hide at h1 ⊢
         by_cases e:r2=d
         · rw[if_pos e] at h1;cases h1
         · rw[if_neg e] at h1 ⊢;rw[ag hne];exact h1
       · have hj2:j=i:=by
           have:=(List.getElem?_eq_some_iff.mp hr2).1
           rw[List.length_append,hdl] at this
           simp only[List.length_singleton] at this
           omega
         subst hj2
         rw[List.getElem?_append_right (by omega),hdl,Nat.sub_self] at hr2
         cases hr2
         rw[hb] at hb2
         cases hb2
         rw[bP hrd,ad]
         rfl
   · rintro σ H' ⟨ds,o3,o4,o5,rfl,hS,hH,hdl,hD⟩
     rw[List.length_map,hpl] at hH hdl
     walk_at "dm"
     refine q d H' hd hS ⟨ds,?_,hdl,fun j r b hr hb=>hD j r b hr hb⟩
     rw[hH,List.take_of_length_le (by rw[List.length_map];exact Nat.le_refl _)]
end

section
variable {P:Program}{w:World}{K:PySem.W.Frag}{mg:Str→Option Value}{base:Heap}
theorem lZ {h:Hs}{d e:Int}(hd:∀ x∈h.dp,x.1≤d)(he:d≤e) (c:Str):bR h c e=bR h c d:=by
 have:cx h.dp c e=cx h.dp c d:=by
   unfold cx
   congr 1
   refine List.filter_congr fun x hx=>?_
   have:=hd x hx
   rw[decide_eq_true (show x.1≤e by omega),decide_eq_true this]
 unfold bR
 rw[this]
theorem oX {H:Hp}{A:Ad}{x:Addr}{u o:HO}(h:hid H A x=some u):hid (upd H x o) A=upd (hid H A) x o:=l7 (dU h).2.1 (dU h).2.2.1 (dU h).2.2.2.1 (dU h).2.2.2.2
theorem nM {B0 G:Hp}{x:Addr}{o:HO}(S:ae B0 G)(h:B0 x=none):ae B0 (upd G x o):=fun b u e=>by
 rw[ag (fun z=>by rw[z,h] at e;cases e)];exact S _ _ e
theorem rV {ws:List Str} (i:Int)(h:0 < ws.length):∃ y∈ws,atI (ws.map V.str) (i % ((ws.length:Nat):Int))=some (V.str y):=by
 have hm0:=Int.emod_nonneg i (show((ws.length:Nat):Int)≠0 by omega)
 have hm1:=Int.emod_lt_of_pos i (show(0:Int) < (ws.length:Nat) by omega)
 obtain⟨j,hj⟩:=Int.eq_ofNat_of_zero_le hm0
 obtain⟨y,hy⟩:∃ z,ws[j]?=some z:=⟨_,List.getElem?_eq_getElem (by omega)⟩
 exact⟨y,List.mem_of_getElem? hy,by rw[hj];exact dj hy⟩
theorem wa {xs:List Int}{k n:Nat}(h:k+n≤xs.length):mf (xs.map V.int) (some (k:Int)) (some ((k:Int)+(n:Int)))=((xs.drop k).take n).map V.int:=by
 unfold mf
 have e:(k:Int)+(n:Int)=((k+n:Nat):Int):=by omega
 rw[e,HT.sIx_nat,HT.sIx_nat,List.length_map,show min k xs.length=k by omega,show min (k+n) xs.length=k+n by omega,Nat.add_sub_cancel_left,List.map_take,List.map_drop]
theorem rH {H:Hp}{A:Ad}{b:Addr}(h:H b=none):hid H A b=none:=by
 unfold hid
 split
 · rfl
 · exact h
theorem sS {K:PySem.W.Frag}{H:Hp}{lo d:Addr}{xs:List V}{kv:List (Key×V)}{o:HO}(h:SqL K H lo xs)(hd:H d=some (.dK kv)):SqL K (upd H d o) lo xs:=by
 rcases h with h | h
 · refine .inl ?_
   have hn:lo≠d:=fun e=>by
     rcases h with h | ⟨u,h⟩<;>(rw[e,hd] at h;cases h)
   rcases h with h | ⟨u,h⟩
   · exact .inl (by rw[ag hn];exact h)
   · exact .inr ⟨u,by rw[ag hn];exact h⟩
 · exact .inr h
theorem iC {H:Hp}{d:Addr}:hide H d d=none:=by unfold hide;rw[if_pos rfl]
theorem rE {K:PySem.W.Frag}{H:Hp}{d a:Addr}{xs:List V}{kv:List (Key×V)}(h:SqL K H a xs)(hd:H d=some (.dK kv)):SqL K (hide H d) a xs:=by
 rcases h with h | h
 · refine .inl ?_
   have hn:a≠d:=fun e=>by
     rcases h with h | ⟨u,h⟩<;>(rw[e,hd] at h;cases h)
   rcases h with h | ⟨u,h⟩
   · exact .inl (by rw[bP hn];exact h)
   · exact .inr ⟨u,by rw[bP hn];exact h⟩
 · exact .inr h
theorem qv {ss ns so ns2 os:List Str}{h:Hs}{day:Int}{t:Str}{lk:Str→Str→Str}(ho:cy ss ns h)(hd4:day≤400)(bv:∀ n∈ns,∀ z∈ss,lkB (aQ h.bk 400).1 (aQ h.bk 400).2 n z=lk n z)(CI:kh (aQ h.bk 400).1 so ns2 (aQ h.bk 400).2)(B2:aR so (ns2.map (chB (aQ h.bk 400).1 so (aQ h.bk 400).2 t os)))
   (ho2:cy ss ns { h with day:=day,bk:=cQ h.bk day (so,ns2.map (chB (aQ h.bk 400).1 so (aQ h.bk 400).2 t os)) }):∀ n∈ns,∀ z∈ss,lkB (aQ (cQ h.bk day (so,ns2.map (chB (aQ h.bk 400).1 so (aQ h.bk 400).2 t os))) 400).1 (aQ (cQ h.bk day (so,ns2.map (chB (aQ h.bk 400).1 so (aQ h.bk 400).2 t os))) 400).2 n z=iz so t os lk n z:=fun n hn z hz=>by
 obtain⟨B,hN,hZ⟩:=ho.on 400
 rw[sP ho ho2 (by decide),if_pos hd4]
 refine(vx B CI B2 (n:=n) (z:=z) (CI.pn.mem_iff.mpr ((hN n).mpr hn)) (CI.ps.mem_iff.mpr ((hZ z).mpr hz))).trans ?_
 unfold iz
 by_cases c:n=t
 · rw[if_pos c,if_pos c]
 · rw[if_neg c,if_neg c];exact bv n hn z hz
abbrev clo:Str:=Str.ofString "cloth"
structure gk (G W:Hp)(tb:Addr)(ss ns:List Str)(lk:Str→Str→Str):Prop where
 htb:∃ kvs,G tb=some (.dK kvs)∧kvs.map (·.1)=ns.map Sum.inr∧∀ n∈ns,∃ r kv,bZ kvs (Sum.inr n)=some (.ref r)∧G r=some (.dK kv)∧r≠tb∧∀ z∈ss,bZ kv (Sum.inr z)=some (.str (lk n z))
 wtb:W tb=none
section
variable {G G' W W' H:Hp}{tb:Addr}{ss ns:List Str}{lk:Str→Str→Str}
theorem gk.same (L:gk G W tb ss ns lk)(S:ae G G'):gk G' W tb ss ns lk:=by
 obtain⟨kvs,h1,h2,h3⟩:=L.htb
 refine⟨⟨kvs,S _ _ h1,h2,fun n hn=>?_⟩,L.wtb⟩
 obtain⟨r,kv,e1,e2,e3⟩:=h3 n hn
 exact⟨r,kv,e1,S _ _ e2,e3⟩
theorem gk.grows (L:gk G W tb ss ns lk)(S:ae G H)(g:∀ b o,W b=none→H b=some o→W' b=none):gk G W' tb ss ns lk:=by
 obtain⟨kvs,h1,h2,h3⟩:=L.htb
 exact⟨⟨kvs,h1,h2,h3⟩,g _ _ L.wtb (S _ _ h1)⟩
theorem gk.tabG (L:gk G W tb ss ns lk):gN G tb ss ns lk:=by
 obtain⟨kvs,h1,h2,h3⟩:=L.htb
 refine⟨kvs,.inl h1,h2,fun n hn=>?_⟩
 obtain⟨r,kv,e1,e2,_,e3⟩:=h3 n hn
 exact⟨r,kv,e1,.inl e2,e3⟩
theorem gk.put {r:Addr}{t:Str}{so os:List Str}{kvs:List (Key×V)}(L:gk G W tb ss ns lk)(hr:G r=none)(hkv:G tb=some (.dK kvs))(ht:t∈ns)(hpm:so.Perm ss)(hnd:so.Nodup)(hol:os.length=so.length)
   (h1:G' tb=some (.dK (cK kvs (Sum.inr t) (.ref r))))(h2:G' r=some (.dK (bj so (os.map V.str))))(h3:∀ b o,b≠tb→G b=some o→G' b=some o):gk G' W tb ss ns (iz so t os lk):=by
 obtain⟨kv2,e1,e2,e3⟩:=L.htb
 rw[hkv] at e1
 cases e1
 have hrt:r≠tb:=fun z=>by rw[z,hkv] at hr;cases hr
 refine⟨⟨_,h1,?_,fun n hn=>?_⟩,L.wtb⟩
 · obtain⟨r0,kv0,e0,_⟩:=e3 t ht
   rw[tD (by rw[e0];rfl),e2]
 · by_cases c:n=t
   · subst c
     refine⟨r,_,by rw[jp,if_pos rfl],h2,hrt,fun z hz=>?_⟩
     unfold iz
     rw[if_pos rfl]
     exact lF (b:=(n,os)) hnd hol (hpm.mem_iff.mpr hz)
   · obtain⟨r1,kv1,f1,f2,f4,f5⟩:=e3 n hn
     refine⟨r1,kv1,by rw[jp,if_neg (fun e=>c (Sum.inr.inj e))];exact f1,h3 _ _ f4 f2,f4,fun z hz=>?_⟩
     unfold iz
     rw[if_neg c]
     exact f5 z hz
theorem gk.new {bs:List (Str×List Str)}(B:aR ss bs){ds:List Addr}(h1:G tb=some (.dK (bj (bs.map (·.1)) (ds.map V.ref))))(h2:ds.length=bs.length)(h3:∀ (i:Nat) r b,ds[i]?=some r→bs[i]?=some b→hide G tb r=some (.dK (hJ ss b)))(w2:W tb=none):gk G W tb ss (bs.map (·.1)) (lkB ss bs):=by
 refine⟨⟨_,h1,gI (by rw[List.length_map,List.length_map,h2]),fun n hn=>?_⟩,w2⟩
 obtain⟨b,hb,rfl⟩:=List.mem_map.mp hn
 obtain⟨i,hi⟩:=List.getElem?_of_mem hb
 have hil:i < ds.length:=by rw[h2];exact(List.getElem?_eq_some_iff.mp hi).1
 have hrr:=List.getElem?_eq_getElem hil
 have h4:=h3 i _ b hrr hi
 have hnt:ds[i]≠tb:=fun e=>by rw[e,iC] at h4;cases h4
 refine⟨ds[i],_,cT _ _ i _ _ B.bnd (by rw[List.getElem?_map,hi];rfl) (by rw[List.getElem?_map,hrr];rfl),cz _ _ h4,hnt,fun z hz=>?_⟩
 rw[f7 z B.bnd hb]
 exact lF B.snd (B.bln b hb) hz
end
structure J39 (H B0:Hp)(CH CB:Addr)(A0:Ad)(W:Hp)(tb:Addr)(ss ns:List Str) (fi:Str) (day dipped:Int) (h:Hs) (at_:Str)(lk:Str→Str→Str):Prop where
 S:ae B0 (hid H A0)
 nb:B0 tb=none
 hh:ba H CH CB A0 W ss h
 ho:cy ss ns h
 tm:gk (hid H A0) W tb ss ns lk
 cl:h.cl=[(clo,fi)]
 d0:h.day≤day
 d1:1≤day
 dd:∀ e∈h.dp,e.1≤dipped
 ddd:dipped≤day
 av:bR h clo day=at_
 am:at_∈ss
 bv:∀ n∈ns,∀ z∈ss,lkB (aQ h.bk 400).1 (aQ h.bk 400).2 n z=lk n z
theorem J39.same {H H' B0:Hp}{CH CB:Addr}{A0:Ad}{W:Hp}{tb:Addr}{ss ns:List Str}{fi:Str}{day dipped:Int}{h:Hs}{at_:Str}{lk:Str→Str→Str}(J:J39 H B0 CH CB A0 W tb ss ns fi day dipped h at_ lk)(S:ae H H'):J39 H' B0 CH CB A0 W tb ss ns fi day dipped h at_ lk :=
 ⟨J.S.trans (dI S),J.nb,ae.house S J.hh,J.ho,J.tm.same (dI S),J.cl,J.d0,J.d1,J.dd,J.ddd,J.av,J.am,J.bv⟩
theorem J39.later {H B0:Hp}{CH CB:Addr}{A0:Ad}{W:Hp}{tb:Addr}{ss ns:List Str}{fi:Str}{day day2 dipped:Int}{h:Hs}{at_:Str}{lk:Str→Str→Str}(J:J39 H B0 CH CB A0 W tb ss ns fi day dipped h at_ lk)(hd:day≤day2):J39 H B0 CH CB A0 W tb ss ns fi day2 dipped h at_ lk :=
 ⟨J.S,J.nb,J.hh,J.ho,J.tm,J.cl,Int.le_trans J.d0 hd,Int.le_trans J.d1 hd,J.dd,Int.le_trans J.ddd hd,(lZ (fun x hx=>Int.le_trans (J.ho.dd x hx).2 J.d0) hd clo).trans J.av,J.am,J.bv⟩
def pi (K:PySem.W.Frag)(CH CB:Addr):Sp:=fun vs H Q _=>∃ (A:Ad)(W B0:Hp)(a lo tb:Addr)(ss ns so:List Str)(sc:List Int) (fi:Str) (h:Hs)(lk:Str→Str→Str),vs=[.ref A.x,.ref a,.ref lo,.ref tb,.str fi]∧J39 H B0 CH CB A W tb ss ns fi 1 0 h fi lk∧h.dp=[]∧SqL K B0 a (sc.map V.int)∧sc.length≤63∧B0 lo=some (.lst (so.map V.str))∧so.Perm ss∧PyProof.Rows.sortedS so=true∧ss.Nodup∧1≤ss.length∧ss.length≤12∧ns.Nodup∧ns.length≤8∧(∀ n∈ns,Shw n)∧(∀ z∈ss,Shw z)∧∀ t H' W' h' day dipped at_ lk',J39 H' B0 CH CB A W' tb ss ns fi day dipped h' at_ lk'→h'.dp.length≤12→day≤25→H' t=some (.tup [.int day,.str at_])→Q (.ref t) H'
theorem de:aG ["_law_house", "_law_script", "_law_order", "_law_tables_here", "_law_at_here", "_law_day", "_law_dipped", "_law_titles", "_law_mixed", "_law_k", "_law_drawn_here", "_law_bath", "_law_outs_here", "_law_j"] ["_law_house", "_law_script", "_law_order", "_law_tables_here", "_law_at_here"] (af gS):=⟨rfl,rfl,rfl,by decide +kernel,rfl,by decide +kernel,by decide +kernel⟩
theorem sJ {f fHQ fHG fA fD:Addr}{fd fdHQ fdHG fdA fdD:FuncData}{CH CB cFu cNC cNB cBB cND cLa:Addr}(F:Fun K "_law_lived" "_law_lived" gS f fd)
   (T:Txt mg)(hX:Hx K mg CH)
   (GHQ:au P w K mg base (CX1 P w) 5 fHQ fdHQ ["self", "cloth", "bath", "day"] (lG CH CB cNC cNB cND cLa cFu))(hmHQ:bW K CH "dip" fHQ)(bHQ:aE K fdHQ ["self", "cloth", "bath", "day"] [])
   (GHG:au P w K mg base (CX1 P w) 7 fHG fdHG ["self", "bath", "outs", "day"] (k9 K CH CB cNB cBB cND cLa))(hmHG:bW K CH "change" fHG)(bHG:aE K fdHG ["self", "bath", "outs", "day"] [])
   (GA:au P w K mg base CX0 1 fA fdA ["_law_script", "_law_k"] (nU K))(kA:PySem.W.keepIn K (.ref fA)=true)(bA:aE K fdA ["_law_script", "_law_k"] [])(mA:mg "_law_at"=some (.ref fA))
   (GD:au P w K mg base CX0 1 fD fdD ["_law_cell", "_law_many", "_law_bound", "_law_mixed"] ia)(kD:PySem.W.keepIn K (.ref fD)=true)(bD:aE K fdD ["_law_cell", "_law_many", "_law_bound", "_law_mixed"] [])(mD:mg "_law_draws"=some (.ref fD)) :
   au P w K mg base CX0 8 f fd ["_law_house", "_law_script", "_law_order", "_law_tables_here", "_law_at_here"] (pi K CH CB):=by
 refine F.ok de (fun vs H Q E h=>?_) (fun cdv A outer s H vs Q E hr h=>?_)
 · obtain⟨_,_,_,_,_,_,_,_,_,_,_,_,_,rfl,_⟩:=h
   rfl
 · obtain⟨A0,W,B0,a,lo,tb,ss,ns,so,sc,fi,h,lk,rfl,J0,hdp0,ha,hsl,hlo,hpm,hst,hsn,hs1,hs12,hnn,hn8,hnS,hsS,q⟩:=h
   have hu:(cJ CX0 P w K mg base ["_law_house", "_law_script", "_law_order", "_law_tables_here", "_law_at_here", "_law_day", "_law_dipped", "_law_titles", "_law_mixed", "_law_k", "_law_drawn_here", "_law_bath", "_law_outs_here", "_law_j"] "_law_lived" (af gS) f cdv A outer s H E).A.units+1 < cLine:=by
     have:=hr.units
     exact Nat.lt_of_le_of_lt (Nat.add_le_add_left (by decide) _) this
   have cH:=hX.c
   have hr1:=hr.mono (j:=1) (by omega)
   have hr5:=hr.mono (j:=5) (by omega)
   have hr7:=hr.mono (j:=7) (by omega)
   refine⟨_,(ak (aB (i:=5) de.nd rfl (Or.inl rfl) aj)
     (ak (aB (i:=6) de.nd rfl (Or.inl rfl) aj)
     (ak (aB (i:=7) de.nd rfl (Or.inl rfl) (al (dG rfl) (by rfl) T.sorted (by decide +kernel) (aa (pv 3) ac)))
     (ak (aB (i:=8) de.nd rfl (Or.inl rfl) (aH bK (ay GA hr1 rfl mA kA bA .nil aZ (aa (pv 1) (aa aj ac))) aj))
     (ak (bu PassesOwn.never rfl (cu rfl T.range (aa (al (fk rfl) (by rfl) T.min (by decide +kernel) (aa (aH fr aj (al (fk rfl) (by rfl) T.min (by decide +kernel) (aa aj (aa (al ao (by rfl) T.len PySem.boot_len (aa (pv 7) ac)) ac)))) (aa (al ao (by rfl) T.len PySem.boot_len (aa (pv 1) ac)) ac))) ac)) (ap (i:=9) de.nd rfl (Or.inl rfl)) (ak (aB (i:=10) de.nd rfl (Or.inl rfl) (ay GD hr1 rfl mD kD bD .nil aZ (aa (aH b9 (bc aP (pv 1) (pv 9) (fun _ _=>rfl)) (aH fr (aH fr aj (pv 9)) (pv 8))) (aa aj (aa aj (aa (pv 8) ac))))))
     (ak (aB (i:=5) de.nd rfl (Or.inl rfl) (aH b9 (pv 5) (aH bK (bc aP (pv 10) aj (fun _ _=>rfl)) aj)))
     (ak (aB (i:=11) de.nd rfl (Or.inl rfl) (bc aP (pv 7) (aH bK (bc aP (pv 10) aj (fun _ _=>rfl)) (al ao (by rfl) T.len PySem.boot_len (aa (pv 7) ac))) (fun _ _=>rfl)))
     (ai (aV (PW.pt (oM (ax dt (aH bK (bc aP (pv 10) aj (fun _ _=>rfl)) aj) aj (aK _)) (lP (ax lg (pv 5) (pv 6) (aK _))))) (aq (lK (i:=12) (N':=["_law_one", "_law_order"]) (pk:=[none,some 2]) de.nd rfl (Or.inl rfl) rfl (cV.of (by rfl)) (br (gl p9 (pv 10) (gG aj) (gG (aH b9 aj (al ao (by rfl) T.len PySem.boot_len (aa (pv 2) ac)))))) (fun s H ex=>(ap (i:=0) (by show(["_law_one", "_law_order"]:List Str).Nodup;decide +kernel) rfl (Or.inl rfl))) (fun s H ex=>(bc (aP:IxR _ (re K)) (pv 1) (aH bK (pv 0) (al (ao:cX _ (.builtin "len") (fun xs H Q=>∃ p ys,xs=[.ref p]∧(SqL K H p ys∨SqT K H p ys)∧Q (.int (ys.length:Nat)) H)) (by rfl) T.len PySem.boot_len (aa (pv 1) ac))) (fun _ _=>rfl))))
     (aq (aW (bq (pv 0) cH hmHG GHG hr7 bHG .nil il (aa (pv 11) (aa (pv 12) (aa (pv 5) ac)))))
     (aq (dY hu (pv 3) (pv 11) eN rfl)
     (ai (bu PassesOwn.never rfl (cu rfl T.range (aa (al ao (by rfl) T.len PySem.boot_len (aa (pv 2) ac)) ac)) (ap (i:=13) de.nd rfl (Or.inl rfl)) (ai (dY hu (bn hu (pv 3) (pv 11) (fun _ _=>rfl)) (bc aP (pv 2) (pv 13) (fun _ _=>rfl)) (bc aP (pv 12) (pv 13) (fun _ _=>rfl)) rfl))))))) (aq (aW (bq (pv 0) cH hmHQ GHQ hr5 bHQ .nil il (aa bQ (aa (pv 11) (aa (pv 5) ac)))))
     (aq (aB (i:=4) de.nd rfl (Or.inl rfl) (bn hu (bn hu (pv 3) (pv 11) (fun _ _=>rfl)) (pv 4) (fun _ _=>rfl)))
     (ai (aB (i:=6) de.nd rfl (Or.inl rfl) (pv 5)))))))))))
     (ai (az (ed (aa (pv 5) (aa (pv 4) ac)))))))))),?_⟩
   have hs:=bi
   have lk0:∀ {m:Str}{dd:Int},(m==Str.ofString "first_shades")=false→(m==Str.ofString "day_now")=false→(m==Str.ofString "standing")=false→(m==Str.ofString "books_from")=false→List.lookup m (hfs A0 dd)=none:=fun h1 h2 h3 h4=>fW h1 h2 h3 h4
   have ha0:=(J0.S.trans bp).seq ha
   have hcloS:Shw clo:=⟨by decide +kernel,by decide +kernel⟩
   refine bg (fun σ' H'=>σ'=[some (.ref A0.x),some (.ref a),some (.ref lo),some (.ref tb),some (.str (fi)),some (.int (1)),none,none,none,none,none,none,none,none]∧H'=H) (fun R hR=>?_) ?_
   · walk_at "dm"
     exact hR _ _ ⟨rfl,rfl⟩
   rintro σ1 H1 ⟨rfl,rfl⟩
   refine bg (fun σ' H'=>σ'=[some (.ref A0.x),some (.ref a),some (.ref lo),some (.ref tb),some (.str (fi)),some (.int (1)),some (.int (0)),none,none,none,none,none,none,none]∧H'=H1) (fun R hR=>?_) ?_
   · walk_at "dm"
     exact hR _ _ ⟨rfl,rfl⟩
   rintro σ2 H2 ⟨rfl,rfl⟩
   refine bg (fun σ' H'=>∃ (lt:Addr)(ts:List Str),σ'=[some (.ref A0.x),some (.ref a),some (.ref lo),some (.ref tb),some (.str (fi)),some (.int (1)),some (.int (0)),some (.ref lt),none,none,none,none,none,none]∧ae H2 H'∧H2 lt=none∧H' lt=some (.lst (ts.map V.str))∧ts.Perm ns) (fun R hR=>?_) ?_
   · obtain⟨kvs,hkv,hkeys,htab⟩:=J0.tm.htb
     walk_at "dm"
     exact⟨ns,kvs,.inl (bp _ _ hkv),hkeys,by omega,fun p os hp hperm _=>hR _ _ ⟨p,os,rfl,ae.updN hp,hp,ad,hperm⟩⟩
   rintro σ3 H3 ⟨lt,ts,rfl,S3,hlt2,hlt3,htp⟩
   have htl:ts.length=ns.length:=htp.length_eq
   refine bg (fun σ' H'=>∃ mx:Int,(mx=0∨mx=1)∧σ'=[some (.ref A0.x),some (.ref a),some (.ref lo),some (.ref tb),some (.str (fi)),some (.int (1)),some (.int (0)),some (.ref lt),some (.int (mx)),none,none,none,none,none]∧H'=H3) (fun R hR=>?_) ?_
   · walk_at "dm"
     exact dF (S3.seq ha0) (by decide) ⟨_,rfl,by decide,hR _ _ ⟨_,by omega,rfl,rfl⟩⟩
   rintro σ4 H4 ⟨mx,hmx,rfl,rfl⟩
   have J4:=J0.same S3
   have hlt4:hid H4 A0 lt=some (.lst (ts.map V.str)):=f8 J0.hh hlt2 hlt3
   refine bg (fun σ' H'=>∃ (W':Hp) (h':Hs) (day dipped:Int) (at_:Str)(lk':Str→Str→Str)(o9 o10 o11 o12 o13:Option V),σ'=[some (.ref A0.x),some (.ref a),some (.ref lo),some (.ref tb),some (.str (at_)),some (.int (day)),some (.int (dipped)),some (.ref lt),some (.int (mx)),o9,o10,o11,o12,o13]∧J39 H' B0 CH CB A0 W' tb ss ns fi day dipped h' at_ lk'∧h'.dp.length≤12∧day≤25) (fun R hR=>?_) ?_
   · walk_at "dm"
     refine⟨_,.inl (SqL.of (bp _ _ hlt4)),.inl ⟨by decide,by decide⟩,_,.inl (S3.seq ha0),?_⟩
     rw[List.length_map,List.length_map]
     obtain⟨N,hN,hN12,hNs,hNt⟩:∃ N:Nat,(if((sc.length:Nat):Int) < 12*(if((ts.length:Nat):Int) < 1 then((ts.length:Nat):Int) else 1) then((sc.length:Nat):Int) else 12*(if((ts.length:Nat):Int) < 1 then((ts.length:Nat):Int) else 1))=((N:Nat):Int)∧N≤12∧N≤sc.length∧(0 < N→0 < ts.length):=⟨min sc.length (12*min ts.length 1),by split<;>split<;>omega,by omega,by omega,fun h=>by omega⟩
     rw[hN]
     refine⟨by omega,by omega,?_⟩
     rw[Int.toNat_natCast]
     have hB01:ae B0 (hide (hid H4 A0) tb):=fun b o e=>by
       rw[bP (fun z=>by rw[z,J4.nb] at e;cases e)];exact J4.S _ _ e
     have haB:=hB01.seq ha
     have hloB:=hB01 _ _ hlo
     have hltB:hide (hid H4 A0) tb lt=some (.lst (ts.map V.str)):=by
       rw[bP (fun z=>by obtain⟨kvs,hkv,_⟩:=J4.tm.htb;rw[z,hkv] at hlt4;cases hlt4)];exact hlt4
     have JB:J39 H4 (hide (hid H4 A0) tb) CH CB A0 W tb ss ns fi 1 0 h fi lk:=⟨cz,iC,J4.hh,J4.ho,J4.tm,J4.cl,J4.d0,J4.d1,J4.dd,J4.ddd,J4.av,J4.am,J4.bv⟩
     generalize hide (hid H4 A0) tb=B1 at hB01 haB hloB hltB JB
     refine bf (H0:=fun _=>none) bJ (fun i σ' H'=>∃ (W':Hp) (h':Hs) (day dipped:Int) (at_:Str)(lk':Str→Str→Str)(o9 o10 o11 o12 o13:Option V),σ'=[some (.ref A0.x),some (.ref a),some (.ref lo),some (.ref tb),some (.str (at_)),some (.int (day)),some (.int (dipped)),some (.ref lt),some (.int (mx)),o9,o10,o11,o12,o13]∧J39 H' B1 CH CB A0 W' tb ss ns fi day dipped h' at_ lk'∧h'.dp.length≤i∧day≤1+2*(i:Int)) ⟨W,h,1,0,fi,lk,none,none,none,none,none,rfl,JB,by rw[hdp0];exact Nat.le_refl 0,by omega⟩ (fun _ _ _ _ _ b o e=>by cases e) ?_ (fun σ' H' ⟨W',h',day,dipped,at_,lk',o9,o10,o11,o12,o13,e,J,hdl,hday⟩=>hR _ _ ⟨W',h',day,dipped,at_,lk',o9,o10,o11,o12,o13,e,⟨hB01.trans J.S,J4.nb,J.hh,J.ho,J.tm,J.cl,J.d0,J.d1,J.dd,J.ddd,J.av,J.am,J.bv⟩,by omega,by omega⟩)
     rintro i y σ' H' hi rfl ⟨W',h',day,dipped,at_,lk',o9,o10,o11,o12,o13,rfl,J,hdl,hday⟩ R2 hR2
     have hz:(0:Int)+(i:Int)=i:=by omega
     rw[hz]
     have hm9:(31:Int)*i*mx < 2 ^ 62:=by rcases hmx with e | e<;>(rw[e];omega)
     have hti:0 < ts.length:=hNt (by omega)
     have hisc:i < sc.length:=by omega
     refine bg (fun σ' H''=>∃ (dr:Addr)(LL:List Int),LL.length=15∧(∀ x∈LL,0≤x)∧σ'=[some (.ref A0.x),some (.ref a),some (.ref lo),some (.ref tb),some (.str (at_)),some (.int (day)),some (.int (dipped)),some (.ref lt),some (.int (mx)),some (.int i),some (.ref dr),o11,o12,o13]∧ae H' H''∧H' dr=none∧H'' dr=some (.lst (LL.map V.int))) (fun R hR=>?_) ?_
     · walk_at "dm"
       exact⟨_,(J.S.trans bp).seq haB,V.int sc[i],eW (by rw[List.getElem?_map,List.getElem?_eq_getElem hisc];rfl),.inl ⟨by decide,by decide⟩,.inl ⟨by omega,by omega⟩,_,rfl,_,_,_,_,rfl,by decide,by decide,by decide,by decide,hmx,fun dr H'' hdr S'' hH''=>hR _ _ ⟨dr,_,eA _ _ _ _,fun x hx=>(gL (by decide) _ x hx).1,rfl,S'',hdr,hH''⟩⟩
     rintro σ6 H6 ⟨dr,LL,hLl,hLr,rfl,S6,hdr0,hdr⟩
     have LG:∀ (n:Nat),n < 15→∃ r:Int,0≤r∧atI (LL.map V.int) n=some (V.int r):=fun n hn=>by
       obtain⟨r,hr⟩:∃ r,LL[n]?=some r:=⟨_,List.getElem?_eq_getElem (by omega)⟩
       exact⟨r,hLr r (List.mem_of_getElem? hr),eW (by rw[List.getElem?_map,hr];rfl)⟩
     obtain⟨r0,hr0,hr0a⟩:=LG 0 (by decide)
     obtain⟨r1,hr1,hr1a⟩:=LG 1 (by decide)
     obtain⟨r2,hr2,hr2a⟩:=LG 2 (by decide)
     replace J:=(J.same S6).later (day2:=day+r0 % 3) (by omega)
     have hday3:day+r0 % 3≤1+2*((i:Int)+1):=by omega
     refine bg (fun σ' H''=>σ'=[some (.ref A0.x),some (.ref a),some (.ref lo),some (.ref tb),some (.str (at_)),some (.int (day+r0 % 3)),some (.int (dipped)),some (.ref lt),some (.int (mx)),some (.int i),some (.ref dr),o11,o12,o13]∧H''=H6) (fun R hR=>?_) ?_
     · walk_at "dm"
       exact⟨_,SqL.of hdr,_,hr0a,_,rfl,by decide,hR _ _ ⟨rfl,rfl⟩⟩
     generalize day+r0 % 3=dy at *
     rintro σ7 H7 ⟨rfl,rfl⟩
     have hlt7:=bp _ _ (J.S _ _ hltB)
     refine bg (fun σ' H''=>∃ b,b∈ns∧σ'=[some (.ref A0.x),some (.ref a),some (.ref lo),some (.ref tb),some (.str (at_)),some (.int (dy)),some (.int (dipped)),some (.ref lt),some (.int (mx)),some (.int i),some (.ref dr),some (.str b),o12,o13]∧H''=H7) (fun R hR=>?_) ?_
     · walk_at "dm"
       obtain⟨b,hb,hba⟩:=rV (ws:=ts) r2 hti
       refine⟨_,SqL.of hdr,_,hr2a,_,.inl (SqL.of hlt7),_,rfl,by rw[List.length_map];omega,_,SqL.of hlt7,V.str b,?_,hR _ _ ⟨b,htp.mem_iff.mp hb,rfl,rfl⟩⟩
       rw[List.length_map]
       exact hba
     rintro σ8 H8 ⟨b,hbn,rfl,rfl⟩
     have hd4:dy≤400:=by omega
     have hBd:=J.ho.on dy
     obtain⟨Bd,hNd,hZd⟩:=hBd
     have hcl:clo∈h'.cl.map (·.1):=by rw[J.cl];exact List.mem_cons_self
     have hd1:=J.d1
     have hday:1≤dy∧dy≤400:=⟨J.d1,hd4⟩
     walk_at "dm"
     refine⟨_,SqL.of hdr,_,hr1a,_,rfl,by decide,rfl,?_⟩
     refine(fun hdip=>aY (fun h3=>⟨rfl,aY (fun hne=>?_) (fun _=>hdip)⟩) (fun _=>hdip)) ?_
     · -- a dip
       have hsh:bR h' clo dy=at_:=J.av
       have eo:lkB (aQ h'.bk dy).1 (aQ h'.bk dy).2 b (bR h' clo dy)=lk' b at_:=by
         rw[hsh,lq J.ho J.d0];exact J.bv b hbn at_ J.am
       have hom:lk' b at_∈ss:=by
         rw[←eo,hsh]
         exact(hZd _).mp (gF Bd b ((hNd b).mpr hbn) _ ((hZd _).mpr J.am))
       have hd0:=J.d0
       have hddd:=J.ddd
       refine⟨A0.dx,_,J.hh.ins,lk0 (by decide +kernel) (by decide +kernel) (by decide +kernel) (by decide +kernel),A0,W',ss,ns,h',clo,b,dy,rfl,J.hh,J.ho,hcloS,hnS b hbn,fun hn=>absurd hcl hn,fun _ hn=>absurd hbn hn,fun _ _ hn=>absurd hday hn,fun _ _ _ hl=>absurd hl (by omega),fun _ _ _ _ hn=>absurd hn (by omega),fun _ _ _ hge hlen H9 W2 S9 G9 hh9=>?_⟩
       rw[eo] at hh9
       have tm9:=(J.tm.grows bp G9.2).same S9
       obtain⟨kvs,hkv,hkeys,htab⟩:=tm9.htb
       obtain⟨r,kv,e1,e2,_,e3⟩:=htab b hbn
       refine⟨_,.inl ⟨_,Sum.inr b,.inl (bp _ _ hkv),rfl,e1.symm⟩,r,rfl,_,.inl ⟨_,Sum.inr at_,.inl (bp _ _ e2),rfl,(e3 at_ J.am).symm⟩,?_⟩
       refine hR2 _ _ ⟨W2,_,dy,dy,lk' b at_,lk',_,_,_,_,_,rfl,⟨J.S.trans S9,J.nb,hh9,J.ho.dip hday hge hlen hom,tm9,J.cl,Int.le_refl _,J.d1,fun e he=>?_,Int.le_refl _,?_,hom,J.bv⟩,by show(h'.dp++_).length≤_;rw[List.length_append,List.length_singleton];omega,by omega⟩
       · rcases List.mem_append.mp he with he | he
         · exact Int.le_trans (J.dd e he) hddd
         · rw[List.mem_singleton.mp he];exact Int.le_refl _
       · rw[gr,if_pos ⟨rfl,Int.le_refl _⟩]
     · -- a change
       have hlo8:=(J.S.trans bp) _ _ hloB
       refine⟨_,.inl (SqL.of hlo8),_,SqL.of hdr,fun p1 hp1=>?_⟩
       rw[List.length_map]
       have hsl2:so.length=ss.length:=hpm.length_eq
       have hson:so.Nodup:=hpm.nodup_iff.mpr hsn
       have ec:=wa (xs:=LL) (k:=3) (n:=so.length) (by omega)
       have ec':mf (LL.map V.int) (some 3) (some (3+((so.length:Nat):Int)))=((LL.drop 3).take so.length).map V.int:=ec
       rw[ec']
       generalize hLC:(LL.drop 3).take so.length=LC
       have hLCl:LC.length=so.length:=by rw[←hLC,List.length_take,List.length_drop];omega
       refine⟨⟨_,SqL.of ad⟩,fun D hD=>?_⟩
       have S9:ae H8 (upd H8 p1 (.lst (LC.map V.int))):=ae.updN hp1
       have hLCa:upd H8 p1 (.lst (LC.map V.int)) p1=some (.lst (LC.map V.int)):=ad
       generalize upd H8 p1 (.lst (LC.map V.int))=H9 at *
       have hlo9:SqL K H9 lo (so.map V.str):=SqL.of (S9 _ _ hlo8)
       refine dg (aJ (SqL.of hLCa)) (by rw[List.length_map,hLCl];omega) hD (fun σ=>∃ o,σ=[o,some (.ref lo)]) (fun k=>V.str (e7 so (LC.getD k 0 % ((so.length:Nat):Int)))) ⟨none,rfl⟩ ?_ ?_
       · rintro k x σ' H3' hk hx ⟨o,rfl⟩ hS3 R hR
         rw[List.getElem?_map] at hx
         obtain⟨y,hy,rfl⟩:=Option.map_eq_some_iff.mp hx
         have hm0:=Int.emod_nonneg y (show((so.length:Nat):Int)≠0 by omega)
         have hm1:=Int.emod_lt_of_pos y (show(0:Int) < (so.length:Nat) by omega)
         walk_at "dm"
         refine⟨_,.inl (hS3.seq hlo9),?_⟩
         rw[List.length_map]
         refine⟨by omega,_,hS3.seq hlo9,_,ke hm0 (by omega),?_⟩
         have e:LC.getD k 0=y:=by rw[List.getD_eq_getElem?_getD,hy];rfl
         have:=hR [some (V.int y),some (V.ref lo)] ⟨_,rfl⟩
         rw[e] at this
         exact this
       have eos:(List.range (LC.map V.int).length).map (fun k=>V.str (e7 so (LC.getD k 0 % ((so.length:Nat):Int))))=(LC.map (fun y=>e7 so (y % ((so.length:Nat):Int)))).map V.str:=by
         rw[List.map_map]
         refine dP _ LC _ _ (by rw[List.length_map]) fun k x hx=>?_
         rw[List.getD_eq_getElem?_getD,hx]
         rfl
       rw[eos]
       have gos:(LC.map (fun y=>e7 so (y % ((so.length:Nat):Int)))).length=so.length∧∀ x∈LC.map (fun y=>e7 so (y % ((so.length:Nat):Int))),x∈so:=by
         refine⟨by rw[List.length_map,hLCl],fun x hx=>?_⟩
         obtain⟨y,hy,rfl⟩:=List.mem_map.mp hx
         have hm0:=Int.emod_nonneg y (show((so.length:Nat):Int)≠0 by omega)
         have hm1:=Int.emod_lt_of_pos y (show(0:Int) < (so.length:Nat) by omega)
         have:=jC hm0 hm1 (Nat.le_refl so.length)
         rwa [List.take_length] at this
       generalize LC.map (fun y=>e7 so (y % ((so.length:Nat):Int)))=os at *
       have S10:ae H8 (upd H9 D (.lst (os.map V.str))):=S9.trans (ae.updN hD)
       have hos10:upd H9 D (.lst (os.map V.str)) D=some (.lst (os.map V.str)):=ad
       have hDh:H8 D=none:=S9.free hD
       generalize upd H9 D (.lst (os.map V.str))=H10 at *
       have hDn:hid H10 A0 D=some (.lst (os.map V.str)):=f8 J.hh hDh hos10
       replace J:=J.same S10
       have hp4:=iZ J.ho hsn 400
       have gGO:GO (aQ h'.bk 400).1 os:=⟨by rw[gos.1,hpm.length_eq,hp4.length_eq],fun x hx=>hp4.mem_iff.mpr (hpm.mem_iff.mp (gos.2 x hx))⟩
       have hd0:=J.d0
       have hno:jP h'.dp dy=[]:=by
         unfold jP
         rw[List.filter_eq_nil_iff.mpr (fun e he=>by have:=J.dd e he;have:=J.ddd;simp;omega)]
         rfl
       refine⟨A0.dx,_,J.hh.ins,lk0 (by decide +kernel) (by decide +kernel) (by decide +kernel) (by decide +kernel),A0,W',ss,ns,os,h',b,D,dy,rfl,J.hh,J.ho,hnS b hbn,hos10,by rw[gos.1,hsl2];omega,fun v hv=>hsS v (hpm.mem_iff.mp (gos.2 v hv)),fun hn=>absurd hbn hn,fun _ hn=>absurd gGO hn,fun _ _ hn=>absurd hday hn,fun _ _ _ hn=>?_,fun _ _ _ hge hno so2 ns2 H11 W2 CI B2 S11 G11 hh11=>?_⟩
       · rcases hn with hn | hn
         · omega
         · exact absurd hno hn
       have e2:=wX J.ho hsn hpm hst CI
       subst e2
       have ho2:=J.ho.change (B:=(so2,ns2.map (chB (aQ h'.bk 400).1 so2 (aQ h'.bk 400).2 b os))) hday hge (J.ho.ch CI B2)
       have S12:=J.S.trans S11
       have tm11:=(J.tm.grows bp G11.2).same S11
       have hos11:=bp _ _ (S11 _ _ hDn)
       obtain⟨kvs,hkv,hkeys,htab⟩:=tm11.htb
       have hlo11:SqL K H11 lo (so2.map V.str):=SqL.of (bp _ _ (S12 _ _ hloB))
       intro r hr
       have hrh:hid H11 A0 r=none:=rH hr
       have hrt:r≠tb:=fun z=>by rw[z,bp _ _ hkv] at hr;cases hr
       have hkl:kvs.length=ns.length:=by
         have:=congrArg List.length hkeys
         rwa [List.length_map,List.length_map] at this
       refine⟨_,.inl ⟨_,Sum.inr b,by rw[ag (Ne.symm hrt)];exact bp _ _ hkv,rfl,by omega,rfl⟩,?_⟩
       have Sa:ae H11 (upd H11 r (.dK [])):=ae.updN hr
       have hha:=ae.house Sa hh11
       have hkva:=dI (A:=A0) Sa _ _ hkv
       have hhb:=hha.upd (o:=.dK (cK kvs (Sum.inr b) (.ref r))) hkva tm11.wtb
       have hrb:hid (upd (upd H11 r (.dK [])) tb (.dK (cK kvs (Sum.inr b) (.ref r)))) A0 r=some (.dK []):=by
         rw[oX hkva,ag hrt];exact f8 hh11 hr ad
       have hWr:W2 r=none:=hh11.up.free hr
       have hlob:=sS (o:=.dK (cK kvs (Sum.inr b) (.ref r))) (Sa.seq hlo11) (bp _ _ hkva)
       have hDt:D≠tb:=fun z=>by rw[z,bp _ _ hkv] at hos11;cases hos11
       have hDr:D≠r:=fun z=>by rw[z,hr] at hos11;cases hos11
       have hosb:upd (upd H11 r (.dK [])) tb (.dK (cK kvs (Sum.inr b) (.ref r))) D=some (.lst (os.map V.str)):=by
         rw[ag hDt,ag hDr];exact hos11
       have hGp:upd (upd H11 r (.dK [])) tb (.dK (cK kvs (Sum.inr b) (.ref r))) tb=some (.dK (cK kvs (Sum.inr b) (.ref r))):=ad
       have hb3:∀ x o,x≠tb→hid H11 A0 x=some o→hid (upd (upd H11 r (.dK [])) tb (.dK (cK kvs (Sum.inr b) (.ref r)))) A0 x=some o:=fun x o hx e=>by
         rw[oX hkva,ag hx];exact dI Sa _ _ e
       have hSb:ae B1 (hid (upd (upd H11 r (.dK [])) tb (.dK (cK kvs (Sum.inr b) (.ref r)))) A0):=by
         rw[oX hkva];exact nM (S12.trans (dI Sa)) J.nb
       have hval:bZ (cK kvs (Sum.inr b) (.ref r)) (Sum.inr b)=some (V.ref r):=by rw[jp,if_pos rfl]
       have hGr:=bp _ _ hrb
       generalize upd (upd H11 r (.dK [])) tb (.dK (cK kvs (Sum.inr b) (.ref r)))=G at *
       refine⟨_,.inl hlob,?_⟩
       rw[List.length_map]
       refine⟨by omega,by omega,?_⟩
       refine bf (H0:=fun _=>none) bJ (fun k σ' H''=>∃ o13,σ'=[some (.ref A0.x),some (.ref a),some (.ref lo),some (.ref tb),some (.str (at_)),some (.int (dy)),some (.int (dipped)),some (.ref lt),some (.int (mx)),some (.int i),some (.ref dr),some (.str b),some (.ref D),o13]∧H''=upd G r (.dK (bj (so2.take k) ((os.take k).map V.str)))) ⟨_,rfl,?_⟩ (fun _ _ _ _ _ b o e=>by cases e) ?_ ?_
       · funext y
         by_cases e:y=r
         · rw[e,ad];exact hGr
         · rw[ag e]
       · rintro k x σ H'' hk2 rfl ⟨o5,rfl,rfl⟩ R4 hR4
         have ek:(0:Int)+(k:Int)=k:=by omega
         rw[ek]
         have hkn:k < so2.length:=by omega
         obtain⟨sk,hsk⟩:∃ y,so2[k]?=some y:=⟨_,List.getElem?_eq_getElem hkn⟩
         obtain⟨ok,hok⟩:∃ y,os[k]?=some y:=⟨_,List.getElem?_eq_getElem (by omega)⟩
         have hl2:(so2.take k).length=((os.take k).map V.str).length:=by rw[List.length_map,List.length_take,List.length_take];omega
         have hlok:=sS (o:=.dK (bj (so2.take k) ((os.take k).map V.str))) hlob hGr
         walk_at "dm"
         refine⟨_,SqL.of (by rw[ag hDr];exact hosb),_,dj hok,V.ref r,.inl ⟨_,Sum.inr b,.inl (by rw[ag (Ne.symm hrt)];exact hGp),rfl,hval.symm⟩,_,hlok,_,dj hsk,r,rfl,_,.inl ⟨_,Sum.inr sk,ad,rfl,by rw[eO hl2,List.length_take];omega,rfl⟩,hR4 _ _ ⟨_,rfl,?_⟩⟩
         rw[gE,dH _ (bM _ _ _ (gg hson hsk)),bH hsk,bH hok,List.map_append]
         exact congrArg (fun z=>upd G r (HO.dK z)) (ez sk (V.str ok) hl2).symm
       · rintro σ H'' ⟨o5,rfl,rfl⟩
         have e1:so2.take ((so2.length:Int)).toNat=so2:=by rw[Int.toNat_natCast,List.take_length]
         have e2:os.take ((so2.length:Int)).toNat=os:=by rw[Int.toNat_natCast,←gos.1,List.take_length]
         rw[e1,e2]
         have hhc:=hhb.upd (o:=.dK (bj so2 (os.map V.str))) hrb hWr
         have tmc:gk (hid (upd G r (.dK (bj so2 (os.map V.str)))) A0) W2 tb ss ns (iz so2 b os lk'):=by
           refine tm11.put (r:=r) hrh hkv hbn hpm hson gos.1 ?_ ?_ fun x o hx e=>?_
           · rw[oX hrb,ag (Ne.symm hrt)]
             exact g0 hGp (dU hkv).2.1 (dU hkv).2.2.1 (dU hkv).2.2.2.1 (dU hkv).2.2.2.2
           · rw[oX hrb];exact ad
           · rw[oX hrb,ag (fun z=>by rw[z,hrh] at e;cases e)]
             exact hb3 x o hx e
         have hSc:ae B1 (hid (upd G r (.dK (bj so2 (os.map V.str)))) A0):=by
           rw[oX hrb]
           refine nM hSb ?_
           cases hB:B1 r with
           | none=>rfl
           | some o=>have:=S12 _ _ hB;rw[hrh] at this;cases this
         exact hR2 _ _ ⟨W2,_,dy,dipped,at_,_,_,_,_,_,_,rfl,⟨hSc,J.nb,hhc,ho2,tmc,J.cl,Int.le_refl _,J.d1,J.dd,J.ddd,J.av,J.am,qv J.ho hd4 J.bv CI B2 ho2⟩,by show h'.dp.length≤_;omega,by omega⟩
   rintro σ5 H5 ⟨W',h',day,dipped,at_,lk',o9,o10,o11,o12,o13,rfl,J5,hdl,hday⟩
   walk_at "dm"
   exact⟨by omega,fun p hp=>q p _ W' h' day dipped at_ lk' (J5.same (ae.updN hp)) hdl hday ad⟩
end

section
variable {P:Program}{w:World}{K:PySem.W.Frag}{mg:Str→Option Value}{base:Heap}
def jB (K:PySem.W.Frag)(CH CB:Addr):Sp:=fun vs H Q _=>∃ (A:Ad)(W:Hp)(lr lf:Addr)(ss ns row xs:List Str) (fi goal:Str) (h:Hs) (dy:Int),vs=[.ref A.x,.ref lr,.int dy,.ref lf,.str goal]∧ba H CH CB A W ss h∧cy ss ns h∧h.cl=[(clo,fi)]∧h.day≤dy∧(1≤dy∧dy≤400)∧h.dp.length≤12∧bR h clo dy∈xs∧hid H A lr=some (.lst (row.map V.str))∧row.length≤40∧(∀ n∈row,n∈ns)∧(∀ n∈ns,Shw n)∧hid H A lf=some (.lst (xs.map V.str))∧(∀ n∈ns,∀ x∈xs,lkB (aQ h.bk dy).1 (aQ h.bk dy).2 n x∈xs)∧(∀ x∈xs,x∈ss)∧goal∉xs∧∀ H',Q (.bl true) H'
theorem gX:aG ["_law_house", "_law_row_here", "_law_day", "_law_found", "_law_goal", "_law_bath", "_law_told"] ["_law_house", "_law_row_here", "_law_day", "_law_found", "_law_goal"] (af eB):=⟨rfl,rfl,rfl,by decide +kernel,rfl,by decide +kernel,by decide +kernel⟩
theorem na {f fHQ:Addr}{fd fdHQ:FuncData}{CH CB cNC cNB cND cLa cFu:Addr}(F:Fun K "_law_shut_kept" "_law_shut_kept" eB f fd)
   (T:Txt mg)(hX:Hx K mg CH)
   (GHQ:au P w K mg base (CX1 P w) 5 fHQ fdHQ ["self", "cloth", "bath", "day"] (lG CH CB cNC cNB cND cLa cFu))(hmHQ:bW K CH "dip" fHQ)(bHQ:aE K fdHQ ["self", "cloth", "bath", "day"] []) :
   au P w K mg base CX0 6 f fd ["_law_house", "_law_row_here", "_law_day", "_law_found", "_law_goal"] (jB K CH CB):=by
 refine F.ok gX (fun vs H Q E h=>?_) (fun cdv A outer s H vs Q E hr h=>?_)
 · obtain⟨_,_,_,_,_,_,_,_,_,_,_,_,rfl,_⟩:=h
   rfl
 · obtain⟨A0,W,lr,lf,ss,ns,row,xs,fi,goal,h,dy,rfl,hh,ho,hcl,hdy,hday,hdl,hxs,hlr,hr40,hrow,hnS,hlf,hclo,hxss,hgx,q⟩:=h
   have cH:=hX.c
   have hr5:=hr.mono (j:=5) (by omega)
   refine⟨_,(ak (bu PassesOwn.never rfl (br (pv 1)) (ap (i:=5) gX.nd rfl (Or.inl rfl)) (ak (aB (i:=6) gX.nd rfl (Or.inl rfl) (bq (pv 0) cH hmHQ GHQ hr5 bHQ .nil il (aa bQ (aa (pv 5) (aa (pv 2) ac)))))
     (ai (aV (PW.pt (dC (cM (cE (al cR (by rfl) T.isi (by decide +kernel) (aa (pv 6) (aa (dv (v:=.ty "str") rfl T.str (by decide +kernel) rfl) ac))))) (dC (ax bV (pv 6) (pv 3) (by with_unfolding_all rfl)) (dB (ax dt (pv 6) (pv 4) (aK _)))))) (ai (az cv)) ar))))
     (ai (az cv))),?_⟩
   have hs:=bi
   have lk0:∀ {m:Str}{dd:Int},(m==Str.ofString "first_shades")=false→(m==Str.ofString "day_now")=false→(m==Str.ofString "standing")=false→(m==Str.ofString "books_from")=false→List.lookup m (hfs A0 dd)=none:=fun h1 h2 h3 h4=>fW h1 h2 h3 h4
   have hcloS:Shw clo:=⟨by decide +kernel,by decide +kernel⟩
   obtain⟨bk,hbk⟩:∃ bk,h.bk=bk:=⟨_,rfl⟩
   refine bg (fun σ' H'=>∃ σ1,σ'=σ1) (fun R hR=>?_) ?_
   · walk_at "dm"
     refine⟨⟨_,SqL.of (bp _ _ hlr)⟩,?_⟩
     refine bf (H0:=hid H A0) (aJ (SqL.of hlr)) (fun j σ' H'=>∃ (W':Hp) (h':Hs)(o5 o6:Option V),σ'=[some (.ref A0.x),some (.ref lr),some (.int dy),some (.ref lf),some (.str goal),o5,o6]∧ae (hid H A0) (hid H' A0)∧ba H' CH CB A0 W' ss h'∧cy ss ns h'∧h'.cl=[(clo,fi)]∧h'.bk=bk∧h'.day≤dy∧h'.dp.length≤12+j∧bR h' clo dy∈xs) ⟨W,h,none,none,rfl,ae.refl _,hh,ho,hcl,hbk,hdy,hdl,hxs⟩ (fun _ _ _ _ ⟨_,_,_,_,_,h,_⟩=>h.trans bp) ?_ (fun σ H' _=>hR _ _ ⟨_,rfl⟩)
     rintro j y σ' H' hj hy ⟨W',h',o5,o6,rfl,hS,hh,ho,ecl,ebk,hdy,hdl,hx⟩ R2 hR2
     rw[List.getElem?_map] at hy
     obtain⟨b,hb,rfl⟩:=Option.map_eq_some_iff.mp hy
     rw[List.length_map] at hj
     have hbn:=hrow b (List.mem_of_getElem? hb)
     have hclm:clo∈h'.cl.map (·.1):=by rw[ecl];exact List.mem_cons_self
     obtain⟨z,hz⟩:∃ z,bR h' clo dy=z:=⟨_,rfl⟩
     rw[hz] at hx
     have hom:lkB (aQ bk dy).1 (aQ bk dy).2 b z∈xs:=by rw[←hbk];exact hclo b hbn z hx
     have eo:lkB (aQ h'.bk dy).1 (aQ h'.bk dy).2 b (bR h' clo dy)=lkB (aQ bk dy).1 (aQ bk dy).2 b z:=by rw[hz,ebk]
     refine bg (fun σ2 H2=>∃ (W2:Hp) (h2:Hs),σ2=[some (.ref A0.x),some (.ref lr),some (.int dy),some (.ref lf),some (.str goal),some (.str b),some (.str (lkB (aQ bk dy).1 (aQ bk dy).2 b z))]∧ae (hid H A0) (hid H2 A0)∧ba H2 CH CB A0 W2 ss h2∧cy ss ns h2∧h2.cl=[(clo,fi)]∧h2.bk=bk∧h2.day≤dy∧h2.dp.length≤12+(j+1)∧bR h2 clo dy=lkB (aQ bk dy).1 (aQ bk dy).2 b z) (fun R3 hR3=>?_) ?_
     · walk_at "dm"
       refine⟨A0.dx,_,hh.ins,lk0 (by decide +kernel) (by decide +kernel) (by decide +kernel) (by decide +kernel),A0,W',ss,ns,h',clo,b,dy,rfl,hh,ho,hcloS,hnS b hbn,fun hn=>absurd hclm hn,fun _ hn=>absurd hbn hn,fun _ _ hn=>absurd hday hn,fun _ _ _ hl=>absurd hl (by omega),fun _ _ _ _ hn=>absurd hn (by omega),fun _ _ _ hge hlen H9 W2 S9 G9 hh9=>?_⟩
       rw[eo] at hh9 ⊢
       refine hR3 _ _ ⟨W2,_,rfl,hS.trans S9,hh9,ho.dip hday hge hlen (hxss _ hom),ecl,ebk,Int.le_refl _,by show(h'.dp++_).length≤_;rw[List.length_append,List.length_singleton];omega,?_⟩
       rw[gr,if_pos ⟨rfl,Int.le_refl _⟩]
     rintro σ2 H2 ⟨W2,h2,rfl,S2,hh2,ho2,ecl2,ebk2,hdy2,hdl2,hx2⟩
     have hlf2:=bp _ _ (S2 _ _ hlf)
     walk_at "dm"
     refine⟨_,.str _,true,rfl,aY (fun h=>by cases h) (fun _=>⟨_,.inl (SqL.of hlf2),rfl,cj xs,aY (fun hn=>?_) (fun _=>⟨rfl,aY (fun e=>absurd (e▸hom) hgx) (fun _=>hR2 _ _ ⟨W2,h2,_,_,rfl,S2,hh2,ho2,ecl2,ebk2,hdy2,hdl2,by rw[hx2];exact hom⟩)⟩)⟩)⟩
     rw[cW,decide_eq_true hom] at hn
     cases hn
   rintro σ1 H1 ⟨σ1',rfl⟩
   walk_at "dm"
   exact q _
end

section
variable {P:Program}{w:World}{K:PySem.W.Frag}{mg:Str→Option Value}{base:Heap}
def PzH (A:Ad)(W:Hp):Addr→Prop:=fun b=>b=A.x∨b=A.d1∨b=A.ls∨b=A.db∨W b≠none
theorem PzH.here {H:Hp}{C CB:Addr}{A:Ad}{W:Hp}{ss:List Str}{h:Hs}(hh:ba H C CB A W ss h):∀ b,PzH A W b→H b≠none:=by
 rintro b (rfl | rfl | rfl | rfl | hb)
 · rw[hh.ins];intro e;cases e
 · rw[hh.cl];intro e;cases e
 · obtain⟨ps,h1,_⟩:=hh.dp;rw[h1];intro e;cases e
 · obtain⟨rs,h1,_⟩:=hh.bk;rw[h1];intro e;cases e
 · intro e
   cases hw:W b with
   | none=>exact hb hw
   | some o=>rw[hh.up _ _ hw] at e;cases e
theorem ba.fzp {H H':Hp}{C CB:Addr}{A:Ad}{W:Hp}{ss:List Str}{h:Hs}(hh:ba H C CB A W ss h)(S:FzP (PzH A W) H H'):ba H' C CB A W ss h:=by
 obtain⟨h1,h2,⟨ps,h3,h4,h5⟩,⟨rs,h6,h7,h8⟩,h9,h10⟩:=hh
 refine⟨S.2.2 _ _ (.inl rfl) h1,S.2.2 _ _ (.inr (.inl rfl)) h2,⟨ps,S.2.2 _ _ (.inr (.inr (.inl rfl))) h3,h4,h5⟩,⟨rs,S.2.2 _ _ (.inr (.inr (.inr (.inl rfl)))) h6,h7,h8⟩,h9,fun b o e=>?_⟩
 obtain⟨e1,e2,e3,e4,e5⟩:=dU (h10 b o e)
 exact g0 (S.2.2 b o (.inr (.inr (.inr (.inr (by rw[e];intro z;cases z))))) e1) e2 e3 e4 e5
theorem PzH.not {H:Hp}{A:Ad}{W:Hp}{b:Addr}{o:HO}(h:hid H A b=some o)(hw:W b=none):¬PzH A W b:=by
 obtain⟨_,e2,e3,e4,e5⟩:=dU h
 rintro(e | e | e | e | e)
 · exact e2 e
 · exact e3 e
 · exact e4 e
 · exact e5 e
 · exact e hw
theorem FzP.hid {P:Addr→Prop}{H H':Hp}{A:Ad}(S:FzP P H H'){b:Addr}{o:HO}(h:hid H A b=some o)(hn:∀ kvs,o≠.dK kvs):DM.hid H' A b=some o:=by
 obtain⟨e1,e2,e3,e4,e5⟩:=dU h
 exact g0 (S.1 b o e1 hn) e2 e3 e4 e5
theorem gN.congr {H:Hp}{d:Addr}{ss ns:List Str}{lk lk2:Str→Str→Str}(h:gN H d ss ns lk)(e:∀ n∈ns,∀ z∈ss,lk n z=lk2 n z):gN H d ss ns lk2:=by
 obtain⟨kvs,h1,h2,h3⟩:=h
 refine⟨kvs,h1,h2,fun n hn=>?_⟩
 obtain⟨r,kv,e1,e2,e3⟩:=h3 n hn
 exact⟨r,kv,e1,e2,fun z hz=>by rw[←e n hn z hz];exact e3 z hz⟩
def wj (H0 H:Hp)(t:Addr)(R:Rows) (y:Str)(so:List Str):Prop :=
 (∃ (rw nm:Addr)(ps:List Addr),y∈aM R∧H0 rw=none∧H t=some (.tup [.ref rw,.ref nm])∧H rw=some (.lst ((aO R y).map V.str))∧H nm=some (.lst (ps.map V.ref))∧eQ H ps (so.map fun z=>[.str z,.int (((aO R z).length:Nat):Int)])) ∨
 (∃ ls:Addr,y∉aM R∧H0 ls=none∧H t=some (.tup [.non,.ref ls])∧H ls=some (.lst (so.map V.str)))
theorem mK.ns {lk:Str→Str→Str}{ns ns2 ss ss2:List Str}{f:Str}{so:List Str}{R:Rows}(N:mK lk ns ss f so R)(hn:∀ n,n∈ns↔n∈ns2)(hz:∀ z,z∈ss↔z∈ss2):mK lk ns2 ss2 f so R :=
 ⟨N.pw,fun z h=>⟨(hz z).mp (N.ins z h).1,(N.ins z h).2⟩,N.len,N.f0,fun z h n h2=>N.le z h n ((hn n).mpr h2),fun z h=>(N.led z h).imp id fun⟨y,hy,n,h2,h3⟩=>⟨y,hy,n,(hn n).mp h2,h3⟩⟩
theorem nH.ns {lk:Str→Str→Str}{ns ns2:List Str}{f z:Str}{r:List Str}(N:nH lk ns f z r)(hn:∀ n,n∈ns↔n∈ns2):nH lk ns2 f z r :=
 ⟨fun n h=>(hn n).mp (N.1 n h),N.2.1,fun q hq he=>N.2.2 q (fun n h=>(hn n).mpr (hq n h)) he⟩
theorem jT.ns {lk:Str→Str→Str}{ns ns2 ss ss2 so:List Str}{z y:Str}{xs:List Str}(N:jT lk ns ss so z y xs)(hn:∀ n,n∈ns↔n∈ns2)(hz:∀ z,z∈ss↔z∈ss2):jT lk ns2 ss2 so z y xs :=
 ⟨N.pw,fun x h=>⟨(N.ins x h).1,(hz x).mp (N.ins x h).2⟩,N.len,N.hz,N.hy,fun n h x h2=>N.cl n ((hn n).mpr h) x h2⟩
theorem gd.pre {ss:List Str}{bs:List (Str×List Str)}{f:Str}{R:Rows}(W:gd ss bs f R){y:Str}(hy:y∈aM R){k:Nat}(hk:k≤(aO R y).length):cp (lkB ss bs) ((aO R y).take k) f∈aM R∧(aO R (cp (lkB ss bs) ((aO R y).take k) f)).length=k:=by
 have hB:=W.row hy
 have hok:OkR (bs.map (·.1)) ((aO R y).take k):=fun m hm=>hB.1 m (List.mem_of_mem_take hm)
 have hz:=W.all _ hok
 have hb:=W.row hz
 refine⟨hz,?_⟩
 have h1:=(hb.2.2 _ hok rfl).1
 rw[List.length_take,Nat.min_eq_left hk] at h1
 have h2:=(hB.2.2 (aO R (cp (lkB ss bs) ((aO R y).take k) f)++(aO R y).drop k) (hb.1.app fun m hm=>hB.1 m (List.mem_of_mem_drop hm)) (by rw[cO,hb.2.1,←cO,List.take_append_drop,hB.2.1])).1
 rw[List.length_append,List.length_drop] at h2
 omega
def pS (K:PySem.W.Frag):Sp:=fun vs H Q _=>∃ (a:Addr)(ns:List Int),vs=[.ref a]∧SqL K H a (ns.map V.int)∧ns.length≤63∧∀ H',Q (.bl true) H'
theorem dN:aG ["_law_script", "_law_shades", "_law_baths", "_law_spare", "_law_other", "_law_tables_here", "_law_order", "_law_house", "_law_first", "_law_day", "_law_at_here", "_law_goal", "_law_found", "_law_row_here", "_law_right", "_law_counted", "_law_k", "_law_told"] ["_law_script"] (af kg):=⟨rfl,rfl,rfl,by decide +kernel,rfl,by decide +kernel,by decide +kernel⟩
theorem v7 {f fA fDr fTa fHd fRw fLv fWy fPr fSU fSK fLo fNR fFB fTI fHR fHB fHS fHQ fHI:Addr}{fd fdA fdDr fdTa fdHd fdRw fdLv fdWy fdPr fdSU fdSK fdLo fdNR fdFB fdTI fdHR fdHB fdHS fdHQ fdHI:FuncData}{CH CB cBN cKn cNS cFu cNC cNB cND cLa:Addr}(F:Fun K "law" "law" kg f fd)
   (T:Txt mg)(hX:Hx K mg CH)
   (GA:au P w K mg base CX0 1 fA fdA ["_law_script", "_law_k"] (nU K))(kA:PySem.W.keepIn K (.ref fA)=true)(bA:aE K fdA ["_law_script", "_law_k"] [])(mA:mg "_law_at"=some (.ref fA))
   (GDr:au P w K mg base CX0 5 fDr fdDr ["_law_script"] (pH K))(kDr:PySem.W.keepIn K (.ref fDr)=true)(bDr:aE K fdDr ["_law_script"] [])(mDr:mg "_law_drawn"=some (.ref fDr))
   (GTa:au P w K mg base CX0 1 fTa fdTa ["_law_shades", "_law_baths"] (kY K))(kTa:PySem.W.keepIn K (.ref fTa)=true)(bTa:aE K fdTa ["_law_shades", "_law_baths"] [])(mTa:mg "_law_tables"=some (.ref fTa))
   (GHd:au P w K mg base CX0 6 fHd fdHd ["_law_shades", "_law_baths"] (lw K CB))(kHd:PySem.W.keepIn K (.ref fHd)=true)(bHd:aE K fdHd ["_law_shades", "_law_baths"] [])(mHd:mg "_law_handed"=some (.ref fHd))
   (GRw:au P w K mg base CX0 2 fRw fdRw ["_law_cell", "_law_size", "_law_titles", "_law_mixed"] (u7 K))(kRw:PySem.W.keepIn K (.ref fRw)=true)(bRw:aE K fdRw ["_law_cell", "_law_size", "_law_titles", "_law_mixed"] [])(mRw:mg "_law_row"=some (.ref fRw))
   (GLv:au P w K mg base CX0 8 fLv fdLv ["_law_house", "_law_script", "_law_order", "_law_tables_here", "_law_at_here"] (pi K CH CB))(kLv:PySem.W.keepIn K (.ref fLv)=true)(bLv:aE K fdLv ["_law_house", "_law_script", "_law_order", "_law_tables_here", "_law_at_here"] [])(mLv:mg "_law_lived"=some (.ref fLv))
   (GWy:au P w K mg base CX0 4 fWy fdWy ["book", "first", "last"] (vd CB))(kWy:PySem.W.keepIn K (.ref fWy)=true)(bWy:aE K fdWy ["book", "first", "last"] [])(mWy:mg "way"=some (.ref fWy))
   (GPr:au P w K mg base CX0 1 fPr fdPr ["_law_found"] oW)(kPr:PySem.W.keepIn K (.ref fPr)=true)(bPr:aE K fdPr ["_law_found"] [])(mPr:mg "_law_pair"=some (.ref fPr))
   (GSU:au P w K mg base CX0 2 fSU fdSU ["_law_found", "_law_order", "_law_tables_here", "_law_first", "_law_last"] (rA K))(kSU:PySem.W.keepIn K (.ref fSU)=true)(bSU:aE K fdSU ["_law_found", "_law_order", "_law_tables_here", "_law_first", "_law_last"] [])(mSU:mg "_law_shut_right"=some (.ref fSU))
   (GSK:au P w K mg base CX0 6 fSK fdSK ["_law_house", "_law_row_here", "_law_day", "_law_found", "_law_goal"] (jB K CH CB))(kSK:PySem.W.keepIn K (.ref fSK)=true)(bSK:aE K fdSK ["_law_house", "_law_row_here", "_law_day", "_law_found", "_law_goal"] [])(mSK:mg "_law_shut_kept"=some (.ref fSK))
   (GLo:au P w K mg base CX0 1 fLo fdLo ["_law_found", "_law_known", "_law_most"] (kE K))(kLo:PySem.W.keepIn K (.ref fLo)=true)(bLo:aE K fdLo ["_law_found", "_law_known", "_law_most"] [])(mLo:mg "_law_list_of_names"=some (.ref fLo))
   (GNR:au P w K mg base CX0 3 fNR fdNR ["_law_numbers", "_law_order", "_law_tables_here", "_law_first"] (j9 K))(kNR:PySem.W.keepIn K (.ref fNR)=true)(bNR:aE K fdNR ["_law_numbers", "_law_order", "_law_tables_here", "_law_first"] [])(mNR:mg "_law_numbers_right"=some (.ref fNR))
   (GFB:au P w K mg base CX0 2 fFB fdFB ["_law_order", "_law_tables_here", "_law_row_here", "_law_first", "_law_last"] (kJ K))(kFB:PySem.W.keepIn K (.ref fFB)=true)(bFB:aE K fdFB ["_law_order", "_law_tables_here", "_law_row_here", "_law_first", "_law_last"] [])(mFB:mg "_law_first_by_names"=some (.ref fFB))
   (GTI:au P w K mg base CX0 1 fTI fdTI ["_law_found", "_law_due"] mP)(kTI:PySem.W.keepIn K (.ref fTI)=true)(bTI:aE K fdTI ["_law_found", "_law_due"] [])(mTI:mg "_law_text_is"=some (.ref fTI))
   (GHR:au P w K mg base (CX1 P w) 5 fHR fdHR ["self", "cloth", "shade"] (nh CH CB cBN cKn cNS cFu))(hmHR:bW K CH "bring" fHR)(bHR:aE K fdHR ["self", "cloth", "shade"] [])
   (GHB:au P w K mg base (CX1 P w) 2 fHB fdHB ["self", "day"] (jj CH CB cND))(hmHB:bW K CH "book" fHB)(bHB:aE K fdHB ["self", "day"] [])
   (GHS:au P w K mg base (CX1 P w) 3 fHS fdHS ["self", "cloth", "day"] (js CH CB cNC cND))(hmHS:bW K CH "shade" fHS)(bHS:aE K fdHS ["self", "cloth", "day"] [])
   (GHQ:au P w K mg base (CX1 P w) 5 fHQ fdHQ ["self", "cloth", "bath", "day"] (lG CH CB cNC cNB cND cLa cFu))(hmHQ:bW K CH "dip" fHQ)(bHQ:aE K fdHQ ["self", "cloth", "bath", "day"] [])
   (MH:Mk K CH fHI)(GHI:au P w K mg base CX0 1 fHI fdHI ["self", "book"] (qh CH CB))(bHI:aE K fdHI ["self", "book"] [])(mCH:mg "House"=some (.ref CH)) :
   au P w K mg base CX0 9 f fd ["_law_script"] (pS K):=by
 refine F.ok dN (fun vs H Q E h=>?_) (fun cdv A outer s H vs Q E hr h=>?_)
 · obtain⟨_,_,rfl,_⟩:=h
   rfl
 · obtain⟨a,ns,rfl,ha,hn,q⟩:=h
   have hu:(cJ CX0 P w K mg base ["_law_script", "_law_shades", "_law_baths", "_law_spare", "_law_other", "_law_tables_here", "_law_order", "_law_house", "_law_first", "_law_day", "_law_at_here", "_law_goal", "_law_found", "_law_row_here", "_law_right", "_law_counted", "_law_k", "_law_told"] "law" (af kg) f cdv A outer s H E).A.units+1 < cLine:=by
     have:=hr.units
     exact Nat.lt_of_le_of_lt (Nat.add_le_add_left (by decide) _) this
   have cH:=hX.c
   have hr1:=hr.mono (j:=1) (by omega)
   have hr2:=hr.mono (j:=2) (by omega)
   have hr3:=hr.mono (j:=3) (by omega)
   have hr4:=hr.mono (j:=4) (by omega)
   have hr5:=hr.mono (j:=5) (by omega)
   have hr6:=hr.mono (j:=6) (by omega)
   have hr8:=hr.mono (j:=8) (by omega)
   refine⟨_,(ak (lY (ay GDr hr5 rfl mDr kDr bDr .nil aZ (aa (pv 0) ac)) (dS (n:=4) rfl (aX (ap (i:=1) dN.nd rfl (Or.inl rfl)) (aX (ap (i:=2) dN.nd rfl (Or.inl rfl)) (aX (ap (i:=3) dN.nd rfl (Or.inl rfl)) (aX (ap (i:=4) dN.nd rfl (Or.inl rfl)) dm))))))
     (ak (aB (i:=5) dN.nd rfl (Or.inl rfl) (ay GTa hr1 rfl mTa kTa bTa .nil aZ (aa (pv 1) (aa (pv 2) ac))))
     (ak (aB (i:=6) dN.nd rfl (Or.inl rfl) (al fu (by rfl) T.sorted (by decide +kernel) (aa (pv 1) ac)))
     (ak (aB (i:=7) dN.nd rfl (Or.inl rfl) (lT MH GHI hr2 rfl mCH bHI .nil aZ (aa (ay GHd hr6 rfl mHd kHd bHd .nil aZ (aa (pv 1) (aa (pv 2) ac))) ac)))
     (ak (aB (i:=8) dN.nd rfl (Or.inl rfl) (bc aP (pv 1) (aH bK (ay GA hr1 rfl mA kA bA .nil aZ (aa (pv 0) (aa aj ac))) (al ao (by rfl) T.len PySem.boot_len (aa (pv 1) ac))) (fun _ _=>rfl)))
     (ak (aW (bq (pv 7) cH hmHR GHR hr5 bHR .nil il (aa bQ (aa (pv 8) ac))))
     (ak (lY (ay GLv hr8 rfl mLv kLv bLv .nil aZ (aa (pv 7) (aa (pv 0) (aa (pv 6) (aa (pv 5) (aa (pv 8) ac)))))) (dS (n:=2) rfl (aX (ap (i:=9) dN.nd rfl (Or.inl rfl)) (aX (ap (i:=10) dN.nd rfl (Or.inl rfl)) dm))))
     (ak (aB (i:=11) dN.nd rfl (Or.inl rfl) (bc aP (pv 6) (aH bK (ay GA hr1 rfl mA kA bA .nil aZ (aa (pv 0) (aa aj ac))) (al ao (by rfl) T.len PySem.boot_len (aa (pv 6) ac))) (fun _ _=>rfl)))
     (ak (aB (i:=12) dN.nd rfl (Or.inl rfl) (ay GWy hr4 rfl mWy kWy bWy .nil aZ (aa (bq (pv 7) cH hmHB GHB hr2 bHB .nil il (aa (pv 9) ac)) (aa (bq (pv 7) cH hmHS GHS hr3 bHS .nil il (aa bQ (aa (pv 9) ac))) (aa (pv 11) ac)))))
     (ak (aV (cM (cE (ay GPr hr1 rfl mPr kPr bPr .nil aZ (aa (pv 12) ac)))) (ai (az cv)) ar)
     (ak (aV (ax vy (bc du (pv 12) aj (fun _ _=>rfl)) rz (aK _)) (aq (aB (i:=13) dN.nd rfl (Or.inl rfl) (ay GRw hr2 rfl mRw kRw bRw .nil aZ (aa (ay GA hr1 rfl mA kA bA .nil aZ (aa (pv 0) (aa aj ac))) (aa (aH bK (ay GA hr1 rfl mA kA bA .nil aZ (aa (pv 0) (aa aj ac))) aj) (aa (al (dG rfl) (by rfl) T.sorted (by decide +kernel) (aa (pv 5) ac)) (aa aj ac))))))
     (aq (aB (i:=14) dN.nd rfl (Or.inl rfl) (ay GSU hr2 rfl mSU kSU bSU .nil aZ (aa (bc du (pv 12) aj (fun _ _=>rfl)) (aa (pv 6) (aa (pv 5) (aa (pv 10) (aa (pv 11) ac)))))))
     (ai (az (lW (pv 14) (lV (ay GSK hr6 rfl mSK kSK bSK .nil aZ (aa (pv 7) (aa (pv 13) (aa (pv 9) (aa (bc du (pv 12) aj (fun _ _=>rfl)) (aa (pv 11) ac)))))))))))) ar)
     (ak (aV (PW.pt (dC (cM (cE (ay GLo hr1 rfl mLo kLo bLo .nil aZ (aa (bc du (pv 12) aj (fun _ _=>rfl)) (aa (pv 5) (aa aj ac)))))) (dB (cM (cE (ay GNR hr3 rfl mNR kNR bNR .nil aZ (aa (bc du (pv 12) aj (fun _ _=>rfl)) (aa (pv 6) (aa (pv 5) (aa (pv 10) ac)))))))))) (ai (az cv)) ar)
     (ak (aB (i:=15) dN.nd rfl (Or.inl rfl) (bw (jw rfl) (by rfl) T.dict (by decide +kernel) (aa (bc du (pv 12) aj (fun _ _=>rfl)) ac)))
     (ak (aV (cM (cE (ay GFB hr2 rfl mFB kFB bFB .nil aZ (aa (pv 6) (aa (pv 5) (aa (bc du (pv 12) aj (fun _ _=>rfl)) (aa (pv 10) (aa (pv 11) ac)))))))) (ai (az cv)) ar)
     (ak (bu PassesOwn.never rfl (cu rfl T.range (aa (al ao (by rfl) T.len PySem.boot_len (aa (bc du (pv 12) aj (fun _ _=>rfl)) ac)) ac)) (ap (i:=16) dN.nd rfl (Or.inl rfl)) (ak (aB (i:=17) dN.nd rfl (Or.inl rfl) (bq (pv 7) cH hmHQ GHQ hr5 bHQ .nil il (aa bQ (aa (bc aP (bc du (pv 12) aj (fun _ _=>rfl)) (pv 16) (fun _ _=>rfl)) (aa (pv 9) ac)))))
     (ai (aV (PW.pt (dC (cM (cE (al cR (by rfl) T.isi (by decide +kernel) (aa (pv 17) (aa (dv (v:=.ty "str") rfl T.str (by decide +kernel) rfl) ac))))) (dC (dL (cU hu (pv 17) (pv 15))) (dB (ax lg (bn hu (pv 15) (pv 17) (fun _ _=>rfl)) (aH b9 (pv 16) aj) (aK _)))))) (ai (az cv)) ar))))
     (ai (az (ay GTI hr1 rfl mTI kTI bTI .nil aZ (aa (bq (pv 7) cH hmHS GHS hr3 bHS .nil il (aa bQ (aa (pv 9) ac))) (aa (pv 11) ac)))))))))))))))))))),?_⟩
   have hs:=bi
   have lk0:∀ {A0:Ad}{m:Str}{dd:Int},(m==Str.ofString "first_shades")=false→(m==Str.ofString "day_now")=false→(m==Str.ofString "standing")=false→(m==Str.ofString "books_from")=false→List.lookup m (hfs A0 dd)=none:=fun h1 h2 h3 h4=>fW h1 h2 h3 h4
   have hcloS:Shw clo:=⟨by decide +kernel,by decide +kernel⟩
   have hcloG:cq clo=true:=by decide +kernel
   refine bg (fun σ' H'=>∃ l lb ss bs v3 v4,σ'=[some (.ref a),some (.ref l),some (.ref lb),v3,v4,none,none,none,none,none,none,none,none,none,none,none,none,none]∧ae H H'∧H' l=some (.lst (ss.map V.str))∧ik H' lb bs∧aR ss bs) (fun R hR=>?_) ?_
   · walk_at "dm"
     exact⟨a,ns,rfl,ha,fun p l lb ss bs spare other H' S h1 h2 h3 h4 h5 B _ _ _ _=>⟨p,_,rfl,SqT.of h1,rfl,_,_,rfl,_,_,rfl,_,_,rfl,_,_,rfl,rfl,hR _ _ ⟨l,lb,ss,bs,_,_,rfl,S,h3,h5,B⟩⟩⟩
   rintro σ1 H1 ⟨l,lb,ss,bs,v3,v4,rfl,S1,hl,hb,B⟩
   have hs12:=B.s12
   have hs1:=B.s1
   have hb8:=B.b8
   refine bg (fun σ' H'=>∃ tb,σ'=[some (.ref a),some (.ref l),some (.ref lb),v3,v4,some (.ref tb),none,none,none,none,none,none,none,none,none,none,none,none]∧ae H1 H'∧ve H' tb ss bs∧H1 tb=none) (fun R hR=>?_) ?_
   · walk_at "dm"
     exact⟨l,lb,ss,bs,rfl,SqL.of hl,hb,B,fun d H' hd S hT=>hR _ _ ⟨d,rfl,S,hT,hd⟩⟩
   rintro σ2 H2 ⟨tb,rfl,S2,hT2,htb1⟩
   refine bg (fun σ' H'=>∃ (lo:Addr)(so:List Str),σ'=[some (.ref a),some (.ref l),some (.ref lb),v3,v4,some (.ref tb),some (.ref lo),none,none,none,none,none,none,none,none,none,none,none]∧ae H2 H'∧H' lo=some (.lst (so.map V.str))∧so.Perm ss∧PyProof.Rows.sortedS so=true) (fun R hR=>?_) ?_
   · walk_at "dm"
     exact⟨ss,SqL.of (S2 _ _ hl),by omega,fun ls so hls hpm hso=>hR _ _ ⟨ls,so,rfl,ae.updN hls,ad,hpm,hso⟩⟩
   rintro σ3 H3 ⟨lo,so,rfl,S3,hlo,hpm,hso⟩
   have hsl:so.length=ss.length:=hpm.length_eq
   refine bg (fun σ' H'=>∃ (A0:Ad)(W:Hp),σ'=[some (.ref a),some (.ref l),some (.ref lb),v3,v4,some (.ref tb),some (.ref lo),some (.ref A0.x),none,none,none,none,none,none,none,none,none,none]∧ae H3 (hid H' A0)∧ba H' CH CB A0 W ss ⟨[],1,[],[(1,(ss,bs))]⟩∧∀ b o,H3 b=some o→W b=none) (fun R hR=>?_) ?_
   · walk_at "dm"
     refine⟨l,lb,ss,bs,rfl,SqL.of ((S2.trans S3) _ _ hl),ae.bths (S2.trans S3) hb,B,fun r H' hr S hbk=>?_⟩
     show ∀ (x dx:Addr),_
     intro x dx hx hdx hne
     have S6:ae H' (hide (upd (upd H' dx (.own x)) x (.ins CH dx [])) x):=fun y o e=>by
       rw[bP (aw e hx),ag (aw e hx),ag (aw e hdx)];exact e
     exact⟨x,dx,r,dJ H3 H',ss,bs,rfl,ad,kK.trans S6,hbk,fun A0 H2 hA S7 hh=>⟨rfl,by rw[←hA];exact hR _ _ ⟨A0,_,rfl,(S.trans S6).trans S7,hh,fun b o e=>by unfold dJ;rw[e]⟩⟩⟩
   rintro σ4 H4 ⟨A0,W,rfl,S4,hh4,hW4⟩
   have ho4:=cy.new B
   have S04:=((S1.trans S2).trans S3).trans (S4.trans bp)
   have ha4:=S04.seq ha
   refine bg (fun σ' H'=>∃ fi,fi∈ss∧σ'=[some (.ref a),some (.ref l),some (.ref lb),v3,v4,some (.ref tb),some (.ref lo),some (.ref A0.x),some (.str fi),none,none,none,none,none,none,none,none,none]∧H'=H4) (fun R hR=>?_) ?_
   · walk_at "dm"
     obtain⟨z,hz,hza⟩:=rV (ws:=ss) (atL ns 14) (by omega)
     have hl4:=bp _ _ (S4 _ _ ((S2.trans S3) _ _ hl))
     refine dF ha4 (by decide) ⟨_,.inl (SqL.of hl4),_,rfl,by rw[List.length_map];omega,_,SqL.of hl4,V.str z,?_,hR _ _ ⟨z,hz,rfl,rfl⟩⟩
     rw[List.length_map]
     exact hza
   rintro σ5 H5 ⟨fi,hfi,rfl,rfl⟩
   refine bg (fun σ' H'=>σ'=[some (.ref a),some (.ref l),some (.ref lb),v3,v4,some (.ref tb),some (.ref lo),some (.ref A0.x),some (.str fi),none,none,none,none,none,none,none,none,none]∧ae (hid H5 A0) (hid H' A0)∧ba H' CH CB A0 W ss ⟨[(clo,fi)],1,[],[(1,(ss,bs))]⟩) (fun R hR=>?_) ?_
   · walk_at "dm"
     exact⟨A0.dx,_,hh4.ins,lk0 (by decide +kernel) (by decide +kernel) (by decide +kernel) (by decide +kernel),A0,W,ss,_,_,_,fi,rfl,hh4,ho4,Nat.zero_le _,hcloS,B.snw fi hfi,fun hn=>absurd (hcloG.symm.trans hn) (by decide),fun _ hn=>absurd hn List.not_mem_nil,fun _ _ hn=>absurd hfi hn,fun _ _ _ hn=>absurd hn (by show ¬(50≤0);omega),fun _ _ _ _ H2 S2 hh2=>hR _ _ ⟨rfl,S2,hh2⟩⟩
   rintro σ6 H6 ⟨rfl,S6,hh6⟩
   have ho6:cy ss (bs.map (·.1)) ⟨[(clo,fi)],1,[],[(1,(ss,bs))]⟩:=ho4.bring List.not_mem_nil hfi hcloG
   obtain⟨ds3,ht3,htl3,hti3⟩:=hT2
   have SV:=S3.trans (S4.trans S6)
   have htb6:=SV _ _ ht3
   have tm6:gk (hid H6 A0) W tb ss (bs.map (·.1)) (lkB ss bs):=gk.new B htb6 htl3 (fun i r b hr hb=>ae.hide SV _ _ (hti3 i r b hr hb)) (hW4 _ _ (S3 _ _ ht3))
   have J6:J39 H6 (hide (hid H6 A0) tb) CH CB A0 W tb ss (bs.map (·.1)) fi 1 0 ⟨[(clo,fi)],1,[],[(1,(ss,bs))]⟩ fi (lkB ss bs):=⟨cz,iC,hh6,ho6,tm6,rfl,Int.le_refl _,Int.le_refl _,fun e he=>(by cases he),by omega,rfl,hfi,fun _ _ _ _=>rfl⟩
   have haQ:SqL K (hide (hid H6 A0) tb) a (ns.map V.int):=rE (((S1.trans S2).trans SV).seq ha) htb6
   have hlo6:=(S4.trans S6) _ _ hlo
   have hloQ:hide (hid H6 A0) tb lo=some (.lst (so.map V.str)):=by
     rw[bP (fun e=>by rw[e,htb6] at hlo6;cases hlo6)];exact hlo6
   generalize hide (hid H6 A0) tb=B0 at J6 haQ hloQ
   have hnn:(bs.map (·.1)).Nodup:=B.bnd
   have hns8:(bs.map (·.1)).length≤8:=by rw[List.length_map];exact hb8
   have hnS:∀ n∈bs.map (·.1),Shw n:=fun n hn=>by
     obtain⟨b',hb',rfl⟩:=List.mem_map.mp hn
     exact B.bnw b' hb'
   refine bg (fun σ' H'=>∃ (W':Hp) (h':Hs) (day dipped:Int) (at_:Str)(lk':Str→Str→Str),σ'=[some (.ref a),some (.ref l),some (.ref lb),v3,v4,some (.ref tb),some (.ref lo),some (.ref A0.x),some (.str fi),some (.int day),some (.str at_),none,none,none,none,none,none,none]∧J39 H' B0 CH CB A0 W' tb ss (bs.map (·.1)) fi day dipped h' at_ lk'∧h'.dp.length≤12∧day≤25) (fun R hR=>?_) ?_
   · walk_at "dm"
     refine⟨A0,W,B0,a,lo,tb,ss,bs.map (·.1),so,ns,fi,_,_,rfl,J6,rfl,haQ,hn,hloQ,hpm,hso,B.snd,hs1,hs12,hnn,hns8,hnS,B.snw,fun t H' W' h' day dipped at_ lk' J h1 h2 ht=>?_⟩
     exact e6 ht (hR _ _ ⟨W',h',day,dipped,at_,lk',rfl,J,h1,h2⟩)
   rintro σ7 H7 ⟨W',h',day,dipped,at_,lk',rfl,J7,hdl7,hday7⟩
   have ha7:=(J7.S.trans bp).seq haQ
   have hlo7:=bp _ _ (J7.S _ _ hloQ)
   refine bg (fun σ' H'=>∃ goal,goal∈ss∧σ'=[some (.ref a),some (.ref l),some (.ref lb),v3,v4,some (.ref tb),some (.ref lo),some (.ref A0.x),some (.str fi),some (.int day),some (.str at_),some (.str goal),none,none,none,none,none,none]∧H'=H7) (fun R hR=>?_) ?_
   · walk_at "dm"
     obtain⟨z,hz,hza⟩:=rV (ws:=so) (atL ns 15) (by omega)
     refine dF ha7 (by decide) ⟨_,.inl (SqL.of hlo7),_,rfl,by rw[List.length_map];omega,_,SqL.of hlo7,V.str z,?_,hR _ _ ⟨z,hpm.mem_iff.mp hz,rfl,rfl⟩⟩
     rw[List.length_map]
     exact hza
   rintro σ8 H8 ⟨goal,hgoal,rfl,rfl⟩
   have hd1:=J7.d1
   have hday:1≤day∧day≤400:=⟨J7.d1,by omega⟩
   obtain⟨Bd,hNd,hZd⟩:=J7.ho.on day
   have hclo:clo∈h'.cl.map (·.1):=by rw[J7.cl];exact List.mem_cons_self
   have hbv:∀ n∈bs.map (·.1),∀ z∈ss,lk' n z=lkB (aQ h'.bk day).1 (aQ h'.bk day).2 n z:=fun n hn z hz=>by
     rw[lq J7.ho J7.d0];exact(J7.bv n hn z hz).symm
   have hcls:∀ n∈bs.map (·.1),∀ z∈ss,lkB (aQ h'.bk day).1 (aQ h'.bk day).2 n z∈ss:=fun n hn z hz=>(hZd _).mp (gF Bd n ((hNd n).mpr hn) z ((hZd z).mpr hz))
   have hG8:gN H8 tb ss (bs.map (·.1)) (lkB (aQ h'.bk day).1 (aQ h'.bk day).2):=gN.congr (Fz.tabG (ae.fz bp) J7.tm.tabG) hbv
   have hatb:=(hZd at_).mpr J7.am
   refine bg (fun σ' H'=>∃ (fo:Addr)(R:Rows)(so2:List Str),σ'=[some (.ref a),some (.ref l),some (.ref lb),v3,v4,some (.ref tb),some (.ref lo),some (.ref A0.x),some (.str fi),some (.int day),some (.str at_),some (.str goal),some (.ref fo),none,none,none,none,none]∧ae H8 H'∧gd (aQ h'.bk day).1 (aQ h'.bk day).2 at_ R∧so2.Perm (aM R)∧PyProof.Rows.sortedS so2=true∧wj H8 H' fo R goal so2) (fun R9 hR9=>?_) ?_
   · walk_at "dm"
     refine⟨A0.dx,_,J7.hh.ins,lk0 (by decide +kernel) (by decide +kernel) (by decide +kernel) (by decide +kernel),A0,W',ss,_,h',day,rfl,J7.hh,J7.ho,fun _ r H9 S9 hbk=>?_,fun hn=>absurd hday hn⟩
     have hh9:=ae.house S9 J7.hh
     refine⟨A0.dx,_,hh9.ins,lk0 (by decide +kernel) (by decide +kernel) (by decide +kernel) (by decide +kernel),A0,W',ss,_,h',clo,day,rfl,hh9,J7.ho,hcloS,fun _ _ H10 S10=>?_,fun hn=>absurd hclo hn,fun _ hn=>absurd hday hn⟩
     rw[J7.av]
     refine⟨r,_,_,at_,goal,rfl,ae.book ((hh9.up).trans S10) hbk,Bd,hatb,(hZd goal).mpr hgoal,fun R t rw' nm ps so2 H11 hW hy hp1 hp2 S11 n1 _ _ h1 h2 h3 h4=>hR9 _ _ ⟨t,R,so2,rfl,S9.trans (S10.trans S11),hW,hp1,hp2,.inl ⟨rw',nm,ps,hy,(S9.trans S10).free n1,h1,h2,h3,h4⟩⟩,fun R t ls so2 H11 hW hy hp1 hp2 S11 n1 h1 h2=>hR9 _ _ ⟨t,R,so2,rfl,S9.trans (S10.trans S11),hW,hp1,hp2,.inr ⟨ls,hy,(S9.trans S10).free n1,h1,h2⟩⟩⟩
   rintro σ9 H9 ⟨fo,R,so2,rfl,S9,hWF,hsp,hss2,hTell⟩
   have J9:=J7.same S9
   have hG9:=Fz.tabG (ae.fz S9) hG8
   have hlo9:=S9 _ _ hlo7
   have ha9:=S9.seq ha7
   have hPd:¬PzH A0 W' tb:=by
     obtain⟨kvs,hkv,_⟩:=J9.tm.htb
     exact PzH.not hkv J9.tm.wtb
   have hPn:=PzH.here J9.hh
   refine bg (fun σ' H'=>σ'=[some (.ref a),some (.ref l),some (.ref lb),v3,v4,some (.ref tb),some (.ref lo),some (.ref A0.x),some (.str fi),some (.int day),some (.str at_),some (.str goal),some (.ref fo),none,none,none,none,none]∧H'=H9) (fun R hR=>?_) ?_
   · obtain⟨x,y,ht⟩:∃ x y,H9 fo=some (.tup [x,y]):=by
       rcases hTell with ⟨_,_,_,_,_,h1,_⟩ | ⟨_,_,_,h1,_⟩
       · exact⟨_,_,h1⟩
       · exact⟨_,_,h1⟩
     walk_at "dm"
     exact⟨fo,_,_,rfl,ht,true,rfl,aY (fun h=>by cases h) (fun _=>hR _ _ ⟨rfl,rfl⟩)⟩
   rintro σ10 H10 ⟨rfl,rfl⟩
   refine bg (fun σ' H'=>∃ (rw nm:Addr)(ps:List Addr),σ'=[some (.ref a),some (.ref l),some (.ref lb),v3,v4,some (.ref tb),some (.ref lo),some (.ref A0.x),some (.str fi),some (.int day),some (.str at_),some (.str goal),some (.ref fo),none,none,none,none,none]∧H'=H10∧goal∈aM R∧H8 rw=none∧H10 fo=some (.tup [.ref rw,.ref nm])∧H10 rw=some (.lst ((aO R goal).map V.str))∧H10 nm=some (.lst (ps.map V.ref))∧eQ H10 ps (so2.map fun z=>[.str z,.int (((aO R z).length:Nat):Int)])) (fun R9 hR9=>?_) ?_
   · rcases hTell with ⟨rw',nm,ps,hy,n1,h1,h2,h3,h4⟩ | ⟨ls,hy,n1,h1,h2⟩
     · walk_at "dm"
       exact⟨_,SqT.of h1,_,rfl,aY (fun e=>by cases e) (fun _=>hR9 _ _ ⟨rw',nm,ps,rfl,rfl,hy,n1,h1,h2,h3,h4⟩)⟩
     · walk_at "dm"
       refine⟨_,SqT.of h1,_,rfl,aY (fun _=>?_) (fun e=>absurd rfl e)⟩
       have SO:=(gd.shut hWF Bd hatb hsp hss2 hy (hpm.trans (iZ J9.ho B.snd day).symm)).ns hNd hZd
       obtain⟨kvs,hRd,hkeys,_⟩:=id hG9
       obtain⟨m,hm⟩:∃ m:Nat,atL ns 17 % 13=(m:Int):=Int.eq_ofNat_of_zero_le (by omega)
       refine dF ha9 (by decide) (dF ha9 (by decide) ⟨_,rfl,by decide,bs.map (·.1),kvs,hRd,hkeys,by omega,fun p ts hp hpp _=>?_⟩)
       rw[hm]
       have Sp:=ae.updN (o:=.lst (ts.map V.str)) hp
       refine⟨_,_,m,p,ts,rfl,SqL.of ad,by omega,by rw[hpp.length_eq];exact hns8,.inr rfl,fun p2 row H11 hp2 S11 hH hlen hrow=>?_⟩
       have SS:=Sp.trans S11
       have J11:=J9.same SS
       have hp20:=Sp.free hp2
       refine⟨_,SqT.of (SS _ _ h1),_,rfl,PzH A0 W',ls,lo,tb,so2,so,ss,bs.map (·.1),_,at_,goal,rfl,SS _ _ h2,SqL.of (SS _ _ hlo9),Fz.tabG (ae.fz SS) hG9,SO,hPd,PzH.here J11.hh,fun H12 F12=>⟨true,rfl,aY (fun _=>?_) (fun h=>absurd rfl h)⟩⟩
       have hh12:=J11.hh.fzp F12
       exact⟨_,SqT.of (F12.1 _ _ (SS _ _ h1) (fun _ e=>by cases e)),_,rfl,A0,W',p2,ls,ss,bs.map (·.1),row,so2,fi,goal,h',day,rfl,hh12,J11.ho,J11.cl,J11.d0,hday,hdl7,by rw[J11.av];exact SO.hz,F12.hid (f8 J9.hh hp20 hH) (fun _ e=>by cases e),hlen,fun n hn=>hpp.mem_iff.mp (hrow n hn),hnS,F12.hid (f8 J7.hh n1 (SS _ _ h2)) (fun _ e=>by cases e),SO.cl,fun x hx=>(SO.ins x hx).2,SO.hy,q⟩
   rintro σ11 H11 ⟨rw',nm,ps,rfl,rfl,hy,n1,h1,h2,h3,h4⟩
   have NO:=(gd.num hWF Bd hatb hsp hss2).ns hNd hZd
   have BO:=(gd.row hWF hy).ns hNd
   have hr11:(((aO R goal).length:Nat):Int)≤11:=by
     have:=hWF.len _ (d6 hWF.nd hy)
     dsimp only at this
     omega
   refine bg (fun σ' H'=>σ'=[some (.ref a),some (.ref l),some (.ref lb),v3,v4,some (.ref tb),some (.ref lo),some (.ref A0.x),some (.str fi),some (.int day),some (.str at_),some (.str goal),some (.ref fo),none,none,none,none,none]∧FzP (PzH A0 W') H11 H') (fun R9 hR9=>?_) ?_
   · walk_at "dm"
     obtain⟨kvs,hRd,hkeys,_⟩:=id hG9
     exact⟨_,SqT.of h1,_,rfl,rw',tb,aO R goal,bs.map (·.1),kvs,11,rfl,h2,hRd,hkeys,BO.1,hr11,true,rfl,aY (fun h=>by cases h) (fun _=>⟨_,SqT.of h1,_,rfl,PzH A0 W',nm,lo,tb,ps,so2,ss,bs.map (·.1),_,at_,R,rfl,h3,h4,⟨so,SqL.of hlo9,fun z hz=>hpm.mem_iff.mpr (NO.ins z hz).1⟩,hG9,hcls,NO,hns8,hPd,hPn,fun H12 F12=>⟨true,rfl,aY (fun h=>by cases h) (fun _=>hR9 _ _ ⟨rfl,F12⟩)⟩⟩)⟩
   rintro σ12 H12 ⟨rfl,F12⟩
   have hh12:=J9.hh.fzp F12
   have h1':=F12.1 _ _ h1 (fun _ e=>by cases e)
   have h2':=F12.1 _ _ h2 (fun _ e=>by cases e)
   have h3':=F12.1 _ _ h3 (fun _ e=>by cases e)
   have h4':eQ H12 ps (so2.map fun z=>[.str z,.int (((aO R z).length:Nat):Int)]):=⟨h4.1,fun i p e hp he=>F12.1 _ _ (h4.2 i p e hp he) (fun _ e=>by cases e)⟩
   have hpl:ps.length=so2.length:=by have:=h4.1;rw[List.length_map] at this;exact this
   have hlo12:=F12.1 _ _ hlo9 (fun _ e=>by cases e)
   have hG12:=Fz.tabG F12.fz hG9
   have hso12:=NO.len
   have hsnd:so2.Nodup:=hsp.nodup_iff.mpr hWF.nd
   refine bg (fun σ' H'=>∃ c,H12 c=none∧σ'=[some (.ref a),some (.ref l),some (.ref lb),v3,v4,some (.ref tb),some (.ref lo),some (.ref A0.x),some (.str fi),some (.int day),some (.str at_),some (.str goal),some (.ref fo),none,none,some (.ref c),none,none]∧H'=upd H12 c (.dK (bj so2 (so2.map fun z=>V.int (((aO R z).length:Nat):Int))))) (fun R9 hR=>?_) ?_
   · walk_at "dm"
     refine⟨_,SqT.of h1',_,rfl,nm,rfl,ps,SqL.of h3',so2.map fun z=>(z,V.int (((aO R z).length:Nat):Int)),by rw[List.length_map];exact hpl,fun i p e hp he=>?_,by rw[List.length_map];omega,fun p hp=>hR _ _ ⟨p,hp,rfl,?_⟩⟩
     · rw[List.getElem?_map] at he
       obtain⟨z,hz,rfl⟩:=Option.map_eq_some_iff.mp he
       exact h4'.2 i p _ hp (by rw[List.getElem?_map,hz];rfl)
     · rw[uq,uf,fZ hsnd]
   rintro σ13 H13 ⟨c,hc12,rfl,rfl⟩
   have S13:ae H12 (upd H12 c (.dK (bj so2 (so2.map fun z=>V.int (((aO R z).length:Nat):Int))))):=ae.updN hc12
   have hc13:upd H12 c (.dK (bj so2 (so2.map fun z=>V.int (((aO R z).length:Nat):Int)))) c=some (.dK (bj so2 (so2.map fun z=>V.int (((aO R z).length:Nat):Int)))):=ad
   generalize upd H12 c (.dK (bj so2 (so2.map fun z=>V.int (((aO R z).length:Nat):Int))))=H13 at *
   have hh13:=ae.house S13 hh12
   have hcA:c≠A0.x∧c≠A0.d1∧c≠A0.ls∧c≠A0.db:=by
     have:=(dU (f8 hh12 hc12 hc13)).2
     exact this
   refine bg (fun σ' H'=>σ'=[some (.ref a),some (.ref l),some (.ref lb),v3,v4,some (.ref tb),some (.ref lo),some (.ref A0.x),some (.str fi),some (.int day),some (.str at_),some (.str goal),some (.ref fo),none,none,some (.ref c),none,none]∧FzP (PzH A0 W') H13 H') (fun R9 hR9=>?_) ?_
   · walk_at "dm"
     exact⟨_,SqT.of (S13 _ _ h1'),_,rfl,PzH A0 W',lo,tb,rw',so,ss,bs.map (·.1),aO R goal,_,goal,at_,rfl,SqL.of (S13 _ _ hlo12),hpm,hs12,Fz.tabG (ae.fz S13) hG12,hcls,hgoal,J9.am,S13 _ _ h2',by omega,BO,hPd,PzH.here hh13,fun H' F=>⟨true,rfl,aY (fun h=>by cases h) (fun _=>hR9 _ _ ⟨rfl,F⟩)⟩⟩
   rintro σ14 H14 ⟨rfl,F14⟩
   have hh14:=hh13.fzp F14
   have hrw8:=f8 J7.hh n1 (F14.1 _ _ (S13 _ _ h2') (fun _ e=>by cases e))
   have hfo14:=F14.1 _ _ (S13 _ _ h1') (fun _ e=>by cases e)
   have hfoh:=t4 hh14 hfo14
   have hcr:=F14.2.1 _ _ (.inl hc13)
   refine bg (fun σ' H'=>∃ (W2:Hp) (h2:Hs)(o16 o17:Option V),σ'=[some (.ref a),some (.ref l),some (.ref lb),v3,v4,some (.ref tb),some (.ref lo),some (.ref A0.x),some (.str fi),some (.int day),some (.str at_),some (.str goal),some (.ref fo),none,none,some (.ref c),o16,o17]∧ba H' CH CB A0 W2 ss h2∧cy ss (bs.map (·.1)) h2∧h2.cl=[(clo,fi)]∧bR h2 clo day=goal) (fun R9 hR9=>?_) ?_
   · walk_at "dm"
     have hrw14:=bp _ _ hrw8
     have hcrh:Rd (hid H14 A0) c (.dK (bj so2 (so2.map fun z=>V.int (((aO R z).length:Nat):Int)))):=by
       rcases hcr with h | ⟨o,h⟩
       · exact .inl (g0 h hcA.1 hcA.2.1 hcA.2.2.1 hcA.2.2.2)
       · exact .inr ⟨o,g0 h hcA.1 hcA.2.1 hcA.2.2.1 hcA.2.2.2⟩
     refine⟨_,SqT.of hfo14,_,rfl,rw',rfl,_,.inl (SqL.of hrw14),by rw[List.length_map];omega,by rw[List.length_map];omega,?_⟩
     rw[List.length_map,Int.toNat_natCast]
     refine bf (H0:=fun _=>none) bJ (fun j σ' H'=>∃ (W2:Hp) (h2:Hs)(o16 o17:Option V),σ'=[some (.ref a),some (.ref l),some (.ref lb),v3,v4,some (.ref tb),some (.ref lo),some (.ref A0.x),some (.str fi),some (.int day),some (.str at_),some (.str goal),some (.ref fo),none,none,some (.ref c),o16,o17]∧ae (hid H14 A0) (hid H' A0)∧ba H' CH CB A0 W2 ss h2∧cy ss (bs.map (·.1)) h2∧h2.cl=[(clo,fi)]∧h2.bk=h'.bk∧h2.day≤day∧h2.dp.length≤12+j∧bR h2 clo day=cp (lkB (aQ h'.bk day).1 (aQ h'.bk day).2) ((aO R goal).take j) at_) ⟨W',h',none,none,rfl,ae.refl _,hh14,J7.ho,J7.cl,rfl,J7.d0,hdl7,J7.av⟩ (fun _ _ _ _ _ b o e=>by cases e) ?_ ?_
     · rintro j y σ' H' hj rfl ⟨W2,h2,o16,o17,rfl,hS,hh,ho,ecl,ebk,hdy,hdl,hsh⟩ R2 hR2
       have hz:(0:Int)+(j:Int)=j:=by omega
       rw[hz]
       obtain⟨n,hn⟩:∃ n,(aO R goal)[j]?=some n:=⟨_,List.getElem?_eq_getElem hj⟩
       have hnn2:=BO.1 n (List.mem_of_getElem? hn)
       have hcl2:clo∈h2.cl.map (·.1):=by rw[ecl];exact List.mem_cons_self
       have hin:=hWF.pre hy (k:=j) (by omega)
       have hin1:=hWF.pre hy (k:=j+1) (by omega)
       have hins:=(NO.ins _ (hsp.mem_iff.mpr hin1.1)).1
       have hsn:=lC (lk:=lkB (aQ h'.bk day).1 (aQ h'.bk day).2) (z:=at_) hn
       refine bg (fun σ2 H2=>∃ (W3:Hp) (h3:Hs),σ2=[some (.ref a),some (.ref l),some (.ref lb),v3,v4,some (.ref tb),some (.ref lo),some (.ref A0.x),some (.str fi),some (.int day),some (.str at_),some (.str goal),some (.ref fo),none,none,some (.ref c),some (.int j),some (.str (cp (lkB (aQ h'.bk day).1 (aQ h'.bk day).2) ((aO R goal).take (j+1)) at_))]∧ae (hid H14 A0) (hid H2 A0)∧ba H2 CH CB A0 W3 ss h3∧cy ss (bs.map (·.1)) h3∧h3.cl=[(clo,fi)]∧h3.bk=h'.bk∧h3.day≤day∧h3.dp.length≤12+(j+1)∧bR h3 clo day=cp (lkB (aQ h'.bk day).1 (aQ h'.bk day).2) ((aO R goal).take (j+1)) at_) (fun R3 hR3=>?_) ?_
       · walk_at "dm"
         refine⟨A0.dx,_,hh.ins,lk0 (by decide +kernel) (by decide +kernel) (by decide +kernel) (by decide +kernel),_,SqT.of (bp _ _ (hS _ _ hfoh)),_,rfl,rw',rfl,_,SqL.of (bp _ _ (hS _ _ hrw8)),_,dj hn,A0,W2,ss,bs.map (·.1),h2,clo,n,day,rfl,hh,ho,hcloS,hnS n hnn2,fun hn=>absurd hcl2 hn,fun _ hn=>absurd hnn2 hn,fun _ _ hn=>absurd hday hn,fun _ _ _ hl=>absurd hl (by omega),fun _ _ _ _ hn=>absurd hn (by omega),fun _ _ _ hge hlen H9 W9 S9 G9 hh9=>?_⟩
         have eo:lkB (aQ h2.bk day).1 (aQ h2.bk day).2 n (bR h2 clo day)=cp (lkB (aQ h'.bk day).1 (aQ h'.bk day).2) ((aO R goal).take (j+1)) at_:=by
           rw[hsh,ebk,hsn]
         rw[eo] at hh9 ⊢
         refine hR3 _ _ ⟨W9,_,rfl,hS.trans S9,hh9,ho.dip hday hge hlen hins,ecl,ebk,Int.le_refl _,by show(h2.dp++_).length≤_;rw[List.length_append,List.length_singleton];omega,?_⟩
         rw[gr,if_pos ⟨rfl,Int.le_refl _⟩]
       rintro σ2 H2 ⟨W3,h3,rfl,S2,hh3,ho3,ecl3,ebk3,hdy3,hdl3,hsh3⟩
       have hcr2:=ae.rd bp (ae.rd S2 hcrh)
       have hval:bZ (bj so2 (so2.map fun z=>V.int (((aO R z).length:Nat):Int))) (Sum.inr (cp (lkB (aQ h'.bk day).1 (aQ h'.bk day).2) ((aO R goal).take (j+1)) at_))=some (V.int ((j+1:Nat):Int)):=by
         rw[ub hsnd _ (hsp.mem_iff.mpr hin1.1),hin1.2]
       walk_at "dm"
       exact⟨_,.str _,true,rfl,aY (fun h=>by cases h) (fun _=>⟨some _,.inl ⟨_,Sum.inr _,hcr2,rfl,hval.symm⟩,aY (fun h=>by cases h) (fun _=>⟨_,.inl ⟨_,Sum.inr _,hcr2,rfl,hval.symm⟩,rfl,aY (fun h=>absurd rfl h) (fun _=>hR2 _ _ ⟨W3,h3,_,_,rfl,S2,hh3,ho3,ecl3,ebk3,hdy3,by omega,hsh3⟩)⟩)⟩)⟩
     · rintro σ' H' ⟨W2,h2,o16,o17,rfl,hS,hh,ho,ecl,ebk,hdy,hdl,hsh⟩
       rw[List.take_of_length_le (Nat.le_refl _),BO.2.1] at hsh
       exact hR9 _ _ ⟨W2,h2,_,_,rfl,hh,ho,ecl,hsh⟩
   rintro σ15 H15 ⟨W2,h2,o16,o17,rfl,hh15,ho15,ecl,hsh⟩
   walk_at "dm"
   refine⟨A0.dx,_,hh15.ins,lk0 (by decide +kernel) (by decide +kernel) (by decide +kernel) (by decide +kernel),A0,W2,ss,_,h2,clo,day,rfl,hh15,ho15,hcloS,fun _ _ H16 S16=>?_,fun hn=>absurd (by rw[ecl];exact List.mem_cons_self) hn,fun _ hn=>absurd hday hn⟩
   refine⟨_,_,rfl,?_⟩
   rw[hsh,decide_eq_true rfl]
   exact q _
end

end DM
set_option Elab.async false
set_option linter.all false
set_option maxRecDepth 100000
set_option maxHeartbeats 8000000
namespace DM
open PySem L2
theorem all_mk {l:PySem.W.OpenLaw}{w:World}{K:PySem.W.Frag}{h:Heap}{mg:Str→Option Value}{fa:Addr}(X:K.In h)(G:h.Ns mainGlobals mg)(hfa:mg "law"=some (.ref fa))
   {CB:Addr}
   {fI:Addr}{odI anI:Option Addr}{slI:Array (Option Value)}{ocI kVI dcI pmI cdI ctI:Value}
   {fMS:Addr}{odMS anMS:Option Addr}{slMS:Array (Option Value)}{ocMS kVMS dcMS pmMS cdMS ctMS:Value}
   {fMB:Addr}{odMB anMB:Option Addr}{slMB:Array (Option Value)}{ocMB kVMB dcMB pmMB cdMB ctMB:Value}
   {fMT:Addr}{odMT anMT:Option Addr}{slMT:Array (Option Value)}{ocMT kVMT dcMT pmMT cdMT ctMT:Value}
   {fMX:Addr}{odMX anMX:Option Addr}{slMX:Array (Option Value)}{ocMX kVMX dcMX pmMX cdMX ctMX:Value}
   {fMC:Addr}{odMC anMC:Option Addr}{slMC:Array (Option Value)}{ocMC kVMC dcMC pmMC cdMC ctMC:Value}
   {fMH:Addr}{odMH anMH:Option Addr}{slMH:Array (Option Value)}{ocMH kVMH dcMH pmMH cdMH ctMH:Value}
   {fMO:Addr}{odMO anMO:Option Addr}{slMO:Array (Option Value)}{ocMO kVMO dcMO pmMO cdMO ctMO:Value}
   {CH:Addr}
   {fHI:Addr}{odHI anHI:Option Addr}{slHI:Array (Option Value)}{ocHI kVHI dcHI pmHI cdHI ctHI:Value}
   {fHR:Addr}{odHR anHR:Option Addr}{slHR:Array (Option Value)}{ocHR kVHR dcHR pmHR cdHR ctHR:Value}
   {fHQ:Addr}{odHQ anHQ:Option Addr}{slHQ:Array (Option Value)}{ocHQ kVHQ dcHQ pmHQ cdHQ ctHQ:Value}
   {fHG:Addr}{odHG anHG:Option Addr}{slHG:Array (Option Value)}{ocHG kVHG dcHG pmHG cdHG ctHG:Value}
   {fHB:Addr}{odHB anHB:Option Addr}{slHB:Array (Option Value)}{ocHB kVHB dcHB pmHB cdHB ctHB:Value}
   {fHS:Addr}{odHS anHS:Option Addr}{slHS:Array (Option Value)}{ocHS kVHS dcHS pmHS cdHS ctHS:Value}
   {fHT:Addr}{odHT anHT:Option Addr}{slHT:Array (Option Value)}{ocHT kVHT dcHT pmHT cdHT ctHT:Value}
   {fHP:Addr}{odHP anHP:Option Addr}{slHP:Array (Option Value)}{ocHP kVHP dcHP pmHP cdHP ctHP:Value}
   {fHN:Addr}{odHN anHN:Option Addr}{slHN:Array (Option Value)}{ocHN kVHN dcHN pmHN cdHN ctHN:Value}
   {fHC:Addr}{odHC anHC:Option Addr}{slHC:Array (Option Value)}{ocHC kVHC dcHC pmHC cdHC ctHC:Value}
   {fHD:Addr}{odHD anHD:Option Addr}{slHD:Array (Option Value)}{ocHD kVHD dcHD pmHD cdHD ctHD:Value}
   {fGd:Addr}{odGd anGd:Option Addr}{slGd:Array (Option Value)}{ocGd kVGd dcGd pmGd cdGd ctGd:Value}
   {fCn:Addr}{odCn anCn:Option Addr}{slCn:Array (Option Value)}{ocCn kVCn dcCn pmCn cdCn ctCn:Value}
   {fCs:Addr}{odCs anCs:Option Addr}{slCs:Array (Option Value)}{ocCs kVCs dcCs pmCs cdCs ctCs:Value}
   {fCo:Addr}{odCo anCo:Option Addr}{slCo:Array (Option Value)}{ocCo kVCo dcCo pmCo cdCo ctCo:Value}
   {fCb:Addr}{odCb anCb:Option Addr}{slCb:Array (Option Value)}{ocCb kVCb dcCb pmCb cdCb ctCb:Value}
   {fCD:Addr}{odCD anCD:Option Addr}{slCD:Array (Option Value)}{ocCD kVCD dcCD pmCD cdCD ctCD:Value}
   {fA:Addr}{odA anA:Option Addr}{slA:Array (Option Value)}{ocA kVA dcA pmA cdA ctA:Value}
   {fD:Addr}{odD anD:Option Addr}{slD:Array (Option Value)}{ocD kVD dcD pmD cdD ctD:Value}
   {fN:Addr}{odN anN:Option Addr}{slN:Array (Option Value)}{ocN kVN dcN pmN cdN ctN:Value}
   {fNs:Addr}{odNs anNs:Option Addr}{slNs:Array (Option Value)}{ocNs kVNs dcNs pmNs cdNs ctNs:Value}
   {fTu:Addr}{odTu anTu:Option Addr}{slTu:Array (Option Value)}{ocTu kVTu dcTu pmTu cdTu ctTu:Value}
   {fOu:Addr}{odOu anOu:Option Addr}{slOu:Array (Option Value)}{ocOu kVOu dcOu pmOu cdOu ctOu:Value}
   {fSh:Addr}{odSh anSh:Option Addr}{slSh:Array (Option Value)}{ocSh kVSh dcSh pmSh cdSh ctSh:Value}
   {fNd:Addr}{odNd anNd:Option Addr}{slNd:Array (Option Value)}{ocNd kVNd dcNd pmNd cdNd ctNd:Value}
   {fSz:Addr}{odSz anSz:Option Addr}{slSz:Array (Option Value)}{ocSz kVSz dcSz pmSz cdSz ctSz:Value}
   {fDn:Addr}{odDn anDn:Option Addr}{slDn:Array (Option Value)}{ocDn kVDn dcDn pmDn cdDn ctDn:Value}
   {fTa:Addr}{odTa anTa:Option Addr}{slTa:Array (Option Value)}{ocTa kVTa dcTa pmTa cdTa ctTa:Value}
   {fHd:Addr}{odHd anHd:Option Addr}{slHd:Array (Option Value)}{ocHd kVHd dcHd pmHd cdHd ctHd:Value}
   {fTI:Addr}{odTI anTI:Option Addr}{slTI:Array (Option Value)}{ocTI kVTI dcTI pmTI cdTI ctTI:Value}
   {fRw:Addr}{odRw anRw:Option Addr}{slRw:Array (Option Value)}{ocRw kVRw dcRw pmRw cdRw ctRw:Value}
   {fSR:Addr}{odSR anSR:Option Addr}{slSR:Array (Option Value)}{ocSR kVSR dcSR pmSR cdSR ctSR:Value}
   {fWy:Addr}{odWy anWy:Option Addr}{slWy:Array (Option Value)}{ocWy kVWy dcWy pmWy cdWy ctWy:Value}
   {fPr:Addr}{odPr anPr:Option Addr}{slPr:Array (Option Value)}{ocPr kVPr dcPr pmPr cdPr ctPr:Value}
   {fNF:Addr}{odNF anNF:Option Addr}{slNF:Array (Option Value)}{ocNF kVNF dcNF pmNF cdNF ctNF:Value}
   {fNR:Addr}{odNR anNR:Option Addr}{slNR:Array (Option Value)}{ocNR kVNR dcNR pmNR cdNR ctNR:Value}
   {fLo:Addr}{odLo anLo:Option Addr}{slLo:Array (Option Value)}{ocLo kVLo dcLo pmLo cdLo ctLo:Value}
   {fLy:Addr}{odLy anLy:Option Addr}{slLy:Array (Option Value)}{ocLy kVLy dcLy pmLy cdLy ctLy:Value}
   {fFB:Addr}{odFB anFB:Option Addr}{slFB:Array (Option Value)}{ocFB kVFB dcFB pmFB cdFB ctFB:Value}
   {fSU:Addr}{odSU anSU:Option Addr}{slSU:Array (Option Value)}{ocSU kVSU dcSU pmSU cdSU ctSU:Value}
   {fLv:Addr}{odLv anLv:Option Addr}{slLv:Array (Option Value)}{ocLv kVLv dcLv pmLv cdLv ctLv:Value}
   {fSK:Addr}{odSK anSK:Option Addr}{slSK:Array (Option Value)}{ocSK kVSK dcSK pmSK cdSK ctSK:Value}
   {fL:Addr}{odL anL:Option Addr}{slL:Array (Option Value)}{ocL kVL dcL pmL cdL ctL:Value}
   {xNoDay:Addr}
   {cdNoDay:ClassData}
   {xLate:Addr}
   {cdLate:ClassData}
   {xNoCloth:Addr}
   {cdNoCloth:ClassData}
   {xKnown:Addr}
   {cdKnown:ClassData}
   {xBadName:Addr}
   {cdBadName:ClassData}
   {xFull:Addr}
   {cdFull:ClassData}
   {xNoBath:Addr}
   {cdNoBath:ClassData}
   {xNoShade:Addr}
   {cdNoShade:ClassData}
   {xBadBook:Addr}
   {cdBadBook:ClassData}
   {tlett:Tok}
   {tlong:Tok}
   {tmostS:Tok}
   {tmostB:Tok}
   {tfday:Tok}
   {tlday:Tok}
   {tmostC:Tok}
   {tmostD:Tok}
   (aCB:PySem.W.nsIn K mainGlobals "Book"=some (some (.ref CB)))
   (aI:PySem.W.findIn K (.ref CB) "__init__"=some (some (.ref fI)))
   (iI:PySem.W.isFn K (.ref fI)=true)
   (lI:K.lookup fI=some ⟨ocI,odI,.func (PySem.W.fnOf "__init__" "Book.__init__" (aF hU) (aC hU) (af hU) .none kVI dcI pmI anI cdI ctI),slI⟩)
   (cI:PySem.W.codeIn K cdI "Book.__init__"=true)
   (kI:PySem.W.keepIn K (.ref fI)=true)
   (aMS:PySem.W.findIn K (.ref CB) "shades"=some (some (.ref fMS)))
   (iMS:PySem.W.isFn K (.ref fMS)=true)
   (lMS:K.lookup fMS=some ⟨ocMS,odMS,.func (PySem.W.fnOf "shades" "Book.shades" (aF fc) (aC fc) (af fc) .none kVMS dcMS pmMS anMS cdMS ctMS),slMS⟩)
   (cMS:PySem.W.codeIn K cdMS "Book.shades"=true)
   (kMS:PySem.W.keepIn K (.ref fMS)=true)
   (aMB:PySem.W.findIn K (.ref CB) "baths"=some (some (.ref fMB)))
   (iMB:PySem.W.isFn K (.ref fMB)=true)
   (lMB:K.lookup fMB=some ⟨ocMB,odMB,.func (PySem.W.fnOf "baths" "Book.baths" (aF gz) (aC gz) (af gz) .none kVMB dcMB pmMB anMB cdMB ctMB),slMB⟩)
   (cMB:PySem.W.codeIn K cdMB "Book.baths"=true)
   (kMB:PySem.W.keepIn K (.ref fMB)=true)
   (aMT:PySem.W.findIn K (.ref CB) "table"=some (some (.ref fMT)))
   (iMT:PySem.W.isFn K (.ref fMT)=true)
   (lMT:K.lookup fMT=some ⟨ocMT,odMT,.func (PySem.W.fnOf "table" "Book.table" (aF fU) (aC fU) (af fU) .none kVMT dcMT pmMT anMT cdMT ctMT),slMT⟩)
   (cMT:PySem.W.codeIn K cdMT "Book.table"=true)
   (kMT:PySem.W.keepIn K (.ref fMT)=true)
   (aMX:PySem.W.findIn K (.ref CB) "changed"=some (some (.ref fMX)))
   (iMX:PySem.W.isFn K (.ref fMX)=true)
   (lMX:K.lookup fMX=some ⟨ocMX,odMX,.func (PySem.W.fnOf "changed" "Book.changed" (aF eu) (aC eu) (af eu) .none kVMX dcMX pmMX anMX cdMX ctMX),slMX⟩)
   (cMX:PySem.W.codeIn K cdMX "Book.changed"=true)
   (kMX:PySem.W.keepIn K (.ref fMX)=true)
   (aMC:PySem.W.findIn K (.ref CB) "check_bath"=some (some (.ref fMC)))
   (iMC:PySem.W.isFn K (.ref fMC)=true)
   (lMC:K.lookup fMC=some ⟨ocMC,odMC,.func (PySem.W.fnOf "check_bath" "Book.check_bath" (aF ej) (aC ej) (af ej) .none kVMC dcMC pmMC anMC cdMC ctMC),slMC⟩)
   (cMC:PySem.W.codeIn K cdMC "Book.check_bath"=true)
   (kMC:PySem.W.keepIn K (.ref fMC)=true)
   (aMH:PySem.W.findIn K (.ref CB) "check_shade"=some (some (.ref fMH)))
   (iMH:PySem.W.isFn K (.ref fMH)=true)
   (lMH:K.lookup fMH=some ⟨ocMH,odMH,.func (PySem.W.fnOf "check_shade" "Book.check_shade" (aF eM) (aC eM) (af eM) .none kVMH dcMH pmMH anMH cdMH ctMH),slMH⟩)
   (cMH:PySem.W.codeIn K cdMH "Book.check_shade"=true)
   (kMH:PySem.W.keepIn K (.ref fMH)=true)
   (aMO:PySem.W.findIn K (.ref CB) "out"=some (some (.ref fMO)))
   (iMO:PySem.W.isFn K (.ref fMO)=true)
   (lMO:K.lookup fMO=some ⟨ocMO,odMO,.func (PySem.W.fnOf "out" "Book.out" (aF jI) (aC jI) (af jI) .none kVMO dcMO pmMO anMO cdMO ctMO),slMO⟩)
   (cMO:PySem.W.codeIn K cdMO "Book.out"=true)
   (kMO:PySem.W.keepIn K (.ref fMO)=true)
   (pgB:PySem.W.plainGet K CB Str.empty=true)
   (hdB:PySem.W.hasDictIn K CB=true)
   (poB:PySem.W.plainOver K CB=true)
   (saB:PySem.W.findIn K (.ref CB) "__setattr__"=some (some (.builtin "object.__setattr__")))
   (mkB:PySem.W.makesIn K CB=true)
   (kcB:PySem.W.keepIn K (.ref CB)=true)
   (naB_order:PySem.W.findIn K (.ref CB) "order"=some none)
   (naB_tables:PySem.W.findIn K (.ref CB) "tables"=some none)
   (aCH:PySem.W.nsIn K mainGlobals "House"=some (some (.ref CH)))
   (aHI:PySem.W.findIn K (.ref CH) "__init__"=some (some (.ref fHI)))
   (iHI:PySem.W.isFn K (.ref fHI)=true)
   (lHI:K.lookup fHI=some ⟨ocHI,odHI,.func (PySem.W.fnOf "__init__" "House.__init__" (aF ip) (aC ip) (af ip) .none kVHI dcHI pmHI anHI cdHI ctHI),slHI⟩)
   (cHI:PySem.W.codeIn K cdHI "House.__init__"=true)
   (kHI:PySem.W.keepIn K (.ref fHI)=true)
   (aHR:PySem.W.findIn K (.ref CH) "bring"=some (some (.ref fHR)))
   (iHR:PySem.W.isFn K (.ref fHR)=true)
   (lHR:K.lookup fHR=some ⟨ocHR,odHR,.func (PySem.W.fnOf "bring" "House.bring" (aF fY) (aC fY) (af fY) .none kVHR dcHR pmHR anHR cdHR ctHR),slHR⟩)
   (cHR:PySem.W.codeIn K cdHR "House.bring"=true)
   (kHR:PySem.W.keepIn K (.ref fHR)=true)
   (aHQ:PySem.W.findIn K (.ref CH) "dip"=some (some (.ref fHQ)))
   (iHQ:PySem.W.isFn K (.ref fHQ)=true)
   (lHQ:K.lookup fHQ=some ⟨ocHQ,odHQ,.func (PySem.W.fnOf "dip" "House.dip" (aF lx) (aC lx) (af lx) .none kVHQ dcHQ pmHQ anHQ cdHQ ctHQ),slHQ⟩)
   (cHQ:PySem.W.codeIn K cdHQ "House.dip"=true)
   (kHQ:PySem.W.keepIn K (.ref fHQ)=true)
   (aHG:PySem.W.findIn K (.ref CH) "change"=some (some (.ref fHG)))
   (iHG:PySem.W.isFn K (.ref fHG)=true)
   (lHG:K.lookup fHG=some ⟨ocHG,odHG,.func (PySem.W.fnOf "change" "House.change" (aF eI) (aC eI) (af eI) .none kVHG dcHG pmHG anHG cdHG ctHG),slHG⟩)
   (cHG:PySem.W.codeIn K cdHG "House.change"=true)
   (kHG:PySem.W.keepIn K (.ref fHG)=true)
   (aHB:PySem.W.findIn K (.ref CH) "book"=some (some (.ref fHB)))
   (iHB:PySem.W.isFn K (.ref fHB)=true)
   (lHB:K.lookup fHB=some ⟨ocHB,odHB,.func (PySem.W.fnOf "book" "House.book" (aF gT) (aC gT) (af gT) .none kVHB dcHB pmHB anHB cdHB ctHB),slHB⟩)
   (cHB:PySem.W.codeIn K cdHB "House.book"=true)
   (kHB:PySem.W.keepIn K (.ref fHB)=true)
   (aHS:PySem.W.findIn K (.ref CH) "shade"=some (some (.ref fHS)))
   (iHS:PySem.W.isFn K (.ref fHS)=true)
   (lHS:K.lookup fHS=some ⟨ocHS,odHS,.func (PySem.W.fnOf "shade" "House.shade" (aF fQ) (aC fQ) (af fQ) .none kVHS dcHS pmHS anHS cdHS ctHS),slHS⟩)
   (cHS:PySem.W.codeIn K cdHS "House.shade"=true)
   (kHS:PySem.W.keepIn K (.ref fHS)=true)
   (aHT:PySem.W.findIn K (.ref CH) "trail"=some (some (.ref fHT)))
   (iHT:PySem.W.isFn K (.ref fHT)=true)
   (lHT:K.lookup fHT=some ⟨ocHT,odHT,.func (PySem.W.fnOf "trail" "House.trail" (aF gC) (aC gC) (af gC) .none kVHT dcHT pmHT anHT cdHT ctHT),slHT⟩)
   (cHT:PySem.W.codeIn K cdHT "House.trail"=true)
   (kHT:PySem.W.keepIn K (.ref fHT)=true)
   (aHP:PySem.W.findIn K (.ref CH) "dips"=some (some (.ref fHP)))
   (iHP:PySem.W.isFn K (.ref fHP)=true)
   (lHP:K.lookup fHP=some ⟨ocHP,odHP,.func (PySem.W.fnOf "dips" "House.dips" (aF iU) (aC iU) (af iU) .none kVHP dcHP pmHP anHP cdHP ctHP),slHP⟩)
   (cHP:PySem.W.codeIn K cdHP "House.dips"=true)
   (kHP:PySem.W.keepIn K (.ref fHP)=true)
   (aHN:PySem.W.findIn K (.ref CH) "newest_book"=some (some (.ref fHN)))
   (iHN:PySem.W.isFn K (.ref fHN)=true)
   (lHN:K.lookup fHN=some ⟨ocHN,odHN,.func (PySem.W.fnOf "newest_book" "House.newest_book" (aF fj) (aC fj) (af fj) .none kVHN dcHN pmHN anHN cdHN ctHN),slHN⟩)
   (cHN:PySem.W.codeIn K cdHN "House.newest_book"=true)
   (kHN:PySem.W.keepIn K (.ref fHN)=true)
   (aHC:PySem.W.findIn K (.ref CH) "check_cloth"=some (some (.ref fHC)))
   (iHC:PySem.W.isFn K (.ref fHC)=true)
   (lHC:K.lookup fHC=some ⟨ocHC,odHC,.func (PySem.W.fnOf "check_cloth" "House.check_cloth" (aF eF) (aC eF) (af eF) .none kVHC dcHC pmHC anHC cdHC ctHC),slHC⟩)
   (cHC:PySem.W.codeIn K cdHC "House.check_cloth"=true)
   (kHC:PySem.W.keepIn K (.ref fHC)=true)
   (aHD:PySem.W.findIn K (.ref CH) "check_day_to_do"=some (some (.ref fHD)))
   (iHD:PySem.W.isFn K (.ref fHD)=true)
   (lHD:K.lookup fHD=some ⟨ocHD,odHD,.func (PySem.W.fnOf "check_day_to_do" "House.check_day_to_do" (aF iB) (aC iB) (af iB) .none kVHD dcHD pmHD anHD cdHD ctHD),slHD⟩)
   (cHD:PySem.W.codeIn K cdHD "House.check_day_to_do"=true)
   (kHD:PySem.W.keepIn K (.ref fHD)=true)
   (pgH:PySem.W.plainGet K CH Str.empty=true)
   (hdH:PySem.W.hasDictIn K CH=true)
   (poH:PySem.W.plainOver K CH=true)
   (saH:PySem.W.findIn K (.ref CH) "__setattr__"=some (some (.builtin "object.__setattr__")))
   (mkH:PySem.W.makesIn K CH=true)
   (kcH:PySem.W.keepIn K (.ref CH)=true)
   (naH_first_shades:PySem.W.findIn K (.ref CH) "first_shades"=some none)
   (naH_day_now:PySem.W.findIn K (.ref CH) "day_now"=some none)
   (naH_standing:PySem.W.findIn K (.ref CH) "standing"=some none)
   (naH_books_from:PySem.W.findIn K (.ref CH) "books_from"=some none)
   (aGd:PySem.W.nsIn K mainGlobals "good_name"=some (some (.ref fGd)))
   (lGd:K.lookup fGd=some ⟨ocGd,odGd,.func (PySem.W.fnOf "good_name" "good_name" (aF ly) (aC ly) (af ly) .none kVGd dcGd pmGd anGd cdGd ctGd),slGd⟩)
   (cGd:PySem.W.codeIn K cdGd "good_name"=true)
   (kGd:PySem.W.keepIn K (.ref fGd)=true)
   (aCn:PySem.W.nsIn K mainGlobals "check_names"=some (some (.ref fCn)))
   (lCn:K.lookup fCn=some ⟨ocCn,odCn,.func (PySem.W.fnOf "check_names" "check_names" (aF fE) (aC fE) (af fE) .none kVCn dcCn pmCn anCn cdCn ctCn),slCn⟩)
   (cCn:PySem.W.codeIn K cdCn "check_names"=true)
   (kCn:PySem.W.keepIn K (.ref fCn)=true)
   (aCs:PySem.W.nsIn K mainGlobals "check_shades"=some (some (.ref fCs)))
   (lCs:K.lookup fCs=some ⟨ocCs,odCs,.func (PySem.W.fnOf "check_shades" "check_shades" (aF eU) (aC eU) (af eU) .none kVCs dcCs pmCs anCs cdCs ctCs),slCs⟩)
   (cCs:PySem.W.codeIn K cdCs "check_shades"=true)
   (kCs:PySem.W.keepIn K (.ref fCs)=true)
   (aCo:PySem.W.nsIn K mainGlobals "check_outs"=some (some (.ref fCo)))
   (lCo:K.lookup fCo=some ⟨ocCo,odCo,.func (PySem.W.fnOf "check_outs" "check_outs" (aF gW) (aC gW) (af gW) .none kVCo dcCo pmCo anCo cdCo ctCo),slCo⟩)
   (cCo:PySem.W.codeIn K cdCo "check_outs"=true)
   (kCo:PySem.W.keepIn K (.ref fCo)=true)
   (aCb:PySem.W.nsIn K mainGlobals "check_baths"=some (some (.ref fCb)))
   (lCb:K.lookup fCb=some ⟨ocCb,odCb,.func (PySem.W.fnOf "check_baths" "check_baths" (aF fq) (aC fq) (af fq) .none kVCb dcCb pmCb anCb cdCb ctCb),slCb⟩)
   (cCb:PySem.W.codeIn K cdCb "check_baths"=true)
   (kCb:PySem.W.keepIn K (.ref fCb)=true)
   (aCD:PySem.W.nsIn K mainGlobals "check_day"=some (some (.ref fCD)))
   (lCD:K.lookup fCD=some ⟨ocCD,odCD,.func (PySem.W.fnOf "check_day" "check_day" (aF kR) (aC kR) (af kR) .none kVCD dcCD pmCD anCD cdCD ctCD),slCD⟩)
   (cCD:PySem.W.codeIn K cdCD "check_day"=true)
   (kCD:PySem.W.keepIn K (.ref fCD)=true)
   (aA:PySem.W.nsIn K mainGlobals "_law_at"=some (some (.ref fA)))
   (lA:K.lookup fA=some ⟨ocA,odA,.func (PySem.W.fnOf "_law_at" "_law_at" (aF sAt) (aC sAt) (af sAt) .none kVA dcA pmA anA cdA ctA),slA⟩)
   (cA:PySem.W.codeIn K cdA "_law_at"=true)
   (kA:PySem.W.keepIn K (.ref fA)=true)
   (aD:PySem.W.nsIn K mainGlobals "_law_draws"=some (some (.ref fD)))
   (lD:K.lookup fD=some ⟨ocD,odD,.func (PySem.W.fnOf "_law_draws" "_law_draws" (aF iT) (aC iT) (af iT) .none kVD dcD pmD anD cdD ctD),slD⟩)
   (cD:PySem.W.codeIn K cdD "_law_draws"=true)
   (kD:PySem.W.keepIn K (.ref fD)=true)
   (aN:PySem.W.nsIn K mainGlobals "_law_name"=some (some (.ref fN)))
   (lN:K.lookup fN=some ⟨ocN,odN,.func (PySem.W.fnOf "_law_name" "_law_name" (aF kt) (aC kt) (af kt) .none kVN dcN pmN anN cdN ctN),slN⟩)
   (cN:PySem.W.codeIn K cdN "_law_name"=true)
   (kN:PySem.W.keepIn K (.ref fN)=true)
   (aNs:PySem.W.nsIn K mainGlobals "_law_names"=some (some (.ref fNs)))
   (lNs:K.lookup fNs=some ⟨ocNs,odNs,.func (PySem.W.fnOf "_law_names" "_law_names" (aF iD) (aC iD) (af iD) .none kVNs dcNs pmNs anNs cdNs ctNs),slNs⟩)
   (cNs:PySem.W.codeIn K cdNs "_law_names"=true)
   (kNs:PySem.W.keepIn K (.ref fNs)=true)
   (aTu:PySem.W.nsIn K mainGlobals "_law_turned"=some (some (.ref fTu)))
   (lTu:K.lookup fTu=some ⟨ocTu,odTu,.func (PySem.W.fnOf "_law_turned" "_law_turned" (aF gA) (aC gA) (af gA) .none kVTu dcTu pmTu anTu cdTu ctTu),slTu⟩)
   (cTu:PySem.W.codeIn K cdTu "_law_turned"=true)
   (kTu:PySem.W.keepIn K (.ref fTu)=true)
   (aOu:PySem.W.nsIn K mainGlobals "_law_outs"=some (some (.ref fOu)))
   (lOu:K.lookup fOu=some ⟨ocOu,odOu,.func (PySem.W.fnOf "_law_outs" "_law_outs" (aF ll) (aC ll) (af ll) .none kVOu dcOu pmOu anOu cdOu ctOu),slOu⟩)
   (cOu:PySem.W.codeIn K cdOu "_law_outs"=true)
   (kOu:PySem.W.keepIn K (.ref fOu)=true)
   (aSh:PySem.W.nsIn K mainGlobals "_law_shape"=some (some (.ref fSh)))
   (lSh:K.lookup fSh=some ⟨ocSh,odSh,.func (PySem.W.fnOf "_law_shape" "_law_shape" (aF iA) (aC iA) (af iA) .none kVSh dcSh pmSh anSh cdSh ctSh),slSh⟩)
   (cSh:PySem.W.codeIn K cdSh "_law_shape"=true)
   (kSh:PySem.W.keepIn K (.ref fSh)=true)
   (aNd:PySem.W.nsIn K mainGlobals "_law_named"=some (some (.ref fNd)))
   (lNd:K.lookup fNd=some ⟨ocNd,odNd,.func (PySem.W.fnOf "_law_named" "_law_named" (aF iR) (aC iR) (af iR) .none kVNd dcNd pmNd anNd cdNd ctNd),slNd⟩)
   (cNd:PySem.W.codeIn K cdNd "_law_named"=true)
   (kNd:PySem.W.keepIn K (.ref fNd)=true)
   (aSz:PySem.W.nsIn K mainGlobals "_law_sized"=some (some (.ref fSz)))
   (lSz:K.lookup fSz=some ⟨ocSz,odSz,.func (PySem.W.fnOf "_law_sized" "_law_sized" (aF iK) (aC iK) (af iK) .none kVSz dcSz pmSz anSz cdSz ctSz),slSz⟩)
   (cSz:PySem.W.codeIn K cdSz "_law_sized"=true)
   (kSz:PySem.W.keepIn K (.ref fSz)=true)
   (aDn:PySem.W.nsIn K mainGlobals "_law_drawn"=some (some (.ref fDn)))
   (lDn:K.lookup fDn=some ⟨ocDn,odDn,.func (PySem.W.fnOf "_law_drawn" "_law_drawn" (aF iJ) (aC iJ) (af iJ) .none kVDn dcDn pmDn anDn cdDn ctDn),slDn⟩)
   (cDn:PySem.W.codeIn K cdDn "_law_drawn"=true)
   (kDn:PySem.W.keepIn K (.ref fDn)=true)
   (aTa:PySem.W.nsIn K mainGlobals "_law_tables"=some (some (.ref fTa)))
   (lTa:K.lookup fTa=some ⟨ocTa,odTa,.func (PySem.W.fnOf "_law_tables" "_law_tables" (aF fw) (aC fw) (af fw) .none kVTa dcTa pmTa anTa cdTa ctTa),slTa⟩)
   (cTa:PySem.W.codeIn K cdTa "_law_tables"=true)
   (kTa:PySem.W.keepIn K (.ref fTa)=true)
   (aHd:PySem.W.nsIn K mainGlobals "_law_handed"=some (some (.ref fHd)))
   (lHd:K.lookup fHd=some ⟨ocHd,odHd,.func (PySem.W.fnOf "_law_handed" "_law_handed" (aF gD) (aC gD) (af gD) .none kVHd dcHd pmHd anHd cdHd ctHd),slHd⟩)
   (cHd:PySem.W.codeIn K cdHd "_law_handed"=true)
   (kHd:PySem.W.keepIn K (.ref fHd)=true)
   (aTI:PySem.W.nsIn K mainGlobals "_law_text_is"=some (some (.ref fTI)))
   (lTI:K.lookup fTI=some ⟨ocTI,odTI,.func (PySem.W.fnOf "_law_text_is" "_law_text_is" (aF gJ) (aC gJ) (af gJ) .none kVTI dcTI pmTI anTI cdTI ctTI),slTI⟩)
   (cTI:PySem.W.codeIn K cdTI "_law_text_is"=true)
   (kTI:PySem.W.keepIn K (.ref fTI)=true)
   (aRw:PySem.W.nsIn K mainGlobals "_law_row"=some (some (.ref fRw)))
   (lRw:K.lookup fRw=some ⟨ocRw,odRw,.func (PySem.W.fnOf "_law_row" "_law_row" (aF qq) (aC qq) (af qq) .none kVRw dcRw pmRw anRw cdRw ctRw),slRw⟩)
   (cRw:PySem.W.codeIn K cdRw "_law_row"=true)
   (kRw:PySem.W.keepIn K (.ref fRw)=true)
   (aSR:PySem.W.nsIn K mainGlobals "shortest_rows"=some (some (.ref fSR)))
   (lSR:K.lookup fSR=some ⟨ocSR,odSR,.func (PySem.W.fnOf "shortest_rows" "shortest_rows" (aF g3) (aC g3) (af g3) .none kVSR dcSR pmSR anSR cdSR ctSR),slSR⟩)
   (cSR:PySem.W.codeIn K cdSR "shortest_rows"=true)
   (kSR:PySem.W.keepIn K (.ref fSR)=true)
   (aWy:PySem.W.nsIn K mainGlobals "way"=some (some (.ref fWy)))
   (lWy:K.lookup fWy=some ⟨ocWy,odWy,.func (PySem.W.fnOf "way" "way" (aF ow) (aC ow) (af ow) .none kVWy dcWy pmWy anWy cdWy ctWy),slWy⟩)
   (cWy:PySem.W.codeIn K cdWy "way"=true)
   (kWy:PySem.W.keepIn K (.ref fWy)=true)
   (aPr:PySem.W.nsIn K mainGlobals "_law_pair"=some (some (.ref fPr)))
   (lPr:K.lookup fPr=some ⟨ocPr,odPr,.func (PySem.W.fnOf "_law_pair" "_law_pair" (aF k7) (aC k7) (af k7) .none kVPr dcPr pmPr anPr cdPr ctPr),slPr⟩)
   (cPr:PySem.W.codeIn K cdPr "_law_pair"=true)
   (kPr:PySem.W.keepIn K (.ref fPr)=true)
   (aNF:PySem.W.nsIn K mainGlobals "_law_numbers_formed"=some (some (.ref fNF)))
   (lNF:K.lookup fNF=some ⟨ocNF,odNF,.func (PySem.W.fnOf "_law_numbers_formed" "_law_numbers_formed" (aF fb) (aC fb) (af fb) .none kVNF dcNF pmNF anNF cdNF ctNF),slNF⟩)
   (cNF:PySem.W.codeIn K cdNF "_law_numbers_formed"=true)
   (kNF:PySem.W.keepIn K (.ref fNF)=true)
   (aNR:PySem.W.nsIn K mainGlobals "_law_numbers_right"=some (some (.ref fNR)))
   (lNR:K.lookup fNR=some ⟨ocNR,odNR,.func (PySem.W.fnOf "_law_numbers_right" "_law_numbers_right" (aF dW) (aC dW) (af dW) .none kVNR dcNR pmNR anNR cdNR ctNR),slNR⟩)
   (cNR:PySem.W.codeIn K cdNR "_law_numbers_right"=true)
   (kNR:PySem.W.keepIn K (.ref fNR)=true)
   (aLo:PySem.W.nsIn K mainGlobals "_law_list_of_names"=some (some (.ref fLo)))
   (lLo:K.lookup fLo=some ⟨ocLo,odLo,.func (PySem.W.fnOf "_law_list_of_names" "_law_list_of_names" (aF el) (aC el) (af el) .none kVLo dcLo pmLo anLo cdLo ctLo),slLo⟩)
   (cLo:PySem.W.codeIn K cdLo "_law_list_of_names"=true)
   (kLo:PySem.W.keepIn K (.ref fLo)=true)
   (aLy:PySem.W.nsIn K mainGlobals "_law_layers"=some (some (.ref fLy)))
   (lLy:K.lookup fLy=some ⟨ocLy,odLy,.func (PySem.W.fnOf "_law_layers" "_law_layers" (aF fH) (aC fH) (af fH) .none kVLy dcLy pmLy anLy cdLy ctLy),slLy⟩)
   (cLy:PySem.W.codeIn K cdLy "_law_layers"=true)
   (kLy:PySem.W.keepIn K (.ref fLy)=true)
   (aFB:PySem.W.nsIn K mainGlobals "_law_first_by_names"=some (some (.ref fFB)))
   (lFB:K.lookup fFB=some ⟨ocFB,odFB,.func (PySem.W.fnOf "_law_first_by_names" "_law_first_by_names" (aF eG) (aC eG) (af eG) .none kVFB dcFB pmFB anFB cdFB ctFB),slFB⟩)
   (cFB:PySem.W.codeIn K cdFB "_law_first_by_names"=true)
   (kFB:PySem.W.keepIn K (.ref fFB)=true)
   (aSU:PySem.W.nsIn K mainGlobals "_law_shut_right"=some (some (.ref fSU)))
   (lSU:K.lookup fSU=some ⟨ocSU,odSU,.func (PySem.W.fnOf "_law_shut_right" "_law_shut_right" (aF jJ) (aC jJ) (af jJ) .none kVSU dcSU pmSU anSU cdSU ctSU),slSU⟩)
   (cSU:PySem.W.codeIn K cdSU "_law_shut_right"=true)
   (kSU:PySem.W.keepIn K (.ref fSU)=true)
   (aLv:PySem.W.nsIn K mainGlobals "_law_lived"=some (some (.ref fLv)))
   (lLv:K.lookup fLv=some ⟨ocLv,odLv,.func (PySem.W.fnOf "_law_lived" "_law_lived" (aF gS) (aC gS) (af gS) .none kVLv dcLv pmLv anLv cdLv ctLv),slLv⟩)
   (cLv:PySem.W.codeIn K cdLv "_law_lived"=true)
   (kLv:PySem.W.keepIn K (.ref fLv)=true)
   (aSK:PySem.W.nsIn K mainGlobals "_law_shut_kept"=some (some (.ref fSK)))
   (lSK:K.lookup fSK=some ⟨ocSK,odSK,.func (PySem.W.fnOf "_law_shut_kept" "_law_shut_kept" (aF eB) (aC eB) (af eB) .none kVSK dcSK pmSK anSK cdSK ctSK),slSK⟩)
   (cSK:PySem.W.codeIn K cdSK "_law_shut_kept"=true)
   (kSK:PySem.W.keepIn K (.ref fSK)=true)
   (aL:PySem.W.nsIn K mainGlobals "law"=some (some (.ref fL)))
   (lL:K.lookup fL=some ⟨ocL,odL,.func (PySem.W.fnOf "law" "law" (aF kg) (aC kg) (af kg) .none kVL dcL pmL anL cdL ctL),slL⟩)
   (cL:PySem.W.codeIn K cdL "law"=true)
   (kL:PySem.W.keepIn K (.ref fL)=true)
   (aNoDay:PySem.W.nsIn K mainGlobals "NoDay"=some (some (.ref xNoDay)))
   (exND:PySem.W.excIn K xNoDay [.type "ValueError",.type "Exception",.type "BaseException",.type "object"] "ValueError.__new__"=true)
   (elND:PySem.W.clsIn K xNoDay=some cdNoDay)
   (egND:PySem.W.findIn K (.ref xNoDay) "__getattribute__"=some (some (.builtin "BaseException.__getattribute__")))
   (etND:PySem.W.findIn K (.ref xNoDay) "__getattr__"=some none)
   (eaND:PySem.W.findIn K (.ref xNoDay) "__class__"=some (some (.builtin "object.__class__")))
   (emND:PySem.W.mroIn K xNoDay (.type "object")=some true)
   (ebND:PySem.W.mroIn K xNoDay (.type "BaseException")=some true)
   (aLate:PySem.W.nsIn K mainGlobals "Late"=some (some (.ref xLate)))
   (exLa:PySem.W.excIn K xLate [.type "ValueError",.type "Exception",.type "BaseException",.type "object"] "ValueError.__new__"=true)
   (elLa:PySem.W.clsIn K xLate=some cdLate)
   (egLa:PySem.W.findIn K (.ref xLate) "__getattribute__"=some (some (.builtin "BaseException.__getattribute__")))
   (etLa:PySem.W.findIn K (.ref xLate) "__getattr__"=some none)
   (eaLa:PySem.W.findIn K (.ref xLate) "__class__"=some (some (.builtin "object.__class__")))
   (emLa:PySem.W.mroIn K xLate (.type "object")=some true)
   (ebLa:PySem.W.mroIn K xLate (.type "BaseException")=some true)
   (aNoCloth:PySem.W.nsIn K mainGlobals "NoCloth"=some (some (.ref xNoCloth)))
   (exNC:PySem.W.excIn K xNoCloth [.type "ValueError",.type "Exception",.type "BaseException",.type "object"] "ValueError.__new__"=true)
   (elNC:PySem.W.clsIn K xNoCloth=some cdNoCloth)
   (egNC:PySem.W.findIn K (.ref xNoCloth) "__getattribute__"=some (some (.builtin "BaseException.__getattribute__")))
   (etNC:PySem.W.findIn K (.ref xNoCloth) "__getattr__"=some none)
   (eaNC:PySem.W.findIn K (.ref xNoCloth) "__class__"=some (some (.builtin "object.__class__")))
   (emNC:PySem.W.mroIn K xNoCloth (.type "object")=some true)
   (ebNC:PySem.W.mroIn K xNoCloth (.type "BaseException")=some true)
   (aKnown:PySem.W.nsIn K mainGlobals "Known"=some (some (.ref xKnown)))
   (exKn:PySem.W.excIn K xKnown [.type "ValueError",.type "Exception",.type "BaseException",.type "object"] "ValueError.__new__"=true)
   (elKn:PySem.W.clsIn K xKnown=some cdKnown)
   (egKn:PySem.W.findIn K (.ref xKnown) "__getattribute__"=some (some (.builtin "BaseException.__getattribute__")))
   (etKn:PySem.W.findIn K (.ref xKnown) "__getattr__"=some none)
   (eaKn:PySem.W.findIn K (.ref xKnown) "__class__"=some (some (.builtin "object.__class__")))
   (emKn:PySem.W.mroIn K xKnown (.type "object")=some true)
   (ebKn:PySem.W.mroIn K xKnown (.type "BaseException")=some true)
   (aBadName:PySem.W.nsIn K mainGlobals "BadName"=some (some (.ref xBadName)))
   (exBN:PySem.W.excIn K xBadName [.type "ValueError",.type "Exception",.type "BaseException",.type "object"] "ValueError.__new__"=true)
   (elBN:PySem.W.clsIn K xBadName=some cdBadName)
   (egBN:PySem.W.findIn K (.ref xBadName) "__getattribute__"=some (some (.builtin "BaseException.__getattribute__")))
   (etBN:PySem.W.findIn K (.ref xBadName) "__getattr__"=some none)
   (eaBN:PySem.W.findIn K (.ref xBadName) "__class__"=some (some (.builtin "object.__class__")))
   (emBN:PySem.W.mroIn K xBadName (.type "object")=some true)
   (ebBN:PySem.W.mroIn K xBadName (.type "BaseException")=some true)
   (aFull:PySem.W.nsIn K mainGlobals "Full"=some (some (.ref xFull)))
   (exFu:PySem.W.excIn K xFull [.type "ValueError",.type "Exception",.type "BaseException",.type "object"] "ValueError.__new__"=true)
   (elFu:PySem.W.clsIn K xFull=some cdFull)
   (egFu:PySem.W.findIn K (.ref xFull) "__getattribute__"=some (some (.builtin "BaseException.__getattribute__")))
   (etFu:PySem.W.findIn K (.ref xFull) "__getattr__"=some none)
   (eaFu:PySem.W.findIn K (.ref xFull) "__class__"=some (some (.builtin "object.__class__")))
   (emFu:PySem.W.mroIn K xFull (.type "object")=some true)
   (ebFu:PySem.W.mroIn K xFull (.type "BaseException")=some true)
   (aNoBath:PySem.W.nsIn K mainGlobals "NoBath"=some (some (.ref xNoBath)))
   (exNB:PySem.W.excIn K xNoBath [.type "ValueError",.type "Exception",.type "BaseException",.type "object"] "ValueError.__new__"=true)
   (elNB:PySem.W.clsIn K xNoBath=some cdNoBath)
   (egNB:PySem.W.findIn K (.ref xNoBath) "__getattribute__"=some (some (.builtin "BaseException.__getattribute__")))
   (etNB:PySem.W.findIn K (.ref xNoBath) "__getattr__"=some none)
   (eaNB:PySem.W.findIn K (.ref xNoBath) "__class__"=some (some (.builtin "object.__class__")))
   (emNB:PySem.W.mroIn K xNoBath (.type "object")=some true)
   (ebNB:PySem.W.mroIn K xNoBath (.type "BaseException")=some true)
   (aNoShade:PySem.W.nsIn K mainGlobals "NoShade"=some (some (.ref xNoShade)))
   (exNS:PySem.W.excIn K xNoShade [.type "ValueError",.type "Exception",.type "BaseException",.type "object"] "ValueError.__new__"=true)
   (elNS:PySem.W.clsIn K xNoShade=some cdNoShade)
   (egNS:PySem.W.findIn K (.ref xNoShade) "__getattribute__"=some (some (.builtin "BaseException.__getattribute__")))
   (etNS:PySem.W.findIn K (.ref xNoShade) "__getattr__"=some none)
   (eaNS:PySem.W.findIn K (.ref xNoShade) "__class__"=some (some (.builtin "object.__class__")))
   (emNS:PySem.W.mroIn K xNoShade (.type "object")=some true)
   (ebNS:PySem.W.mroIn K xNoShade (.type "BaseException")=some true)
   (aBadBook:PySem.W.nsIn K mainGlobals "BadBook"=some (some (.ref xBadBook)))
   (exBB:PySem.W.excIn K xBadBook [.type "ValueError",.type "Exception",.type "BaseException",.type "object"] "ValueError.__new__"=true)
   (elBB:PySem.W.clsIn K xBadBook=some cdBadBook)
   (egBB:PySem.W.findIn K (.ref xBadBook) "__getattribute__"=some (some (.builtin "BaseException.__getattribute__")))
   (etBB:PySem.W.findIn K (.ref xBadBook) "__getattr__"=some none)
   (eaBB:PySem.W.findIn K (.ref xBadBook) "__class__"=some (some (.builtin "object.__class__")))
   (emBB:PySem.W.mroIn K xBadBook (.type "object")=some true)
   (ebBB:PySem.W.mroIn K xBadBook (.type "BaseException")=some true)
   (eN1:PySem.W.specialIn K (.builtin "object.__class__") "__get__"=some (some (.builtin "getset_descriptor.__get__")))
   (eT1:PySem.W.takesIn K (.builtin "object.__class__")=some true)
   (zlen:PySem.W.nsIn K mainGlobals "len"=some none)
   (zall:PySem.W.nsIn K mainGlobals "all"=some none)
   (zrange:PySem.W.nsIn K mainGlobals "range"=some none)
   (zisinstance:PySem.W.nsIn K mainGlobals "isinstance"=some none)
   (zlist:PySem.W.nsIn K mainGlobals "list"=some none)
   (zstr:PySem.W.nsIn K mainGlobals "str"=some none)
   (zsorted:PySem.W.nsIn K mainGlobals "sorted"=some none)
   (ztuple:PySem.W.nsIn K mainGlobals "tuple"=some none)
   (zdict:PySem.W.nsIn K mainGlobals "dict"=some none)
   (zzip:PySem.W.nsIn K mainGlobals "zip"=some none)
   (zset:PySem.W.nsIn K mainGlobals "set"=some none)
   (zmin:PySem.W.nsIn K mainGlobals "min"=some none)
   (zint:PySem.W.nsIn K mainGlobals "int"=some none)
   (zmax:PySem.W.nsIn K mainGlobals "max"=some none)
   (zbool:PySem.W.nsIn K mainGlobals "bool"=some none)
   (vlett:PySem.W.nsIn K mainGlobals "LETTERS"=some (some (.str bX tlett)))
   (vlong:PySem.W.nsIn K mainGlobals "LONGEST"=some (some (.int 8 tlong)))
   (vmostS:PySem.W.nsIn K mainGlobals "MOST_SHADES"=some (some (.int 12 tmostS)))
   (vmostB:PySem.W.nsIn K mainGlobals "MOST_BATHS"=some (some (.int 8 tmostB)))
   (vfday:PySem.W.nsIn K mainGlobals "FIRST_DAY"=some (some (.int 1 tfday)))
   (vlday:PySem.W.nsIn K mainGlobals "LAST_DAY"=some (some (.int 400 tlday)))
   (vmostC:PySem.W.nsIn K mainGlobals "MOST_CLOTHS"=some (some (.int 50 tmostC)))
   (vmostD:PySem.W.nsIn K mainGlobals "MOST_DIPS"=some (some (.int 1000 tmostD))) :
   ∃ fd:FuncData,(∀ (s:Shared) (v:Value),BindsTo s fd ⟨[v],[]⟩ [("_law_script",v)])∧∀ base:Heap,K.In base→base.Ns mainGlobals mg→au l.prog w K mg base CX0 9 fa fd ["_law_script"] (pS K):=by
 have e:=hfa.symm.trans (PySem.W.mg_of X G aL)
 cases e
 have FI:=aU (st:=hU) lI cI kI
 have bI:=FI.binds (ps:=["self", "shades", "baths"]) fun _ _ _ _ _ _ us hl=>match us,hl with | [_,_,_],_=>rfl
 have FMS:=aU (st:=fc) lMS cMS kMS
 have bMS:=FMS.binds (ps:=["self"]) fun _ _ _ _ _ _ us hl=>match us,hl with | [_],_=>rfl
 have FMB:=aU (st:=gz) lMB cMB kMB
 have bMB:=FMB.binds (ps:=["self"]) fun _ _ _ _ _ _ us hl=>match us,hl with | [_],_=>rfl
 have FMT:=aU (st:=fU) lMT cMT kMT
 have bMT:=FMT.binds (ps:=["self", "bath"]) fun _ _ _ _ _ _ us hl=>match us,hl with | [_,_],_=>rfl
 have FMX:=aU (st:=eu) lMX cMX kMX
 have bMX:=FMX.binds (ps:=["self", "bath", "outs"]) fun _ _ _ _ _ _ us hl=>match us,hl with | [_,_,_],_=>rfl
 have FMC:=aU (st:=ej) lMC cMC kMC
 have bMC:=FMC.binds (ps:=["self", "bath"]) fun _ _ _ _ _ _ us hl=>match us,hl with | [_,_],_=>rfl
 have FMH:=aU (st:=eM) lMH cMH kMH
 have bMH:=FMH.binds (ps:=["self", "shade"]) fun _ _ _ _ _ _ us hl=>match us,hl with | [_,_],_=>rfl
 have FMO:=aU (st:=jI) lMO cMO kMO
 have bMO:=FMO.binds (ps:=["self", "bath", "shade"]) fun _ _ _ _ _ _ us hl=>match us,hl with | [_,_,_],_=>rfl
 have mCB:=PySem.W.mg_of X G aCB
 have FHI:=aU (st:=ip) lHI cHI kHI
 have bHI:=FHI.binds (ps:=["self", "book"]) fun _ _ _ _ _ _ us hl=>match us,hl with | [_,_],_=>rfl
 have FHR:=aU (st:=fY) lHR cHR kHR
 have bHR:=FHR.binds (ps:=["self", "cloth", "shade"]) fun _ _ _ _ _ _ us hl=>match us,hl with | [_,_,_],_=>rfl
 have FHQ:=aU (st:=lx) lHQ cHQ kHQ
 have bHQ:=FHQ.binds (ps:=["self", "cloth", "bath", "day"]) fun _ _ _ _ _ _ us hl=>match us,hl with | [_,_,_,_],_=>rfl
 have FHG:=aU (st:=eI) lHG cHG kHG
 have bHG:=FHG.binds (ps:=["self", "bath", "outs", "day"]) fun _ _ _ _ _ _ us hl=>match us,hl with | [_,_,_,_],_=>rfl
 have FHB:=aU (st:=gT) lHB cHB kHB
 have bHB:=FHB.binds (ps:=["self", "day"]) fun _ _ _ _ _ _ us hl=>match us,hl with | [_,_],_=>rfl
 have FHS:=aU (st:=fQ) lHS cHS kHS
 have bHS:=FHS.binds (ps:=["self", "cloth", "day"]) fun _ _ _ _ _ _ us hl=>match us,hl with | [_,_,_],_=>rfl
 have FHT:=aU (st:=gC) lHT cHT kHT
 have bHT:=FHT.binds (ps:=["self", "cloth", "day"]) fun _ _ _ _ _ _ us hl=>match us,hl with | [_,_,_],_=>rfl
 have FHP:=aU (st:=iU) lHP cHP kHP
 have bHP:=FHP.binds (ps:=["self", "day"]) fun _ _ _ _ _ _ us hl=>match us,hl with | [_,_],_=>rfl
 have FHN:=aU (st:=fj) lHN cHN kHN
 have bHN:=FHN.binds (ps:=["self"]) fun _ _ _ _ _ _ us hl=>match us,hl with | [_],_=>rfl
 have FHC:=aU (st:=eF) lHC cHC kHC
 have bHC:=FHC.binds (ps:=["self", "cloth"]) fun _ _ _ _ _ _ us hl=>match us,hl with | [_,_],_=>rfl
 have FHD:=aU (st:=iB) lHD cHD kHD
 have bHD:=FHD.binds (ps:=["self", "day"]) fun _ _ _ _ _ _ us hl=>match us,hl with | [_,_],_=>rfl
 have mCH:=PySem.W.mg_of X G aCH
 have FGd:=aU (st:=ly) lGd cGd kGd
 have bGd:=FGd.binds (ps:=["text"]) fun _ _ _ _ _ _ us hl=>match us,hl with | [_],_=>rfl
 have mGd:=PySem.W.mg_of X G aGd
 have FCn:=aU (st:=fE) lCn cCn kCn
 have bCn:=FCn.binds (ps:=["texts"]) fun _ _ _ _ _ _ us hl=>match us,hl with | [_],_=>rfl
 have mCn:=PySem.W.mg_of X G aCn
 have FCs:=aU (st:=eU) lCs cCs kCs
 have bCs:=FCs.binds (ps:=["shades"]) fun _ _ _ _ _ _ us hl=>match us,hl with | [_],_=>rfl
 have mCs:=PySem.W.mg_of X G aCs
 have FCo:=aU (st:=gW) lCo cCo kCo
 have bCo:=FCo.binds (ps:=["shades", "outs"]) fun _ _ _ _ _ _ us hl=>match us,hl with | [_,_],_=>rfl
 have mCo:=PySem.W.mg_of X G aCo
 have FCb:=aU (st:=fq) lCb cCb kCb
 have bCb:=FCb.binds (ps:=["shades", "baths"]) fun _ _ _ _ _ _ us hl=>match us,hl with | [_,_],_=>rfl
 have mCb:=PySem.W.mg_of X G aCb
 have FCD:=aU (st:=kR) lCD cCD kCD
 have bCD:=FCD.binds (ps:=["day"]) fun _ _ _ _ _ _ us hl=>match us,hl with | [_],_=>rfl
 have mCD:=PySem.W.mg_of X G aCD
 have FA:=aU (st:=sAt) lA cA kA
 have bA:=FA.binds (ps:=["_law_script", "_law_k"]) fun _ _ _ _ _ _ us hl=>match us,hl with | [_,_],_=>rfl
 have mA:=PySem.W.mg_of X G aA
 have FD:=aU (st:=iT) lD cD kD
 have bD:=FD.binds (ps:=["_law_cell", "_law_many", "_law_bound", "_law_mixed"]) fun _ _ _ _ _ _ us hl=>match us,hl with | [_,_,_,_],_=>rfl
 have mD:=PySem.W.mg_of X G aD
 have FN:=aU (st:=kt) lN cN kN
 have bN:=FN.binds (ps:=["_law_seed", "_law_style"]) fun _ _ _ _ _ _ us hl=>match us,hl with | [_,_],_=>rfl
 have mN:=PySem.W.mg_of X G aN
 have FNs:=aU (st:=iD) lNs cNs kNs
 have bNs:=FNs.binds (ps:=["_law_cell", "_law_many", "_law_style", "_law_mixed"]) fun _ _ _ _ _ _ us hl=>match us,hl with | [_,_,_,_],_=>rfl
 have mNs:=PySem.W.mg_of X G aNs
 have FTu:=aU (st:=gA) lTu cTu kTu
 have bTu:=FTu.binds (ps:=["_law_many", "_law_shape_here", "_law_drawn_here"]) fun _ _ _ _ _ _ us hl=>match us,hl with | [_,_,_],_=>rfl
 have mTu:=PySem.W.mg_of X G aTu
 have FOu:=aU (st:=ll) lOu cOu kOu
 have bOu:=FOu.binds (ps:=["_law_cell", "_law_many", "_law_shape_here", "_law_mixed"]) fun _ _ _ _ _ _ us hl=>match us,hl with | [_,_,_,_],_=>rfl
 have mOu:=PySem.W.mg_of X G aOu
 have FSh:=aU (st:=iA) lSh cSh kSh
 have bSh:=FSh.binds (ps:=["_law_pick", "_law_k"]) fun _ _ _ _ _ _ us hl=>match us,hl with | [_,_],_=>rfl
 have mSh:=PySem.W.mg_of X G aSh
 have FNd:=aU (st:=iR) lNd cNd kNd
 have bNd:=FNd.binds (ps:=["_law_script", "_law_many", "_law_count"]) fun _ _ _ _ _ _ us hl=>match us,hl with | [_,_,_],_=>rfl
 have mNd:=PySem.W.mg_of X G aNd
 have FSz:=aU (st:=iK) lSz cSz kSz
 have bSz:=FSz.binds (ps:=["_law_script", "_law_many", "_law_count"]) fun _ _ _ _ _ _ us hl=>match us,hl with | [_,_,_],_=>rfl
 have mSz:=PySem.W.mg_of X G aSz
 have FDn:=aU (st:=iJ) lDn cDn kDn
 have bDn:=FDn.binds (ps:=["_law_script"]) fun _ _ _ _ _ _ us hl=>match us,hl with | [_],_=>rfl
 have mDn:=PySem.W.mg_of X G aDn
 have FTa:=aU (st:=fw) lTa cTa kTa
 have bTa:=FTa.binds (ps:=["_law_shades", "_law_baths"]) fun _ _ _ _ _ _ us hl=>match us,hl with | [_,_],_=>rfl
 have mTa:=PySem.W.mg_of X G aTa
 have FHd:=aU (st:=gD) lHd cHd kHd
 have bHd:=FHd.binds (ps:=["_law_shades", "_law_baths"]) fun _ _ _ _ _ _ us hl=>match us,hl with | [_,_],_=>rfl
 have mHd:=PySem.W.mg_of X G aHd
 have FTI:=aU (st:=gJ) lTI cTI kTI
 have bTI:=FTI.binds (ps:=["_law_found", "_law_due"]) fun _ _ _ _ _ _ us hl=>match us,hl with | [_,_],_=>rfl
 have mTI:=PySem.W.mg_of X G aTI
 have FRw:=aU (st:=qq) lRw cRw kRw
 have bRw:=FRw.binds (ps:=["_law_cell", "_law_size", "_law_titles", "_law_mixed"]) fun _ _ _ _ _ _ us hl=>match us,hl with | [_,_,_,_],_=>rfl
 have mRw:=PySem.W.mg_of X G aRw
 have FSR:=aU (st:=g3) lSR cSR kSR
 have bSR:=FSR.binds (ps:=["book", "first"]) fun _ _ _ _ _ _ us hl=>match us,hl with | [_,_],_=>rfl
 have mSR:=PySem.W.mg_of X G aSR
 have FWy:=aU (st:=ow) lWy cWy kWy
 have bWy:=FWy.binds (ps:=["book", "first", "last"]) fun _ _ _ _ _ _ us hl=>match us,hl with | [_,_,_],_=>rfl
 have mWy:=PySem.W.mg_of X G aWy
 have FPr:=aU (st:=k7) lPr cPr kPr
 have bPr:=FPr.binds (ps:=["_law_found"]) fun _ _ _ _ _ _ us hl=>match us,hl with | [_],_=>rfl
 have mPr:=PySem.W.mg_of X G aPr
 have FNF:=aU (st:=fb) lNF cNF kNF
 have bNF:=FNF.binds (ps:=["_law_numbers", "_law_order"]) fun _ _ _ _ _ _ us hl=>match us,hl with | [_,_],_=>rfl
 have mNF:=PySem.W.mg_of X G aNF
 have FNR:=aU (st:=dW) lNR cNR kNR
 have bNR:=FNR.binds (ps:=["_law_numbers", "_law_order", "_law_tables_here", "_law_first"]) fun _ _ _ _ _ _ us hl=>match us,hl with | [_,_,_,_],_=>rfl
 have mNR:=PySem.W.mg_of X G aNR
 have FLo:=aU (st:=el) lLo cLo kLo
 have bLo:=FLo.binds (ps:=["_law_found", "_law_known", "_law_most"]) fun _ _ _ _ _ _ us hl=>match us,hl with | [_,_,_],_=>rfl
 have mLo:=PySem.W.mg_of X G aLo
 have FLy:=aU (st:=fH) lLy cLy kLy
 have bLy:=FLy.binds (ps:=["_law_order", "_law_tables_here", "_law_last", "_law_many"]) fun _ _ _ _ _ _ us hl=>match us,hl with | [_,_,_,_],_=>rfl
 have mLy:=PySem.W.mg_of X G aLy
 have FFB:=aU (st:=eG) lFB cFB kFB
 have bFB:=FFB.binds (ps:=["_law_order", "_law_tables_here", "_law_row_here", "_law_first", "_law_last"]) fun _ _ _ _ _ _ us hl=>match us,hl with | [_,_,_,_,_],_=>rfl
 have mFB:=PySem.W.mg_of X G aFB
 have FSU:=aU (st:=jJ) lSU cSU kSU
 have bSU:=FSU.binds (ps:=["_law_found", "_law_order", "_law_tables_here", "_law_first", "_law_last"]) fun _ _ _ _ _ _ us hl=>match us,hl with | [_,_,_,_,_],_=>rfl
 have mSU:=PySem.W.mg_of X G aSU
 have FLv:=aU (st:=gS) lLv cLv kLv
 have bLv:=FLv.binds (ps:=["_law_house", "_law_script", "_law_order", "_law_tables_here", "_law_at_here"]) fun _ _ _ _ _ _ us hl=>match us,hl with | [_,_,_,_,_],_=>rfl
 have mLv:=PySem.W.mg_of X G aLv
 have FSK:=aU (st:=eB) lSK cSK kSK
 have bSK:=FSK.binds (ps:=["_law_house", "_law_row_here", "_law_day", "_law_found", "_law_goal"]) fun _ _ _ _ _ _ us hl=>match us,hl with | [_,_,_,_,_],_=>rfl
 have mSK:=PySem.W.mg_of X G aSK
 have FL:=aU (st:=kg) lL cL kL
 have bL:=FL.binds (ps:=["_law_script"]) fun _ _ _ _ _ _ us hl=>match us,hl with | [_],_=>rfl
 have mL:=PySem.W.mg_of X G aL
 have mND:=PySem.W.mg_of X G aNoDay
 have mLa:=PySem.W.mg_of X G aLate
 have mNC:=PySem.W.mg_of X G aNoCloth
 have mKn:=PySem.W.mg_of X G aKnown
 have mBN:=PySem.W.mg_of X G aBadName
 have mFu:=PySem.W.mg_of X G aFull
 have mNB:=PySem.W.mg_of X G aNoBath
 have mNS:=PySem.W.mg_of X G aNoShade
 have mBB:=PySem.W.mg_of X G aBadBook
 have nlen:=PySem.W.mg_none_of X G zlen
 have nall:=PySem.W.mg_none_of X G zall
 have nrange:=PySem.W.mg_none_of X G zrange
 have nisinstance:=PySem.W.mg_none_of X G zisinstance
 have nlist:=PySem.W.mg_none_of X G zlist
 have nstr:=PySem.W.mg_none_of X G zstr
 have nsorted:=PySem.W.mg_none_of X G zsorted
 have ntuple:=PySem.W.mg_none_of X G ztuple
 have ndict:=PySem.W.mg_none_of X G zdict
 have nzip:=PySem.W.mg_none_of X G zzip
 have nset:=PySem.W.mg_none_of X G zset
 have nmin:=PySem.W.mg_none_of X G zmin
 have nint:=PySem.W.mg_none_of X G zint
 have nmax:=PySem.W.mg_none_of X G zmax
 have nbool:=PySem.W.mg_none_of X G zbool
 have elett:=PySem.W.mg_of X G vlett
 have elong:=PySem.W.mg_of X G vlong
 have emostS:=PySem.W.mg_of X G vmostS
 have emostB:=PySem.W.mg_of X G vmostB
 have efday:=PySem.W.mg_of X G vfday
 have elday:=PySem.W.mg_of X G vlday
 have emostC:=PySem.W.mg_of X G vmostC
 have emostD:=PySem.W.mg_of X G vmostD
 have T:Txt mg:=⟨nlen,nall,nrange,nisinstance,nlist,nstr,nsorted,ntuple,ndict,nzip,nset,nmin,nint,⟨_,elett⟩,⟨_,elong⟩⟩
 have TB:rp mg:=⟨⟨_,emostS⟩,⟨_,emostB⟩⟩
 have c:Cls K CB:=⟨pgB,hdB,poB,saB⟩
 have nO:ca K CB "order":=naB_order
 have nT:ca K CB "tables":=naB_tables
 have MkB:Mk K CB fI:=⟨mkB,aI,iI,kcB⟩
 have hX:Hx K mg CH:=⟨⟨pgH,hdH,poH,saH⟩,naH_first_shades,naH_day_now,naH_standing,naH_books_from,⟨_,efday⟩,⟨_,elday⟩,⟨_,emostC⟩,⟨_,emostD⟩,nmax⟩
 have MkH:Mk K CH fHI:=⟨mkH,aHI,iHI,kcH⟩
 have TM:mg "max"=none:=nmax
 have hmMS:bW K CB "shades" fMS:=⟨aMS,iMS,kMS⟩
 have hmMB:bW K CB "baths" fMB:=⟨aMB,iMB,kMB⟩
 have hmMT:bW K CB "table" fMT:=⟨aMT,iMT,kMT⟩
 have hmMX:bW K CB "changed" fMX:=⟨aMX,iMX,kMX⟩
 have hmMC:bW K CB "check_bath" fMC:=⟨aMC,iMC,kMC⟩
 have hmMH:bW K CB "check_shade" fMH:=⟨aMH,iMH,kMH⟩
 have hmMO:bW K CB "out" fMO:=⟨aMO,iMO,kMO⟩
 have hmHR:bW K CH "bring" fHR:=⟨aHR,iHR,kHR⟩
 have hmHQ:bW K CH "dip" fHQ:=⟨aHQ,iHQ,kHQ⟩
 have hmHG:bW K CH "change" fHG:=⟨aHG,iHG,kHG⟩
 have hmHB:bW K CH "book" fHB:=⟨aHB,iHB,kHB⟩
 have hmHS:bW K CH "shade" fHS:=⟨aHS,iHS,kHS⟩
 have hmHT:bW K CH "trail" fHT:=⟨aHT,iHT,kHT⟩
 have hmHP:bW K CH "dips" fHP:=⟨aHP,iHP,kHP⟩
 have hmHN:bW K CH "newest_book" fHN:=⟨aHN,iHN,kHN⟩
 have hmHC:bW K CH "check_cloth" fHC:=⟨aHC,iHC,kHC⟩
 have hmHD:bW K CH "check_day_to_do" fHD:=⟨aHD,iHD,kHD⟩
 have XND:eJ K xNoDay:=⟨exND,egND,etND,by rw[elND];rfl,eaND,eN1,eT1,emND,ebND⟩
 have XLa:eJ K xLate:=⟨exLa,egLa,etLa,by rw[elLa];rfl,eaLa,eN1,eT1,emLa,ebLa⟩
 have XNC:eJ K xNoCloth:=⟨exNC,egNC,etNC,by rw[elNC];rfl,eaNC,eN1,eT1,emNC,ebNC⟩
 have XKn:eJ K xKnown:=⟨exKn,egKn,etKn,by rw[elKn];rfl,eaKn,eN1,eT1,emKn,ebKn⟩
 have XBN:eJ K xBadName:=⟨exBN,egBN,etBN,by rw[elBN];rfl,eaBN,eN1,eT1,emBN,ebBN⟩
 have XFu:eJ K xFull:=⟨exFu,egFu,etFu,by rw[elFu];rfl,eaFu,eN1,eT1,emFu,ebFu⟩
 have XNB:eJ K xNoBath:=⟨exNB,egNB,etNB,by rw[elNB];rfl,eaNB,eN1,eT1,emNB,ebNB⟩
 have XNS:eJ K xNoShade:=⟨exNS,egNS,etNS,by rw[elNS];rfl,eaNS,eN1,eT1,emNS,ebNS⟩
 have XBB:eJ K xBadBook:=⟨exBB,egBB,etBB,by rw[elBB];rfl,eaBB,eN1,eT1,emBB,ebBB⟩
 exact⟨PySem.W.fnOf "law" "law" (aF kg) (aC kg) (af kg) .none kVL dcL pmL anL cdL ctL,fun s v=>.of_eq rfl,fun base _ _=>by
   have GA:=wE (P:=l.prog) (w:=w) (mg:=mg) (base:=base) FA T
   have GD:=sN (P:=l.prog) (w:=w) (mg:=mg) (base:=base) FD T
   have GN:=ul (P:=l.prog) (w:=w) (mg:=mg) (base:=base) FN T
   have GNs:=sX (P:=l.prog) (w:=w) (mg:=mg) (base:=base) FNs T GD kD bD mD GN kN bN mN
   have GTu:=qO (P:=l.prog) (w:=w) (mg:=mg) (base:=base) FTu T
   have GOu:=uK (P:=l.prog) (w:=w) (mg:=mg) (base:=base) FOu T GD kD bD mD GTu kTu bTu mTu
   have GSh:=rN (P:=l.prog) (w:=w) (mg:=mg) (base:=base) FSh T
   have GNd:=rS (P:=l.prog) (w:=w) (mg:=mg) (base:=base) FNd T GA kA bA mA GNs kNs bNs mNs
   have GSz:=tF (P:=l.prog) (w:=w) (mg:=mg) (base:=base) FSz T GA kA bA mA GNd kNd bNd mNd GSh kSh bSh mSh GOu kOu bOu mOu
   have GDn:=tM (P:=l.prog) (w:=w) (mg:=mg) (base:=base) FDn GA kA bA mA GSz kSz bSz mSz
   have GRw:=vI (P:=l.prog) (w:=w) (mg:=mg) (base:=base) FRw T TM GD kD bD mD
   have GTa:=o0 (P:=l.prog) (w:=w) (mg:=mg) (base:=base) FTa T
   have GGd:=ug (P:=l.prog) (w:=w) (mg:=mg) (base:=base) FGd T
   have GCn:=qJ (P:=l.prog) (w:=w) (mg:=mg) (base:=base) FCn T GGd kGd bGd mGd
   have GCs:=nZ (P:=l.prog) (w:=w) (mg:=mg) (base:=base) FCs T TB GCn kCn bCn mCn
   have GCo:=sY (P:=l.prog) (w:=w) (mg:=mg) (base:=base) FCo T
   have GCb:=q0 (P:=l.prog) (w:=w) (mg:=mg) (base:=base) FCb T TB GCn kCn bCn mCn GCo kCo bCo mCo
   have GI:=tS (P:=l.prog) (w:=w) (mg:=mg) (base:=base) FI T c nO nT GCs kCs bCs mCs GCb kCb bCb mCb
   have GMC0:=qE (P:=l.prog) (w:=w) (mg:=mg) (base:=base) FMC c nT
   have GMH0:=oy (P:=l.prog) (w:=w) (mg:=mg) (base:=base) FMH c nO
   have GMO:=uA (P:=l.prog) (w:=w) (mg:=mg) (base:=base) FMO c nT GMC0 hmMC bMC GMH0 hmMH bMH
   have GMC:=oO (P:=l.prog) (w:=w) (mg:=mg) (base:=base) FMC c nT XNB mNB
   have GMH:=nQ (P:=l.prog) (w:=w) (mg:=mg) (base:=base) FMH c nO XNS mNS
   have GCnX:=pc (P:=l.prog) (w:=w) (mg:=mg) (base:=base) FCn T XBB mBB GGd kGd bGd mGd
   have GCsX:=mV (P:=l.prog) (w:=w) (mg:=mg) (base:=base) FCs T TB XBB mBB GCnX kCn bCn mCn
   have GCoX:=qV (P:=l.prog) (w:=w) (mg:=mg) (base:=base) FCo T XBB mBB
   have GCbX:=oK (P:=l.prog) (w:=w) (mg:=mg) (base:=base) FCb T TB XBB mBB GCnX kCn bCn mCn GCoX kCo bCo mCo
   have GIX:=rP (P:=l.prog) (w:=w) (mg:=mg) (base:=base) FI T c nO nT GCsX kCs bCs mCs GCbX kCb bCb mCb
   have GMS:=nS (P:=l.prog) (w:=w) (mg:=mg) (base:=base) FMS T c nO
   have GMB:=qC (P:=l.prog) (w:=w) (mg:=mg) (base:=base) FMB T c nT
   have GMT:=rl (P:=l.prog) (w:=w) (mg:=mg) (base:=base) FMT c nO nT GMC0 hmMC bMC
   have GMX:=mQ (P:=l.prog) (w:=w) (mg:=mg) (base:=base) FMX T c MkB GIX bI mCB GMC hmMC bMC GMS hmMS bMS GMB hmMB bMB GMT hmMT bMT
   have GHd:=oV (P:=l.prog) (w:=w) (mg:=mg) (base:=base) FHd T MkB GIX bI mCB
   have GTI:=qr (P:=l.prog) (w:=w) (mg:=mg) (base:=base) FTI T
   have GCD:=uw (P:=l.prog) (w:=w) (mg:=mg) (base:=base) FCD T hX c XND mND
   have GHC:=vD (P:=l.prog) (w:=w) (mg:=mg) (base:=base) FHC T hX c XNC mNC
   have GHD:=vX (P:=l.prog) (w:=w) (mg:=mg) (base:=base) FHD T hX c XLa mLa GCD kCD bCD mCD
   have GHB:=rC (P:=l.prog) (w:=w) (mg:=mg) (base:=base) FHB T hX c GCD kCD bCD mCD
   have GHN:=ue (P:=l.prog) (w:=w) (mg:=mg) (base:=base) FHN T hX c GHB hmHB bHB
   have GHT:=qY (P:=l.prog) (w:=w) (mg:=mg) (base:=base) FHT T hX c GHC hmHC bHC GCD kCD bCD mCD
   have GHP:=sL (P:=l.prog) (w:=w) (mg:=mg) (base:=base) FHP T hX c GCD kCD bCD mCD
   have GHS:=qw (P:=l.prog) (w:=w) (mg:=mg) (base:=base) FHS T hX c GHT hmHT bHT
   have GHI:=sr (P:=l.prog) (w:=w) (mg:=mg) (base:=base) FHI T hX c
   have GHR:=qt (P:=l.prog) (w:=w) (mg:=mg) (base:=base) FHR T hX c XBN mBN XKn mKn XFu mFu GGd kGd bGd mGd GHN hmHN bHN GMH hmMH bMH
   have GHG:=oC (P:=l.prog) (w:=w) (mg:=mg) (base:=base) FHG T hX c XLa mLa GHN hmHN bHN GMX hmMX bMX GHD hmHD bHD GHP hmHP bHP
   have GHQ:=um (P:=l.prog) (w:=w) (mg:=mg) (base:=base) FHQ T hX c XFu mFu GHC hmHC bHC GHN hmHN bHN GMC hmMC bMC GHD hmHD bHD GHB hmHB bHB GHS hmHS bHS GMO hmMO bMO
   have GSR:=sT (P:=l.prog) (w:=w) (mg:=mg) (base:=base) FSR T c GMB hmMB bMB GMO hmMO bMO
   have GWy:=wc (P:=l.prog) (w:=w) (mg:=mg) (base:=base) FWy T c GMH0 hmMH bMH GSR kSR bSR mSR
   have GPr:=t3 (P:=l.prog) (w:=w) (mg:=mg) (base:=base) FPr T
   have GNF:=ot (P:=l.prog) (w:=w) (mg:=mg) (base:=base) FNF T nbool GPr kPr bPr mPr
   have GNR:=mX (P:=l.prog) (w:=w) (mg:=mg) (base:=base) FNR T GNF kNF bNF mNF
   have GLo:=oH (P:=l.prog) (w:=w) (mg:=mg) (base:=base) FLo T
   have GLl:=n6 (P:=l.prog) (w:=w) (mg:=mg) (base:=base) FLo T
   have GLy:=qK (P:=l.prog) (w:=w) (mg:=mg) (base:=base) FLy T
   have GFB:=om (P:=l.prog) (w:=w) (mg:=mg) (base:=base) FFB T GLy kLy bLy mLy
   have GSU:=mn (P:=l.prog) (w:=w) (mg:=mg) (base:=base) FSU T GLl kLo bLo mLo
   have GLv:=sJ (P:=l.prog) (w:=w) (mg:=mg) (base:=base) FLv T hX GHQ hmHQ bHQ GHG hmHG bHG GA kA bA mA GD kD bD mD
   have GSK:=na (P:=l.prog) (w:=w) (mg:=mg) (base:=base) FSK T hX GHQ hmHQ bHQ
   exact v7 FL T hX GA kA bA mA GDn kDn bDn mDn GTa kTa bTa mTa GHd kHd bHd mHd GRw kRw bRw mRw GLv kLv bLv mLv GWy kWy bWy mWy GPr kPr bPr mPr GSU kSU bSU mSU GSK kSK bSK mSK GLo kLo bLo mLo GNR kNR bNR mNR GFB kFB bFB mFB GTI kTI bTI mTI GHR hmHR bHR GHB hmHB bHB GHS hmHS bHS GHQ hmHQ bHQ MkH GHI bHI mCH⟩
theorem walk {l:PySem.W.OpenLaw}{q:Program}{loose:List Str}{XP:(Str→Option Value)→Heap→Prop}{YP:World→Heap→Prop}{d:DefRec}{K:Params→PySem.W.Frag}(hn:l.most=some 63)(hdf:d.params.defaults=[])
   (hY:∀ (w:World)(h:Heap),YP w h→(K w.params).In h)
   (F:∀ (w:World)(mg:Str→Option Value)(fa:Addr)(h:Heap),(K w.params).In h→h.Ns mainGlobals mg→mg d.name=some (.ref fa) →
     ∃ fd:FuncData,(∀ (s:Shared) (u:Value),BindsTo s fd ⟨[u],[]⟩ [("_law_script",u)])∧∀ base:Heap,(K w.params).In base→base.Ns mainGlobals mg→au l.prog w (K w.params) mg base CX0 9 fa fd ["_law_script"] (pS (K w.params))) :
   PySem.W.WalkO q loose XP YP l.row.toRowW d [] (fun f vs=>PySem.call f vs) :=
 L2.walk_of (n:=63) (k:=9) (x:="_law_script") (CX:=fun _=>CX0) (sp:=fun w=>pS (K w.params)) hn (by decide) hdf ⟨rfl,by decide,by decide⟩ hY F (fun _ _ a ns hl _ hS=>⟨a,ns,rfl,hS,hl,fun _=>rfl⟩) fun _ _ _ _ _ z=>z
end DM
namespace PySem.W.Fast
def tw10075214370230968224:=0
def tw10119619114492967327:=0
def tw10176436189140086884:=0
def tw1023684276601632544:=0
def tw10281829571659458983:=0
def tw10289755944186377840:=0
def tw10292097480138006056:=0
def tw10297732772627935300:=0
def tw10317395652365218218:=0
def tw10352505438029985439:=0
def tw10397577089704980499:=0
def tw1042537639002845792:=0
def tw10439539054564385287:=0
def tw10464423032233282996:=0
def tw10473997798823812278:=0
def tw1047662467366080171:=0
def tw10487375082573376541:=0
def tw10555612000610031703:=0
def tw10557139564369781307:=0
def tw10574353287977188213:=0
def tw10589858273247504197:=0
def tw1061566377245708326:=0
def tw10643588982372073251:=0
def tw10667843376641704114:=0
def tw10678398066296736999:=0
def tw10679642058202878017:=0
def tw10691210031226189916:=0
def tw10776537950575547973:=0
def tw10782225491250786451:=0
def tw10787489650641478872:=0
def tw10845688806619010285:=0
def tw10885205751530645227:=0
def tw1090227045610434189:=0
def tw10916229283242495240:=0
def tw10926664475467891932:=0
def tw10931476583612008769:=0
def tw10939331411056313928:=0
def tw10956363723272434623:=0
def tw10979042880169480598:=0
def tw11003503690122344492:=0
def tw11021056863578503331:=0
def tw11128578849846927087:=0
def tw11130896518765318821:=0
def tw1115141135624581411:=0
def tw11176414344554497254:=0
def tw11177046394278689673:=0
def tw1118031690520372285:=0
def tw11197363071447273335:=0
def tw11197653360291231525:=0
def tw11197916907189969516:=0
def tw11235574843849760539:=0
def tw11254646909294492536:=0
def tw11283320387414945680:=0
def tw11287135962255760326:=0
def tw11321881855279601071:=0
def tw11352904786129863676:=0
def tw11355301024370696857:=0
def tw11367224533579875640:=0
def tw11392387692695117771:=0
def tw11400796805673206086:=0
def tw11406269497316312273:=0
def tw11433925993969202283:=0
def tw11446531755895899717:=0
def tw11448119742349777827:=0
def tw11470801279487040692:=0
def tw11495791198256377457:=0
def tw11507584550963536871:=0
def tw11509559390729546076:=0
def tw11537859377986426365:=0
def tw11540297416320455843:=0
def tw11544627581786882128:=0
def tw11559969119182782420:=0
def tw11603490051057311531:=0
def tw11604964798957649540:=0
def tw11617603701636901795:=0
def tw11637603652695875730:=0
def tw11681629353085021762:=0
def tw11725340376217188394:=0
def tw11729310080106750125:=0
def tw11756070714492237151:=0
def tw11785867225151665786:=0
def tw11839165869877446386:=0
def tw11842488806850508552:=0
def tw11850631506423677556:=0
def tw11882137504213684071:=0
def tw11892932683037258831:=0
def tw11910172935476609163:=0
def tw11984937852014332848:=0
def tw12008914568227323344:=0
def tw12022880049599368318:=0
def tw12035022357921773857:=0
def tw12093482169232025936:=0
def tw12096732909696301378:=0
def tw12165766736721010652:=0
def tw12171912697817052436:=0
def tw12201076237288895217:=0
def tw12232620692691384485:=0
def tw12240555483377431549:=0
def tw12250386110191842771:=0
def tw1229605019009663155:=0
def tw12342424787466206219:=0
def tw12406157409708849703:=0
def tw12435294499666779243:=0
def tw12526927729028413229:=0
def tw1258686632463868802:=0
def tw12595773880334223950:=0
def tw12628314228962477800:=0
def tw12653208131346520882:=0
def tw12675316044409648817:=0
def tw12681498174765100871:=0
def tw12689260694691509267:=0
def tw12698383852987122888:=0
def tw12778992693627830050:=0
def tw12787277210957188787:=0
def tw12787496145398011158:=0
def tw12871597036396614460:=0
def tw12912263884306620116:=0
def tw12956569789894585036:=0
def tw12957259504452392861:=0
def tw12958448333120636245:=0
def tw12958933805634130001:=0
def tw12986993382316560239:=0
def tw13004340543377461162:=0
def tw13007882200971282926:=0
def tw13016864367695587274:=0
def tw13053669736495462837:=0
def tw13059641761267572371:=0
def tw13078469588021093241:=0
def tw13097838418694837014:=0
def tw13106328906072975161:=0
def tw13108525813457921345:=0
def tw1312590656241131214:=0
def tw13130675228983890306:=0
def tw13168939443418941528:=0
def tw13199586598148164531:=0
def tw13232658835131117716:=0
def tw13277754395929678395:=0
def tw13332730029159137320:=0
def tw13340450898370760337:=0
def tw13344122028581680980:=0
def tw13394956699250211847:=0
def tw13408772644868271990:=0
def tw13416523498186690323:=0
def tw13441781979167379961:=0
def tw13479238289470881985:=0
def tw13513836929117889681:=0
def tw13516618774242364942:=0
def tw13555082258983374574:=0
def tw13604300918513242025:=0
def tw13643713521136891700:=0
def tw13665599932972041647:=0
def tw13716601243417119147:=0
def tw13759852691446926814:=0
def tw13771734868439569773:=0
def tw13785630085477351205:=0
def tw1379324482606361740:=0
def tw13823556596806304937:=0
def tw13851950427685015523:=0
def tw13868790123011402941:=0
def tw13948811466229479544:=0
def tw13982379120807080730:=0
def tw13989759702595556862:=0
def tw14006243798757610976:=0
def tw1402613417647373265:=0
def tw14040344886884708674:=0
def tw14053766148035576318:=0
def tw14173069048654224340:=0
def tw14222565004736717709:=0
def tw14230001026981152823:=0
def tw14333404938213272496:=0
def tw14344863741801652287:=0
def tw14383371082014356298:=0
def tw14426208037220207671:=0
def tw14443766239843925714:=0
def tw1451186651045076321:=0
def tw14515638471921981508:=0
def tw14561785810498867153:=0
def tw14618276418896763689:=0
def tw14670668205310536050:=0
def tw14678762863953593107:=0
def tw14687695313164628227:=0
def tw14687777010941971873:=0
def tw14724379345658196272:=0
def tw14728935686172094536:=0
def tw14743667007512646053:=0
def tw14809704808111084743:=0
def tw14830197104392247639:=0
def tw14831242587658117221:=0
def tw14837668417374900458:=0
def tw14840965513368384848:=0
def tw14842294612340854797:=0
def tw14862719337377819788:=0
def tw15066321372441772799:=0
def tw1514084219466040410:=0
def tw15151222947149636311:=0
def tw15165326368576085210:=0
def tw15188572834745248756:=0
def tw15213220259140685149:=0
def tw15249144186256067942:=0
def tw1532900421770025000:=0
def tw1536015829306750852:=0
def tw15400375373354784132:=0
def tw15402278367190178435:=0
def tw15424643848259971106:=0
def tw1543145231402282721:=0
def tw15446437961679462037:=0
def tw15478932148912754341:=0
def tw15490652636870065279:=0
def tw15609646709829183116:=0
def tw15629252193828501560:=0
def tw15683334657157530464:=0
def tw1576820526690768053:=0
def tw15798066738741227798:=0
def tw15814983958589126751:=0
def tw15890575569207965450:=0
def tw15914023843642077702:=0
def tw15961464414208085009:=0
def tw16012513286926673284:=0
def tw16027826427211528235:=0
def tw16032844021065125244:=0
def tw1604565514074854660:=0
def tw16048514042243866018:=0
def tw16088027011401160686:=0
def tw16154672235969689614:=0
def tw16240402185365552071:=0
def tw16322558677501368770:=0
def tw16335343871285210190:=0
def tw16342424606396163354:=0
def tw16347764577187495252:=0
def tw16348843387936960463:=0
def tw16353394787540012123:=0
def tw16397743368595367811:=0
def tw16401980226831795248:=0
def tw16409817107865194237:=0
def tw16431741153070799061:=0
def tw16435892583724509497:=0
def tw1643803543781452008:=0
def tw1645907829163619801:=0
def tw16543235495366431110:=0
def tw16572286200884616792:=0
def tw16586209673302498457:=0
def tw16600506068522302809:=0
def tw16610867704730997738:=0
def tw16823350837624135313:=0
def tw16832336463181210051:=0
def tw16890374277960523400:=0
def tw1694850579076290493:=0
def tw16953080778939410646:=0
def tw17060033338986510317:=0
def tw17077464091061137631:=0
def tw17097996566234459023:=0
def tw17140153747322077488:=0
def tw17225387071486533232:=0
def tw17227070991386876409:=0
def tw1723482508677510951:=0
def tw17240976889242432110:=0
def tw17245168946842595409:=0
def tw17286761744801657394:=0
def tw17299088690457193171:=0
def tw17312560726748974084:=0
def tw17398408093876750431:=0
def tw17442792751380035354:=0
def tw17540770492915056214:=0
def tw17545302072075317142:=0
def tw17554770391504671649:=0
def tw17573734403783687064:=0
def tw17608994156114373890:=0
def tw17621442596567519084:=0
def tw17652762246053716343:=0
def tw17675312006957612866:=0
def tw17676179815051209000:=0
def tw1768096143982485649:=0
def tw17698732107380658136:=0
def tw17843544834457928197:=0
def tw17894101837577362236:=0
def tw17925332003170834601:=0
def tw17927886455180522696:=0
def tw18045596164741325175:=0
def tw18083146290254292127:=0
def tw18129678980355103241:=0
def tw1813762374257849619:=0
def tw18194178730900218370:=0
def tw18222969983931190208:=0
def tw18246345889656486222:=0
def tw18258558419290488402:=0
def tw18265836070167804749:=0
def tw18275194115464284388:=0
def tw18307625030806327853:=0
def tw18365200345614871142:=0
def tw18390309172353667856:=0
def tw18402907575585508290:=0
def tw1842736799614266557:=0
def tw18433294273555411598:=0
def tw1931626356438790967:=0
def tw1952711492328833469:=0
def tw198715562310014255:=0
def tw1998298159340523283:=0
def tw2064871345210193975:=0
def tw2081935828895892040:=0
def tw2100283319934601684:=0
def tw2106538201360375302:=0
def tw2107578965048588503:=0
def tw2168446215961504350:=0
def tw2182684620942205463:=0
def tw2206058805285214243:=0
def tw2214895935920223249:=0
def tw2307505219211316699:=0
def tw2368246295878499507:=0
def tw2392258779465824464:=0
def tw2403182236074705052:=0
def tw243419456663921281:=0
def tw2460771581565899630:=0
def tw2506936284210075339:=0
def tw253565606068032241:=0
def tw2555315022863871762:=0
def tw2590383358069052090:=0
def tw2718736104875765261:=0
def tw2720790557541282984:=0
def tw2725218754795801602:=0
def tw2730730035581888789:=0
def tw2745131263561377536:=0
def tw2769062672704475208:=0
def tw2795211944390029621:=0
def tw2835014933314895891:=0
def tw2853031285904477000:=0
def tw2903274811955297597:=0
def tw290961617019347196:=0
def tw2923122498519446295:=0
def tw294298087799954565:=0
def tw2998416100050916441:=0
def tw3001224148957574693:=0
def tw3044445867079401619:=0
def tw3150666835426620252:=0
def tw3182244565051744620:=0
def tw3190398585320458314:=0
def tw3209418290663703247:=0
def tw3229137635015691836:=0
def tw3241876087062849676:=0
def tw3254000092289882178:=0
def tw3260279739975318046:=0
def tw327184016981570409:=0
def tw3340330163541640625:=0
def tw339836217561811219:=0
def tw3455248024485781223:=0
def tw3563583898291673156:=0
def tw3576140887267003317:=0
def tw3613935317522119721:=0
def tw3663335368633078023:=0
def tw3701603500844848803:=0
def tw3791795235762545414:=0
def tw3801180546359437935:=0
def tw3905300790864383061:=0
def tw3981408571661430807:=0
def tw401420409385134594:=0
def tw4021240794440434441:=0
def tw4058628823883074882:=0
def tw4060304652642555185:=0
def tw4070949857460061436:=0
def tw4081576660410268657:=0
def tw4101392206427309820:=0
def tw4112871274334465931:=0
def tw413857651761560969:=0
def tw4147918084188139419:=0
def tw4163124772173441760:=0
def tw4249728458051926853:=0
def tw4344645776962880182:=0
def tw4350475976795857853:=0
def tw4429957248026028324:=0
def tw4441950780588133533:=0
def tw4445620433853249264:=0
def tw4461014711284219481:=0
def tw448523792222432756:=0
def tw4506927694027892350:=0
def tw4510483457562892017:=0
def tw4523590327052795370:=0
def tw4526787313932929942:=0
def tw4528438914161358070:=0
def tw4547208154188515089:=0
def tw4629903624280776353:=0
def tw4700548984117935600:=0
def tw4709640803257313138:=0
def tw4749422959093212278:=0
def tw4772101935824715150:=0
def tw4774061071137076738:=0
def tw4799257678674062957:=0
def tw4827300151118853455:=0
def tw4858175998292094317:=0
def tw4875692608581971805:=0
def tw4898785367982406438:=0
def tw4938573745227803299:=0
def tw4982688300454544114:=0
def tw5077639592545849541:=0
def tw5321853009826078225:=0
def tw5328142844957806824:=0
def tw5353494181851081380:=0
def tw5385805186446946977:=0
def tw5403110939875234127:=0
def tw5406361481236959844:=0
def tw543020596812867234:=0
def tw545098876259022095:=0
def tw5497628432142531806:=0
def tw5537821235823035373:=0
def tw5541873814440620135:=0
def tw5583914160279621882:=0
def tw5594999042475490204:=0
def tw5646547114277296263:=0
def tw5671726072580601972:=0
def tw5742792723178158889:=0
def tw5749815434924308234:=0
def tw584308481935896014:=0
def tw5880954163347478368:=0
def tw5906097383437713958:=0
def tw5929296003746821726:=0
def tw59833189505502710:=0
def tw6014362077869591738:=0
def tw60285174991561939:=0
def tw6123928554969370031:=0
def tw6159829806171738311:=0
def tw6168988105906395309:=0
def tw6185222036904323101:=0
def tw6206581701431775367:=0
def tw6228150973054405516:=0
def tw6254552163675242520:=0
def tw6274234803449900504:=0
def tw6299273341754556497:=0
def tw6308279100599338670:=0
def tw6308724751417906717:=0
def tw6448523494679743677:=0
def tw6449392759084677340:=0
def tw6455013012012132744:=0
def tw6472995514772785537:=0
def tw6474950523330475919:=0
def tw6490524945615763420:=0
def tw6532613388097795890:=0
def tw6537254220749916669:=0
def tw6550196802606855812:=0
def tw6627245144480270506:=0
def tw6679002895544408536:=0
def tw6701042033219848405:=0
def tw6733884345029815755:=0
def tw6762695955355864340:=0
def tw6768820162735533628:=0
def tw6783187404056293541:=0
def tw6827233652630371561:=0
def tw6834819760390389867:=0
def tw6838105460435772149:=0
def tw6856673865583138606:=0
def tw688228796268942906:=0
def tw6900862036472381701:=0
def tw6937701988758806958:=0
def tw693943242947373715:=0
def tw694640517917869795:=0
def tw6959741175259942713:=0
def tw7050249134608445493:=0
def tw7076371608709123763:=0
def tw7087644384112057753:=0
def tw7132599761595942849:=0
def tw7207612114946855349:=0
def tw7213229488208795460:=0
def tw7237152493131574220:=0
def tw7248570278506957058:=0
def tw7261849491704207738:=0
def tw7262198312514289086:=0
def tw7297782484246670124:=0
def tw7310793936379879145:=0
def tw7335421692133420686:=0
def tw7353743042172800681:=0
def tw735683041905319902:=0
def tw7413316501187200297:=0
def tw7425574065965601185:=0
def tw7447457538160428563:=0
def tw7480214944815551672:=0
def tw7490399433971732205:=0
def tw7508941635790488817:=0
def tw7512077436274248539:=0
def tw7526616557601986213:=0
def tw7575886909854542125:=0
def tw7601079592930807755:=0
def tw7637544755666367194:=0
def tw7642373367209097039:=0
def tw766026520064655381:=0
def tw7661971249460365019:=0
def tw7673971134068909862:=0
def tw7714002533684221668:=0
def tw7717080187752583035:=0
def tw772367865802672507:=0
def tw772963130581210220:=0
def tw774034790654853355:=0
def tw7763041694193482295:=0
def tw7841904706872442962:=0
def tw7848776132673728876:=0
def tw7899148824338503018:=0
def tw794365827004239503:=0
def tw796161800738325999:=0
def tw7964590397222324004:=0
def tw8016601239852081628:=0
def tw8027004661782263280:=0
def tw8068753153431770339:=0
def tw8091272647254082973:=0
def tw8111408057243874102:=0
def tw8126622820877706302:=0
def tw812784520753935418:=0
def tw8149980869560250564:=0
def tw8152929593816784388:=0
def tw8157906348574910730:=0
def tw8177242696165779603:=0
def tw818056878374273976:=0
def tw8200031658258416238:=0
def tw8209549463555940576:=0
def tw8229624224695286014:=0
def tw8302307331699529688:=0
def tw8335547129170967025:=0
def tw8352691292836095484:=0
def tw8355997700471636125:=0
def tw837407692447097683:=0
def tw8435435237742569054:=0
def tw8436955091864472154:=0
def tw8451334709482846331:=0
def tw850384430110778958:=0
def tw8510316878907341217:=0
def tw8531697920488111865:=0
def tw8541553421637349294:=0
def tw8604094556702011954:=0
def tw8631340328169745275:=0
def tw8634571702702198344:=0
def tw8638244819717958844:=0
def tw8641741334007667866:=0
def tw8687270166715788263:=0
def tw8687463915700369844:=0
def tw874318598227926433:=0
def tw8768711603410776489:=0
def tw8780501664185661339:=0
def tw8801493042424616978:=0
def tw881937591367708137:=0
def tw8829790187280052426:=0
def tw8847548140228337556:=0
def tw891386726715880827:=0
def tw8938769867313845949:=0
def tw8983345661041062420:=0
def tw898917992751832480:=0
def tw8998323714759537567:=0
def tw9006857251626958792:=0
def tw904098617998554202:=0
def tw9041875334251874769:=0
def tw9086860433388188395:=0
def tw9087459481563267404:=0
def tw9105245592452765884:=0
def tw9132731062601150623:=0
def tw9190249846572364966:=0
def tw9196148513491945666:=0
def tw924292643703234673:=0
def tw9250745897271415250:=0
def tw9252907074890003474:=0
def tw9282364944526359866:=0
def tw9294447121684663002:=0
def tw9301679663160928604:=0
def tw9316115268173962533:=0
def tw9344904334576292553:=0
def tw9430751288227572991:=0
def tw9497964293453519266:=0
def tw9543457157731848637:=0
def tw9605144490661991642:=0
def tw9638487990028662515:=0
def tw9679285403814911780:=0
def tw9685274263146424518:=0
def tw9686839764237178713:=0
def tw9723081790203354539:=0
def tw9760056799083426483:=0
def tw978586909316185887:=0
def tw9800525228492144924:=0
def tw9813656032817350539:=0
def tw9822375753396611284:=0
def tw9871082423787871116:=0
def tw9885860514215785241:=0
def tw9918343132218503489:=0
def tw9965509346209145481:=0
def tw9971977497853406296:=0
end PySem.W.Fast
open PySem PySem.W PyProof.Rows
set_option maxRecDepth 100000 in
set_option maxHeartbeats 0 in
theorem PySem.Challenge.cw_dipmaps_k39_whole_plan_dipped_holds : PySem.Challenge.rw_dipmaps_k39_whole_plan_dipped.Holds := by
 w_on;o_law;k_head;(case hw=>w_witness2)
 k_fill
 refine DM.walk (l:=PySem.Challenge.rw_dipmaps_k39_whole_plan_dipped) rfl rfl (fun w h Y=>PySem.W.kIn_of Y) ?F
 case F =>
   intro w mg fa h KX G hmg
   refine' DM.all_mk KX G hmg ?aCB ?aI ?iI ?lI ?cI ?kI ?aMS ?iMS ?lMS ?cMS ?kMS ?aMB ?iMB ?lMB ?cMB ?kMB ?aMT ?iMT ?lMT ?cMT ?kMT ?aMX ?iMX ?lMX ?cMX ?kMX ?aMC ?iMC ?lMC ?cMC ?kMC ?aMH ?iMH ?lMH ?cMH ?kMH ?aMO ?iMO ?lMO ?cMO ?kMO ?pgB ?hdB ?poB ?saB ?mkB ?kcB ?naB_order ?naB_tables ?aCH ?aHI ?iHI ?lHI ?cHI ?kHI ?aHR ?iHR ?lHR ?cHR ?kHR ?aHQ ?iHQ ?lHQ ?cHQ ?kHQ ?aHG ?iHG ?lHG ?cHG ?kHG ?aHB ?iHB ?lHB ?cHB ?kHB ?aHS ?iHS ?lHS ?cHS ?kHS ?aHT ?iHT ?lHT ?cHT ?kHT ?aHP ?iHP ?lHP ?cHP ?kHP ?aHN ?iHN ?lHN ?cHN ?kHN ?aHC ?iHC ?lHC ?cHC ?kHC ?aHD ?iHD ?lHD ?cHD ?kHD ?pgH ?hdH ?poH ?saH ?mkH ?kcH ?naH_first_shades ?naH_day_now ?naH_standing ?naH_books_from ?aGd ?lGd ?cGd ?kGd ?aCn ?lCn ?cCn ?kCn ?aCs ?lCs ?cCs ?kCs ?aCo ?lCo ?cCo ?kCo ?aCb ?lCb ?cCb ?kCb ?aCD ?lCD ?cCD ?kCD ?aA ?lA ?cA ?kA ?aD ?lD ?cD ?kD ?aN ?lN ?cN ?kN ?aNs ?lNs ?cNs ?kNs ?aTu ?lTu ?cTu ?kTu ?aOu ?lOu ?cOu ?kOu ?aSh ?lSh ?cSh ?kSh ?aNd ?lNd ?cNd ?kNd ?aSz ?lSz ?cSz ?kSz ?aDn ?lDn ?cDn ?kDn ?aTa ?lTa ?cTa ?kTa ?aHd ?lHd ?cHd ?kHd ?aTI ?lTI ?cTI ?kTI ?aRw ?lRw ?cRw ?kRw ?aSR ?lSR ?cSR ?kSR ?aWy ?lWy ?cWy ?kWy ?aPr ?lPr ?cPr ?kPr ?aNF ?lNF ?cNF ?kNF ?aNR ?lNR ?cNR ?kNR ?aLo ?lLo ?cLo ?kLo ?aLy ?lLy ?cLy ?kLy ?aFB ?lFB ?cFB ?kFB ?aSU ?lSU ?cSU ?kSU ?aLv ?lLv ?cLv ?kLv ?aSK ?lSK ?cSK ?kSK ?aL ?lL ?cL ?kL ?aNoDay ?exND ?elND ?egND ?etND ?eaND ?emND ?ebND ?aLate ?exLa ?elLa ?egLa ?etLa ?eaLa ?emLa ?ebLa ?aNoCloth ?exNC ?elNC ?egNC ?etNC ?eaNC ?emNC ?ebNC ?aKnown ?exKn ?elKn ?egKn ?etKn ?eaKn ?emKn ?ebKn ?aBadName ?exBN ?elBN ?egBN ?etBN ?eaBN ?emBN ?ebBN ?aFull ?exFu ?elFu ?egFu ?etFu ?eaFu ?emFu ?ebFu ?aNoBath ?exNB ?elNB ?egNB ?etNB ?eaNB ?emNB ?ebNB ?aNoShade ?exNS ?elNS ?egNS ?etNS ?eaNS ?emNS ?ebNS ?aBadBook ?exBB ?elBB ?egBB ?etBB ?eaBB ?emBB ?ebBB ?eN1 ?eT1 ?zlen ?zall ?zrange ?zisinstance ?zlist ?zstr ?zsorted ?ztuple ?zdict ?zzip ?zset ?zmin ?zint ?zmax ?zbool ?vlett ?vlong ?vmostS ?vmostB ?vfday ?vlday ?vmostC ?vmostD
   (case aCB=>k_is)
   (case aI=>k_is)
   (case iI=>k_is)
   (case lI=>k_is)
   (case cI=>k_is)
   (case kI=>k_is)
   (case aMS=>k_is)
   (case iMS=>k_is)
   (case lMS=>k_is)
   (case cMS=>k_is)
   (case kMS=>k_is)
   (case aMB=>k_is)
   (case iMB=>k_is)
   (case lMB=>k_is)
   (case cMB=>k_is)
   (case kMB=>k_is)
   (case aMT=>k_is)
   (case iMT=>k_is)
   (case lMT=>k_is)
   (case cMT=>k_is)
   (case kMT=>k_is)
   (case aMX=>k_is)
   (case iMX=>k_is)
   (case lMX=>k_is)
   (case cMX=>k_is)
   (case kMX=>k_is)
   (case aMC=>k_is)
   (case iMC=>k_is)
   (case lMC=>k_is)
   (case cMC=>k_is)
   (case kMC=>k_is)
   (case aMH=>k_is)
   (case iMH=>k_is)
   (case lMH=>k_is)
   (case cMH=>k_is)
   (case kMH=>k_is)
   (case aMO=>k_is)
   (case iMO=>k_is)
   (case lMO=>k_is)
   (case cMO=>k_is)
   (case kMO=>k_is)
   (case pgB=>k_is)
   (case hdB=>k_is)
   (case poB=>k_is)
   (case saB=>k_is)
   (case mkB=>k_is)
   (case kcB=>k_is)
   (case naB_order=>k_is)
   (case naB_tables=>k_is)
   (case aCH=>k_is)
   (case aHI=>k_is)
   (case iHI=>k_is)
   (case lHI=>k_is)
   (case cHI=>k_is)
   (case kHI=>k_is)
   (case aHR=>k_is)
   (case iHR=>k_is)
   (case lHR=>k_is)
   (case cHR=>k_is)
   (case kHR=>k_is)
   (case aHQ=>k_is)
   (case iHQ=>k_is)
   (case lHQ=>k_is)
   (case cHQ=>k_is)
   (case kHQ=>k_is)
   (case aHG=>k_is)
   (case iHG=>k_is)
   (case lHG=>k_is)
   (case cHG=>k_is)
   (case kHG=>k_is)
   (case aHB=>k_is)
   (case iHB=>k_is)
   (case lHB=>k_is)
   (case cHB=>k_is)
   (case kHB=>k_is)
   (case aHS=>k_is)
   (case iHS=>k_is)
   (case lHS=>k_is)
   (case cHS=>k_is)
   (case kHS=>k_is)
   (case aHT=>k_is)
   (case iHT=>k_is)
   (case lHT=>k_is)
   (case cHT=>k_is)
   (case kHT=>k_is)
   (case aHP=>k_is)
   (case iHP=>k_is)
   (case lHP=>k_is)
   (case cHP=>k_is)
   (case kHP=>k_is)
   (case aHN=>k_is)
   (case iHN=>k_is)
   (case lHN=>k_is)
   (case cHN=>k_is)
   (case kHN=>k_is)
   (case aHC=>k_is)
   (case iHC=>k_is)
   (case lHC=>k_is)
   (case cHC=>k_is)
   (case kHC=>k_is)
   (case aHD=>k_is)
   (case iHD=>k_is)
   (case lHD=>k_is)
   (case cHD=>k_is)
   (case kHD=>k_is)
   (case pgH=>k_is)
   (case hdH=>k_is)
   (case poH=>k_is)
   (case saH=>k_is)
   (case mkH=>k_is)
   (case kcH=>k_is)
   (case naH_first_shades=>k_is)
   (case naH_day_now=>k_is)
   (case naH_standing=>k_is)
   (case naH_books_from=>k_is)
   (case aGd=>k_is)
   (case lGd=>k_is)
   (case cGd=>k_is)
   (case kGd=>k_is)
   (case aCn=>k_is)
   (case lCn=>k_is)
   (case cCn=>k_is)
   (case kCn=>k_is)
   (case aCs=>k_is)
   (case lCs=>k_is)
   (case cCs=>k_is)
   (case kCs=>k_is)
   (case aCo=>k_is)
   (case lCo=>k_is)
   (case cCo=>k_is)
   (case kCo=>k_is)
   (case aCb=>k_is)
   (case lCb=>k_is)
   (case cCb=>k_is)
   (case kCb=>k_is)
   (case aCD=>k_is)
   (case lCD=>k_is)
   (case cCD=>k_is)
   (case kCD=>k_is)
   (case aA=>k_is)
   (case lA=>k_is)
   (case cA=>k_is)
   (case kA=>k_is)
   (case aD=>k_is)
   (case lD=>k_is)
   (case cD=>k_is)
   (case kD=>k_is)
   (case aN=>k_is)
   (case lN=>k_is)
   (case cN=>k_is)
   (case kN=>k_is)
   (case aNs=>k_is)
   (case lNs=>k_is)
   (case cNs=>k_is)
   (case kNs=>k_is)
   (case aTu=>k_is)
   (case lTu=>k_is)
   (case cTu=>k_is)
   (case kTu=>k_is)
   (case aOu=>k_is)
   (case lOu=>k_is)
   (case cOu=>k_is)
   (case kOu=>k_is)
   (case aSh=>k_is)
   (case lSh=>k_is)
   (case cSh=>k_is)
   (case kSh=>k_is)
   (case aNd=>k_is)
   (case lNd=>k_is)
   (case cNd=>k_is)
   (case kNd=>k_is)
   (case aSz=>k_is)
   (case lSz=>k_is)
   (case cSz=>k_is)
   (case kSz=>k_is)
   (case aDn=>k_is)
   (case lDn=>k_is)
   (case cDn=>k_is)
   (case kDn=>k_is)
   (case aTa=>k_is)
   (case lTa=>k_is)
   (case cTa=>k_is)
   (case kTa=>k_is)
   (case aHd=>k_is)
   (case lHd=>k_is)
   (case cHd=>k_is)
   (case kHd=>k_is)
   (case aTI=>k_is)
   (case lTI=>k_is)
   (case cTI=>k_is)
   (case kTI=>k_is)
   (case aRw=>k_is)
   (case lRw=>k_is)
   (case cRw=>k_is)
   (case kRw=>k_is)
   (case aSR=>k_is)
   (case lSR=>k_is)
   (case cSR=>k_is)
   (case kSR=>k_is)
   (case aWy=>k_is)
   (case lWy=>k_is)
   (case cWy=>k_is)
   (case kWy=>k_is)
   (case aPr=>k_is)
   (case lPr=>k_is)
   (case cPr=>k_is)
   (case kPr=>k_is)
   (case aNF=>k_is)
   (case lNF=>k_is)
   (case cNF=>k_is)
   (case kNF=>k_is)
   (case aNR=>k_is)
   (case lNR=>k_is)
   (case cNR=>k_is)
   (case kNR=>k_is)
   (case aLo=>k_is)
   (case lLo=>k_is)
   (case cLo=>k_is)
   (case kLo=>k_is)
   (case aLy=>k_is)
   (case lLy=>k_is)
   (case cLy=>k_is)
   (case kLy=>k_is)
   (case aFB=>k_is)
   (case lFB=>k_is)
   (case cFB=>k_is)
   (case kFB=>k_is)
   (case aSU=>k_is)
   (case lSU=>k_is)
   (case cSU=>k_is)
   (case kSU=>k_is)
   (case aLv=>k_is)
   (case lLv=>k_is)
   (case cLv=>k_is)
   (case kLv=>k_is)
   (case aSK=>k_is)
   (case lSK=>k_is)
   (case cSK=>k_is)
   (case kSK=>k_is)
   (case aL=>k_is)
   (case lL=>k_is)
   (case cL=>k_is)
   (case kL=>k_is)
   (case aNoDay=>k_is)
   (case exND=>k_exc)
   (case elND=>k_is)
   (case egND=>k_is)
   (case etND=>k_is)
   (case eaND=>k_is)
   (case emND=>k_is)
   (case ebND=>k_is)
   (case aLate=>k_is)
   (case exLa=>k_exc)
   (case elLa=>k_is)
   (case egLa=>k_is)
   (case etLa=>k_is)
   (case eaLa=>k_is)
   (case emLa=>k_is)
   (case ebLa=>k_is)
   (case aNoCloth=>k_is)
   (case exNC=>k_exc)
   (case elNC=>k_is)
   (case egNC=>k_is)
   (case etNC=>k_is)
   (case eaNC=>k_is)
   (case emNC=>k_is)
   (case ebNC=>k_is)
   (case aKnown=>k_is)
   (case exKn=>k_exc)
   (case elKn=>k_is)
   (case egKn=>k_is)
   (case etKn=>k_is)
   (case eaKn=>k_is)
   (case emKn=>k_is)
   (case ebKn=>k_is)
   (case aBadName=>k_is)
   (case exBN=>k_exc)
   (case elBN=>k_is)
   (case egBN=>k_is)
   (case etBN=>k_is)
   (case eaBN=>k_is)
   (case emBN=>k_is)
   (case ebBN=>k_is)
   (case aFull=>k_is)
   (case exFu=>k_exc)
   (case elFu=>k_is)
   (case egFu=>k_is)
   (case etFu=>k_is)
   (case eaFu=>k_is)
   (case emFu=>k_is)
   (case ebFu=>k_is)
   (case aNoBath=>k_is)
   (case exNB=>k_exc)
   (case elNB=>k_is)
   (case egNB=>k_is)
   (case etNB=>k_is)
   (case eaNB=>k_is)
   (case emNB=>k_is)
   (case ebNB=>k_is)
   (case aNoShade=>k_is)
   (case exNS=>k_exc)
   (case elNS=>k_is)
   (case egNS=>k_is)
   (case etNS=>k_is)
   (case eaNS=>k_is)
   (case emNS=>k_is)
   (case ebNS=>k_is)
   (case aBadBook=>k_is)
   (case exBB=>k_exc)
   (case elBB=>k_is)
   (case egBB=>k_is)
   (case etBB=>k_is)
   (case eaBB=>k_is)
   (case emBB=>k_is)
   (case ebBB=>k_is)
   (case eN1=>k_is)
   (case eT1=>k_is)
   (case zlen=>k_is)
   (case zall=>k_is)
   (case zrange=>k_is)
   (case zisinstance=>k_is)
   (case zlist=>k_is)
   (case zstr=>k_is)
   (case zsorted=>k_is)
   (case ztuple=>k_is)
   (case zdict=>k_is)
   (case zzip=>k_is)
   (case zset=>k_is)
   (case zmin=>k_is)
   (case zint=>k_is)
   (case zmax=>k_is)
   (case zbool=>k_is)
   (case vlett=>k_is)
   (case vlong=>k_is)
   (case vmostS=>k_is)
   (case vmostB=>k_is)
   (case vfday=>k_is)
   (case vlday=>k_is)
   (case vmostC=>k_is)
   (case vmostD=>k_is)

