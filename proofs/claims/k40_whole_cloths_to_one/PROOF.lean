import PyProof.Rows.All
import Wide.All
import OpenK.AllK
import Wide.FinOn
import Lean
import PyProof.EqAt
import PyProof.EqKinds
import PyProof.TupleCall
import PySem.Challenge.RW_dipmaps_k40_whole_cloths_to_one
set_option Elab.async false
set_option linter.all false
set_option maxRecDepth 100000
/-! THE HAND LAYER,for ints,bools,texts,own classes,LISTS and tuples (index,slices,in,append,pop ..),calls,loops. Paste it whole ahead of your own text;what your proof does not reach may be deleted. -/
namespace L2
open PySem PySem.Spec PyProof.Rows

abbrev Key:=Sum Int Str
def jp:Key→Value→Bool
 | .inl k,v=>Value.isInt k v
 | .inr x,v=>Value.isStrOf x v
def yZ (w:World):Key→Int
 | .inl k=>hashInt k
 | .inr x=>hashStr w x
theorem bH:∀ {k:Key}{v:Value},jp k v=true→(∃ i t,k=Sum.inl i∧v=Value.int i t)∨(∃ x t,k=Sum.inr x∧v=Value.str x t)
 | .inl i,v,h=>by
   obtain⟨t,e⟩:=Value.isInt_shape (k:=i) (v:=v) h
   exact .inl ⟨i,t,rfl,e⟩
 | .inr x,v,h=>by
   obtain⟨t,e⟩:=Value.isStrOf_shape (x:=x) (v:=v) h
   exact .inr ⟨x,t,rfl,e⟩
theorem sv (i:Int)(t:Tok):jp (.inl i) (.int i t)=true:=by simp[jp,Value.isInt]
theorem sg (x:Str)(t:Tok):jp (.inr x) (.str x t)=true:=by simp[jp,Value.isStrOf]
theorem xV (a b:Int):decide ((Sum.inl a:Key)=Sum.inl b)=(a==b):=by
 by_cases e:a=b
 · subst e;simp
 · have h:¬(Sum.inl a:Key)=Sum.inl b:=fun q=>e (Sum.inl.inj q)
   rw[decide_eq_false h]
   exact(beq_eq_false_iff_ne.mpr e).symm
theorem xy (a b:Str):decide ((Sum.inr a:Key)=Sum.inr b)=decide (a=b):=by
 by_cases e:a=b
 · subst e;simp
 · have h:¬(Sum.inr a:Key)=Sum.inr b:=fun q=>e (Sum.inr.inj q)
   rw[decide_eq_false h,decide_eq_false e]
theorem xo (a:Int) (b:Str):decide ((Sum.inl a:Key)=Sum.inr b)=false:=decide_eq_false (fun q=>nomatch q)
theorem xG (a:Str) (b:Int):decide ((Sum.inr a:Key)=Sum.inl b)=false:=decide_eq_false (fun q=>nomatch q)

def bJ (prog:Program)(w:World):PySem.KeyKind prog w Key where
 is:=jp
 hash:=yZ w
 inj:=fun v a b ha hb=>by
   rcases bH ha with ⟨i,t,rfl,rfl⟩ | ⟨x,t,rfl,rfl⟩
   · rcases bH hb with ⟨j,u,rfl,e⟩ | ⟨y,u,rfl,e⟩
     · injection e with e1 _;rw[e1]
     · exact nomatch e
   · rcases bH hb with ⟨j,u,rfl,e⟩ | ⟨y,u,rfl,e⟩
     · exact nomatch e
     · injection e with e1 _;rw[e1]
 byValue:=fun k v h=>by
   rcases bH h with ⟨i,t,rfl,rfl⟩ | ⟨x,t,rfl,rfl⟩<;>rfl
 pyHash:=fun hv h=>by
   rcases bH hv with ⟨i,t,rfl,rfl⟩ | ⟨x,t,rfl,rfl⟩
   · exact wpAny_pyHash_int h
   · exact wpAny_pyHash_str h
 eqBool:=fun hu hv h=>by
   rcases bH hu with ⟨i,t,rfl,rfl⟩ | ⟨x,t,rfl,rfl⟩
   · rcases bH hv with ⟨j,u,rfl,rfl⟩ | ⟨y,u,rfl,rfl⟩
     · rw[xV] at h;exact wpAny_eqBool_int h
     · rw[xo] at h;exact SeqAt.EqAt.int_str i t y u _ _ _ _ h
   · rcases bH hv with ⟨j,u,rfl,rfl⟩ | ⟨y,u,rfl,rfl⟩
     · rw[xG] at h;exact SeqAt.EqAt.str_int x t j u _ _ _ _ h
     · rw[xy] at h;exact wpAny_eqBool_str h
 «strs»:=fun k x t v h=>by
   rcases bH h with ⟨i,u,rfl,e⟩ | ⟨y,u,rfl,e⟩
   · exact nomatch e
   · injection e with e1 _
     subst e1
     cases v<;>rfl

theorem oY (prog:Program)(w:World) (i:Int)(t:Tok):(bJ prog w).is (.inl i) (.int i t)=true:=sv i t
theorem jq (prog:Program)(w:World) (x:Str)(t:Tok):(bJ prog w).is (.inr x) (.str x t)=true:=sg x t
end L2

namespace L2
open PySem PySem.Spec PyProof.Rows

inductive V where
 | non | bl (b:Bool) | int (i:Int) | str (x:Str) | byt (b:Array UInt8) | flt (b:UInt64) | ref (a:Addr) | ty (n:String)
 deriving DecidableEq

def a8:V→Value→Prop
 | .non,u=>u=Value.none
 | .bl b,u=>u=Value.bool b
 | .int i,u=>∃ t,u=Value.int i t
 | .str x,u=>∃ t,u=Value.str x t
 | .byt b,u=>∃ t,u=Value.bytes b t
 | .flt b,u=>∃ t,u=Value.float b t
 | .ref a,u=>u=Value.ref a
 | .ty n,u=>u=Value.type n

abbrev Vals:List V→List Value→Prop:=Paired a8
theorem Vals.length {xs:List V}{us:List Value}(r:Vals xs us):xs.length=us.length:=Paired.length r
theorem Vals.get:∀ {xs:List V}{us:List Value}{i:Nat}{x:V},Vals xs us→xs[i]?=some x→∃ u,us[i]?=some u∧a8 x u
 | _,_,_,_,.nil,e=>by simp at e
 | _,_,0,_,.cons r _,e=>by simp at e;subst e;exact⟨_,rfl,r⟩
 | _,_,i+1,x,.cons _ t,e=>by
   obtain⟨u,h1,h2⟩:=Vals.get (i:=i) (x:=x) t (by simpa using e)
   exact⟨u,by simpa using h1,h2⟩
theorem Vals.set {x:V}{u:Value}(r:a8 x u):∀ {xs:List V}{us:List Value} (i:Nat),Vals xs us→Vals (xs.set i x) (us.set i u)
 | _,_,_,.nil=>.nil
 | _,_,0,.cons _ t=>.cons r t
 | _,_,i+1,.cons q t=>.cons q (Vals.set r i t)
theorem Vals.append:∀ {xs ys:List V}{us ws:List Value},Vals xs us→Vals ys ws→Vals (xs++ys) (us++ws)
 | _,_,_,_,.nil,s=>s
 | _,_,_,_,.cons r t,s=>.cons r (Vals.append t s)
theorem Vals.take:∀ {xs:List V}{us:List Value} (n:Nat),Vals xs us→Vals (xs.take n) (us.take n)
 | _,_,0,_=>.nil
 | _,_,_+1,.nil=>.nil
 | _,_,n+1,.cons r t=>.cons r (Vals.take n t)
theorem Vals.drop:∀ {xs:List V}{us:List Value} (n:Nat),Vals xs us→Vals (xs.drop n) (us.drop n)
 | _,_,0,r=>r
 | _,_,_+1,.nil=>.nil
 | _,_,n+1,.cons _ t=>Vals.drop n t
def gK:Option V→Option Value→Prop
 | some v,some u=>a8 v u
 | none,none=>True
 | _,_=>False
def KV {κ:Type}:List (κ×V)→List (κ×Value)→Prop:=Paired fun(p:κ×V)(q:κ×Value)=>p.1=q.1∧a8 p.2 q.2

def kV:Key→V
 | .inl i=>.int i
 | .inr x=>.str x

inductive HO where
 | lst (xs:List V)
 | tup (xs:List V)
 | dK (kvs:List (Key×V)) | dT (kvs:List (List Key×V))
 | set (S:Int→Bool) (n:Nat)
 | ins (C dx:Addr)(fs:List (Str×V))
 | own (x:Addr)
 | xd (fs:List (Str×V))
 | met (f x:Addr)
 | rng (lo hi:Int)
 | frz (o:Obj)(u:HO)
 | tbl (ps:Array Value)
 | ext (φ:Heap→Prop)

abbrev Hp:=Addr→Option HO
def upd (H:Hp)(a:Addr)(o:HO):Hp:=fun b=>if b=a then some o else H b
theorem ac {H:Hp}{a:Addr}{o:HO}:upd H a o a=some o:=by unfold upd;rw[if_pos rfl]
theorem ai {H:Hp}{a b:Addr}{o:HO}(h:b≠a):upd H a o b=H b:=by unfold upd;rw[if_neg h]
theorem jC {H:Hp}{a:Addr}{o u:HO}:upd (upd H a o) a u=upd H a u:=by
 funext b;unfold upd;split<;>rfl
theorem yG {H:Hp}{a b:Addr}{o u:HO}(h:H a=some o)(h':H b=some u)(d:o≠u):a≠b:=by
 intro e;subst e;rw[h] at h';exact d (Option.some.inj h')
theorem ak {H:Hp}{a b:Addr}{o:HO}(h:H a=some o)(h':H b=none):a≠b:=by
 intro e;subst e;rw[h] at h';cases h'

section
variable (P:Program)(w:World)
def bE (H:Hp)(h:Heap)(a:Addr):HO→Prop
 | .lst xs=>xs.length≤sizeLine∧∃ (its:List Value) (n:Nat),Vals xs its∧h.get? a=some { cls:=.type "list",data:=.seq its.toArray n }
 | .tup xs=>xs.length≤sizeLine∧∃ its:List Value,Vals xs its∧IsTup h a its.toArray
 | .dK kvs=>kvs.length≤sizeLine∧(a==sysModules)=false∧∃ vs,KV kvs vs∧h.DictOf (bJ P w) a vs
 | .dT kvs=>kvs.length≤sizeLine∧(a==sysModules)=false∧∃ xs:List (List Key×Addr×Value),
     Paired (fun(p:List Key×V)(q:List Key×Addr×Value)=>p.1=q.1∧H q.2.1=some (.tup (p.1.map kV))∧a8 p.2 q.2.2) kvs xs ∧
     ∃ o es ep,h.get? a=some o∧o.ExactDict∧o.data=.dict es ep∧es.toList=xs.map (entryOfKey (tupleKind (bJ P w)))∧(xs.map (·.1)).Nodup
 | .set S n=>h.SetOf (intKind P w) a S n
 | .ins C dx fs=>H dx=some (.own a)∧fs.length≤1000∧dx≠a∧h.get? a=some (PySem.W.instObj C dx) ∧
     ∃ mA,h.Ns1 dx mA∧(∀ f,gK (fs.lookup f) (mA f))∧PySem.Within mA (fs.map (·.1))
 | .own _=>∃ o,h.get? a=some o
 | .xd fs=>∃ mA,h.Ns1 a mA∧∀ f,gK (fs.lookup f) (mA f)
 | .rng lo hi=>∃ t u v,h.get? a=some { cls:=.type "range",data:=.fields #[.int lo t,.int hi u,.int 1 v] }
 | .frz o u=>h.get? a=some o∧bE H h a u
 | .tbl ps=>h.get? a=some { cls:=.none,data:=.fields ps }
 | .met f x=>h.get? a=some (PySem.W.methodObj (.ref f) (.ref x))
 | .ext φ=>φ h∧(∃ o,h.get? a=some o)∧∀ h1 h2:Heap,φ h1→(∀ o,h1.get? a=some o→h2.get? a=some o)→φ h2
def HOk (H:Hp)(h:Heap):Prop:=∀ a o,H a=some o→bE P w H h a o
end

section
variable {P:Program}{w:World}{H H':Hp}{h h':Heap}{a:Addr}{o:HO}
theorem bE.lt (x:bE P w H h a o):a < h.objs.size:=by
 cases o with
 | lst xs=>obtain⟨_,_,_,_,e⟩:=x;exact Heap.lt_size e
 | tup xs=>obtain⟨_,_,_,p⟩:=x;exact p.lt
 | dK kvs=>obtain⟨_,_,_,_,o,_,_,e,_⟩:=x;exact Heap.lt_size e
 | dT kvs=>obtain⟨_,_,_,_,o,_,_,e,_⟩:=x;exact Heap.lt_size e
 | set S n=>obtain⟨o,_,_,_,e,_⟩:=x;exact Heap.lt_size e
 | ins C dx fs=>obtain⟨_,_,_,e,_⟩:=x;exact Heap.lt_size e
 | own y=>obtain⟨_,e⟩:=x;exact Heap.lt_size e
 | xd fs=>obtain⟨_,⟨_,_,_,e,_⟩,_⟩:=x;exact Heap.lt_size e
 | rng lo hi=>obtain⟨_,_,_,e⟩:=x;exact Heap.lt_size e
 | frz ob u=>obtain⟨e,_⟩:=x;exact Heap.lt_size e
 | tbl ps=>exact Heap.lt_size (show h.get? a=some _ from x)
 | met f y=>exact Heap.lt_size (show h.get? a=some _ from x)
 | ext φ=>obtain⟨_,⟨_,e⟩,_⟩:=x;exact Heap.lt_size e
theorem Paired.mapP {α β:Type}{F G:α→β→Prop}:∀ {l₁:List α}{l₂:List β},Paired F l₁ l₂→(∀ a b,F a b→G a b)→Paired G l₁ l₂
 | _,_,.nil,_=>.nil
 | _,_,.cons r t,f=>.cons (f _ _ r) (Paired.mapP t f)
theorem bE.stay (x:bE P w H h a o)(k:∀ b u,(b=a∨H b=some (.own a))→h.get? b=some u→h'.get? b=some u)
   (ho:∀ b,H b=some (.own a)→H' b=some (.own a))(ht:∀ b xs,H b=some (.tup xs)→H' b=some (.tup xs)):bE P w H' h' a o:=by
 induction o with
 | lst xs=>obtain⟨z,its,n,r,e⟩:=x;exact⟨z,its,n,r,k _ _ (.inl rfl) e⟩
 | tup xs=>obtain⟨z,its,r,ob,e,c⟩:=x;exact⟨z,its,r,ob,k _ _ (.inl rfl) e,c⟩
 | dK kvs=>obtain⟨z,y,vs,r,ob,es,ep,e,c⟩:=x;exact⟨z,y,vs,r,ob,es,ep,k _ _ (.inl rfl) e,c⟩
 | dT kvs =>
   obtain⟨z,y,xs,r,ob,es,ep,e,c⟩:=x
   exact⟨z,y,xs,Paired.mapP r fun p q z=>⟨z.1,ht _ _ z.2.1,z.2.2⟩,ob,es,ep,k _ _ (.inl rfl) e,c⟩
 | set S n=>obtain⟨ob,es,ep,t,e,c⟩:=x;exact⟨ob,es,ep,t,k _ _ (.inl rfl) e,c⟩
 | ins C dx fs =>
   obtain⟨d,z,ne,e,mA,⟨od,es,ep,e2,c⟩,r⟩:=x
   exact⟨ho _ d,z,ne,k _ _ (.inl rfl) e,mA,⟨od,es,ep,k _ _ (.inr d) e2,c⟩,r⟩
 | own y=>obtain⟨ob,e⟩:=x;exact⟨ob,k _ _ (.inl rfl) e⟩
 | xd fs=>obtain⟨mA,⟨od,es,ep,e,c⟩,r⟩:=x;exact⟨mA,⟨od,es,ep,k _ _ (.inl rfl) e,c⟩,r⟩
 | rng lo hi=>obtain⟨t,u,v,e⟩:=x;exact⟨t,u,v,k _ _ (.inl rfl) e⟩
 | frz ob u ih=>obtain⟨e,q⟩:=x;exact⟨k _ _ (.inl rfl) e,ih q⟩
 | tbl ps =>
   have e:h.get? a=some { cls:=.none,data:=.fields ps }:=x
   show h'.get? a=some { cls:=.none,data:=.fields ps }
   exact k a _ (.inl rfl) e
 | met f y =>
   have e:h.get? a=some (PySem.W.methodObj (.ref f) (.ref y)):=x
   show h'.get? a=some (PySem.W.methodObj (.ref f) (.ref y))
   exact k a _ (.inl rfl) e
 | ext φ=>obtain⟨p,⟨o,e⟩,st⟩:=x;exact⟨st _ _ p fun o q=>k _ _ (.inl rfl) q,⟨o,k _ _ (.inl rfl) e⟩,st⟩
theorem HOk.lt (x:HOk P w H h)(e:H a=some o):a < h.objs.size:=(x a o e).lt
theorem HOk.fresh (x:HOk P w H h)(e:h.objs.size≤a):H a=none:=by
 cases q:H a with
 | none=>rfl
 | some u=>exact absurd (Nat.lt_of_lt_of_le (x.lt q) e) (Nat.lt_irrefl _)
theorem HOk.kept (x:HOk P w H h)(k:∀ b u,h.get? b=some u→h'.get? b=some u):HOk P w H h':=fun a o e =>
 (x a o e).stay (fun b u _ q=>k b u q) (fun _ q=>q) fun _ _ q=>q
theorem HOk.laid (x:HOk P w H h)(k:∀ b u,h.get? b=some u→h'.get? b=some u)(hp:h.objs.size≤a)(new:bE P w (upd H a o) h' a o):HOk P w (upd H a o) h':=fun b u e=>by
 have hn:=x.fresh hp
 by_cases hb:b=a
 · subst hb;rw[ac] at e;cases e;exact new
 · rw[ai hb] at e
   exact(x b u e).stay (fun c v _ q=>k c v q) (fun c q=>by rw[ai (ak q hn)];exact q) fun c xs q=>by rw[ai (ak q hn)];exact q
end

def Rd (H:Hp)(a:Addr)(u:HO):Prop:=H a=some u∨∃ o,H a=some (.frz o u)
theorem Rd.ok {P:Program}{w:World}{H:Hp}{h:Heap}{a:Addr}{u:HO}(r:Rd H a u)(x:HOk P w H h):bE P w H h a u:=by
 rcases r with r | ⟨o,r⟩
 · exact x a u r
 · obtain⟨_,q⟩:=x a _ r
   exact q
def Mut:Option HO→Prop
 | some (.lst _)=>True
 | some (.dK _)=>True
 | some (.dT _)=>True
 | some (.set _ _)=>True
 | some (.ins _ _ _)=>True
 | some (.ext _)=>True
 | _=>False
section
variable {P:Program}{w:World}{H:Hp}{h h':Heap}{x e:Addr}{o':HO}
theorem HOk.write (ok:HOk P w H h)(mu:Mut (H x))(he:e=x∨H e=some (.own x))(k:∀ b u,b≠e→h.get? b=some u→h'.get? b=some u)(heo:∃ u,h'.get? e=some u)
   (new:bE P w (upd H x o') h' x o'):HOk P w (upd H x o') h':=fun b u q=>by
 have nown:∀ c y,H c=some (.own y)→c≠x:=fun c y r z=>by subst z;rw[r] at mu;exact mu
 have ntup:∀ c xs,H c=some (.tup xs)→c≠x:=fun c xs r z=>by subst z;rw[r] at mu;exact mu
 by_cases hb:b=x
 · subst hb;rw[ac] at q;cases q;exact new
 · rw[ai hb] at q
   by_cases hbe:b=e
   · have q':H b=some (.own x):=by
       rcases he with z | z
       · exact absurd (hbe.trans z) hb
       · rw[hbe];exact z
     rw[q] at q';cases q'
     obtain⟨v,hv⟩:=heo
     exact⟨v,by rw[hbe];exact hv⟩
   · refine(ok b u q).stay (fun c v hc r=>k c v ?_ r) (fun c r=>by rw[ai (nown c b r)];exact r) fun c xs r=>by rw[ai (ntup c xs r)];exact r
     rcases hc with rfl | hc
     · exact hbe
     · rintro rfl
       rcases he with z | z
       · exact nown c b hc z
       · rw[hc] at z;cases z;exact hb rfl
end

/-! ### kept unless tracked;of the frames at fs (the callers') the slots may change (an exception that passes writes there);of the records at ex (iterators) nothing is said -/
structure Un (fs ex:List Addr)(H H':Hp)(h h':Heap):Prop where
 keep:∀ b o,h.get? b=some o→H b=none→b∉fs→b∉ex→h'.get? b=some o
 slot:∀ b o,h.get? b=some o→H b=none→b∈fs→b∉ex→∃ sl,h'.get? b=some { o with slots:=sl }
 free:∀ b o,h.get? b=some o→H b=none→b∉ex→H' b=none
 there:∀ b o,h.get? b=some o→b∉ex→∃ o',h'.get? b=some o'
 tups:∀ b xs,H b=some (.tup xs)→H' b=some (.tup xs)
 frzs:∀ b o u,H b=some (.frz o u)→H' b=some (.frz o u)
 tbls:∀ b ps,H b=some (.tbl ps)→∃ more,H' b=some (.tbl (ps++more))
section
variable {fs fs' ex ex':List Addr}{H H1 H2:Hp}{h h1 h2 h':Heap}{a x e:Addr}{o:HO}
theorem Un.any (u:Un fs ex H H1 h h1){b:Addr}{ob:Obj}(q:h.get? b=some ob)(n:H b=none)(hx:b∉ex):∃ sl,h1.get? b=some { ob with slots:=sl }:=by
 by_cases hb:b∈fs
 · exact u.slot b ob q n hb hx
 · exact⟨ob.slots,u.keep b ob q n hb hx⟩
theorem Un.kept (k:∀ b u,h.get? b=some u→h'.get? b=some u):Un fs ex H H h h' :=
 ⟨fun b ob q _ _ _=>k b ob q,fun b ob q _ _ _=>⟨ob.slots,k b ob q⟩,fun _ _ _ n _=>n,fun b ob q _=>⟨ob,k b ob q⟩,fun _ _ q=>q,fun _ _ _ q=>q,fun _ ps q=>⟨#[],by rw[q];simp⟩⟩
theorem Un.refl:Un fs ex H H h h:=Un.kept fun _ _ q=>q
theorem Un.laid (k:∀ b u,h.get? b=some u→h'.get? b=some u)(hp:h.objs.size≤a)(hn:H a=none):Un fs ex H (upd H a o) h h' where
 keep:=fun b u q _ _ _=>k b u q
 slot:=fun b u q _ _ _=>⟨u.slots,k b u q⟩
 free:=fun b u q n _=>by rw[ai (Nat.ne_of_lt (Nat.lt_of_lt_of_le (Heap.lt_size q) hp))];exact n
 there:=fun b u q _=>⟨u,k b u q⟩
 tups:=fun b xs q=>by rw[ai (ak q hn)];exact q
 frzs:=fun b u xs q=>by rw[ai (ak q hn)];exact q
 tbls:=fun b ps q=>⟨#[],by rw[ai (ak q hn),q];simp⟩
theorem Un.write (mu:Mut (H x))(he:e=x∨H e=some (.own x))(k:∀ b u,b≠e→h.get? b=some u→h'.get? b=some u)(heo:∃ u,h'.get? e=some u):Un fs ex H (upd H x o) h h':=by
 have hx:∀ b,H b=none→b≠x:=fun b n z=>by subst z;rw[n] at mu;exact mu
 have hb:∀ b,H b=none→b≠e:=fun b n z=>by
   subst z
   rcases he with r | r
   · exact hx b n r
   · rw[n] at r;cases r
 have hm:∀ b u,H b=some u→¬Mut (some u)→b≠x:=fun b u q nm z=>by subst z;rw[q] at mu;exact nm mu
 refine⟨fun b u q n _ _=>k b u (hb b n) q,fun b u q n _ _=>⟨u.slots,k b u (hb b n) q⟩,fun b u q n _=>by rw[ai (hx b n)];exact n,fun b u q _=>?_,
   fun b xs q=>by rw[ai (hm b _ q fun z=>z)];exact q,fun b u xs q=>by rw[ai (hm b _ q fun z=>z)];exact q,fun b ps q=>⟨#[],by rw[ai (hm b _ q fun z=>z),q];simp⟩⟩
 by_cases hbe:b=e
 · subst hbe;exact heo
 · exact⟨u,k b u hbe q⟩
end

/-! ### the heap without what is tracked -/
def trk (h:Heap)(H:Hp):List Addr:=(List.range h.objs.size).filter fun a=>(H a).isSome
def nz (h:Heap)(H:Hp):Heap:=PySem.W.hideAll h (trk h H)
theorem sd (h:Heap)(H:Hp):(nz h H).objs.size=h.objs.size:=PySem.W.hideAll_size _ _
theorem ub {h:Heap}{H:Hp}{b:Addr}{o:Obj}(e:h.get? b=some o)(n:H b=none):(nz h H).get? b=some o :=
 PySem.W.hideAll_get _ e fun hm=>by
   have q:(H b).isSome=true:=(List.mem_filter.mp hm).2
   rw[n] at q;simp at q
theorem wb {h:Heap}{H:Hp}{b:Addr}{o:Obj}(e:(nz h H).get? b=some o):h.get? b=some o∧H b=none:=by
 have e':h.get? b=some o:=PySem.W.of_hideAll (trk h H) e
 refine⟨e',?_⟩
 cases q:H b with
 | none=>rfl
 | some x =>
   have hm:b∈trk h H:=List.mem_filter.mpr ⟨List.mem_range.mpr (Heap.lt_size e'),by simp[q]⟩
   have z:(nz h H).get? b=none:=PySem.W.hideAll_none (trk h H) hm
   rw[z] at e;cases e

/-! ### OpenK's ledger,filled with every new object but one -/
def vO (g h:Heap)(L:Addr):List (Addr×Obj):=(List.range h.objs.size).filterMap fun a=>if a=L∨(g.get? a).isSome=true then none else(h.get? a).map fun o=>(a,o)
def cf (g h:Heap)(L d:Addr):List (Addr×Obj):=(vO g h L).filter fun p=>decide (p.1≠d)
end L2

namespace L2
open PySem PySem.Spec PyProof.Rows

structure Mod (K:PySem.W.Frag)(mg:Str→Option Value)(base:Heap):Prop where
 kin:K.In base
 glob:base.Ns mainGlobals mg
 blt:∃ mb,base.Ns builtinsNs mb∧∀ x:Str,x≠"__name__"→mb x=bootBuiltins x
 nolimit:base.NoLimit

structure Cx where
 prog:Program
 w:World
 K:PySem.W.Frag
 mg:Str→Option Value
 base:Heap
 A:Around
 N:List Str
 s₀:Shared
 H₀:Hp
 env:Env
 outer:List Env
 stack:List Env
 ex:List Addr
 fn:Str→Bool
 calm:Bool
 pn:List (Addr×Obj)
 xe:Value→Shared→Prop
def frs (l:List Env):List Addr:=l.filterMap (·.frame)
abbrev Cx.fs (X:Cx):List Addr:=frs X.outer

def Vis (sc:Scope) (x:Str):Prop:=sc.names.lookup x=some .local∨sc.names.lookup x=some .cell∨sc.names.lookup x=some .free
def Loc (sc:Scope) (x:Str):Prop:=sc.names.lookup x=some .local∨sc.names.lookup x=some .cell
def y8 (env:Env)(h:Heap)(m:Str→Option Value) (x:Str) (u:Value):Prop :=
 (env.kindOf x=some .local∧m x=some u)∨((env.kindOf x=some .cell∨env.kindOf x=some .free)∧∃ c,env.cells.lookup x=some c∧h.IsCell c (some u))

structure Cx.Ok (X:Cx):Prop where
 mod:Mod X.K X.mg X.base
 kind:X.env.scope.kind=.function
 glob:X.env.globals=mainGlobals
 blt:X.env.builtins=builtinsNs
 above:X.s₀.heap.objs.size≤X.env.locals
 inj:∀ x y c,X.env.cells.lookup x=some c→X.env.cells.lookup y=some c→x=y
 has:∀ x,(X.env.kindOf x=some .cell∨X.env.kindOf x=some .free)→∃ c,X.env.cells.lookup x=some c
 cab:∀ x c,X.fn x=true→X.env.cells.lookup x=some c→X.s₀.heap.objs.size≤c
 hd:X.calm=true→X.A.handled=none
 frames:X.A.frames=some X.stack
 stk:X.stack=X.outer∨(X.stack=X.env::X.outer∧X.env.frame=some X.env.locals)
 exf:∀ b∈X.ex,b≠X.env.locals∧∀ x c,X.env.cells.lookup x=some c→c≠b
 bs:∀ b o,X.base.get? b=some o→X.s₀.heap.get? b=some o∧X.H₀ b=none
 bsz:X.base.objs.size≤X.s₀.heap.objs.size
 noex:∀ b o,X.base.get? b=some o→b∉X.ex
 exfs:∀ b∈X.ex,b∉X.fs
 funs:X.s₀.heap.FunFrames X.base X.outer
 frf:∀ b∈X.fs,X.H₀ b=none

structure Inv (X:Cx)(pins:List (Addr×Obj))(σ:List (Option V))(H:Hp)(s:Shared):Prop where
 ok:X.Ok
 os:s.os=X.s₀.os
 bare:AllBare s.gens
 base:Un X.fs X.ex X.H₀ H X.s₀.heap s.heap
 loc:∃ m,s.heap.Ns X.env.locals m∧∀ (i:Nat) (x:Str) (v:V),X.N[i]?=some x→σ[i]?=some (some v)→Vis X.env.scope x→∃ u,a8 v u∧y8 X.env s.heap m x u
 cell:∀ x c,X.env.cells.lookup x=some c→∃ v,s.heap.IsCell c v
 free:H X.env.locals=none
 freeC:∀ x c,X.env.cells.lookup x=some c→H c=none
 pin:∀ p∈X.pn++pins,s.heap.get? p.1=some p.2∧H p.1=none∧p.1≠X.env.locals∧p.1∉X.fs∧∀ v,p.2.data≠.cell v
 hok:HOk X.prog X.w H s.heap
 len:σ.length=X.N.length

section
variable {X:Cx}{pins:List (Addr×Obj)}{σ:List (Option V)}{H H':Hp}{s:Shared}{h':Heap}

theorem Cx.Ok.nofr (ok:X.Ok){b:Addr}{o:Obj}(e:X.base.get? b=some o):b∉X.fs:=fun hb=>by
 have:=(ok.funs.mem hb).1
 rw[e] at this;cases this
theorem Inv.bs (I:Inv X pins σ H s):∀ b o,X.base.get? b=some o→s.heap.get? b=some o∧H b=none:=fun b o e =>
 ⟨I.base.keep b o (I.ok.bs b o e).1 (I.ok.bs b o e).2 (I.ok.nofr e) (I.ok.noex b o e),I.base.free b o (I.ok.bs b o e).1 (I.ok.bs b o e).2 (I.ok.noex b o e)⟩
theorem Inv.bk (I:Inv X pins σ H s):∀ b o,X.base.get? b=some o→s.heap.get? b=some o:=fun b o e=>(I.bs b o e).1
theorem Inv.mod (I:Inv X pins σ H s):Mod X.K X.mg X.base:=I.ok.mod
theorem Inv.kIn (I:Inv X pins σ H s):X.K.In s.heap:=I.ok.mod.kin.keeps I.bk
theorem Inv.lt (I:Inv X pins σ H s):X.env.locals < s.heap.objs.size:=let ⟨_,hn,_⟩:=I.loc;hn.lt
theorem Inv.sz (I:Inv X pins σ H s):X.s₀.heap.objs.size≤s.heap.objs.size:=Nat.le_trans I.ok.above (Nat.le_of_lt I.lt)
theorem Inv.nofs (I:Inv X pins σ H s){a:Addr}(h:s.heap.objs.size≤a):a∉X.fs:=fun hb=>by
 obtain⟨_,o,ho,_⟩:=I.ok.funs.mem hb
 exact absurd (Nat.lt_of_lt_of_le (Heap.lt_size ho) (Nat.le_trans I.sz h)) (Nat.lt_irrefl _)
theorem Inv.cne (I:Inv X pins σ H s):∀ x c,X.env.cells.lookup x=some c→c≠X.env.locals:=fun x c e z=>by
 obtain⟨v,o,ho,hd⟩:=I.cell x c e
 obtain⟨m,⟨o',es,ep,ho',hd',_⟩,_⟩:=I.loc
 rw[z,ho'] at ho;cases ho;rw[hd'] at hd;cases hd
theorem Inv.funs (I:Inv X pins σ H s):s.heap.FunFrames X.base X.outer:=by
 have all:∀ (l:List Env),(∀ b∈frs l,b∈X.fs)→X.s₀.heap.FunFrames X.base l→s.heap.FunFrames X.base l:=by
   intro l
   induction l with
   | nil=>intro _ _;trivial
   | cons env r ih =>
     intro hs hl
     obtain⟨hk,⟨L,o,hf,hn,ho,hd⟩,hr⟩:=hl
     have hL:L∈X.fs:=hs L (by unfold frs;rw[List.filterMap_cons,hf];exact List.mem_cons_self)
     obtain⟨sl,e⟩:=I.base.slot L o ho (I.ok.frf L hL) hL fun z=>I.ok.exfs L z hL
     exact⟨hk,⟨L,_,hf,hn,e,hd⟩,ih (fun b hb=>hs b (by unfold frs;rw[List.filterMap_cons,hf];exact List.mem_cons_of_mem _ hb)) hr⟩
 exact all X.outer (fun _ hb=>hb) I.ok.funs

theorem Inv.stack (I:Inv X pins σ H s):s.heap.FunFrames X.base X.stack:=by
 rcases I.ok.stk with e | ⟨e,hf⟩
 · rw[e];exact I.funs
 · rw[e]
   obtain⟨m,hn,_⟩:=I.loc
   refine .cons (by rw[I.ok.kind];decide) hf hn ?_ I.funs
   exact Heap.get?_none_of_le (Nat.le_trans I.ok.bsz I.ok.above)
theorem Inv.stkSub (I:Inv X pins σ H s):∀ b∈frs X.stack,b∈X.env.locals::X.fs:=fun b hb=>by
 rcases I.ok.stk with e | ⟨e,hf⟩
 · rw[e] at hb;exact List.mem_cons_of_mem _ hb
 · rw[e] at hb
   unfold frs at hb
   rw[List.filterMap_cons,hf] at hb
   exact hb
theorem Inv.stkFree (I:Inv X pins σ H s):∀ b∈frs X.stack,H b=none:=fun b hb=>by
 rcases List.mem_cons.mp (I.stkSub b hb) with e | hb
 · rw[e];exact I.free
 · obtain⟨_,o,ho,_⟩:=I.ok.funs.mem hb
   exact I.base.free b o ho (I.ok.frf b hb) fun z=>I.ok.exfs b z hb

theorem Inv.step {g':Array GenState}{t':Nat}{d':Drawn}{ch:List Addr}(I:Inv X pins σ H s)
   (hch:∀ b∈ch,(b∈X.ex∨X.s₀.heap.objs.size≤b)∧b≠X.env.locals∧(∀ x c,X.env.cells.lookup x=some c→c≠b)∧∀ p∈X.pn++pins,p.1≠b)
   (keep:∀ b o,b≠X.env.locals→b∉X.fs→b∉ch→s.heap.get? b=some o→H b=none→h'.get? b=some o)
   (slot:∀ b o,b≠X.env.locals→b∈X.fs→b∉ch→s.heap.get? b=some o→H b=none→∃ sl,h'.get? b=some { o with slots:=sl })(free:∀ b o,b∉ch→s.heap.get? b=some o→H b=none→H' b=none)
   (there:∀ b o,b∉ch→s.heap.get? b=some o→∃ o',h'.get? b=some o')
   (tups:∀ b xs,H b=some (.tup xs)→H' b=some (.tup xs))(frzs:∀ b o u,H b=some (.frz o u)→H' b=some (.frz o u))(tbls:∀ b ps,H b=some (.tbl ps)→∃ more,H' b=some (.tbl (ps++more)))
   (ns:∀ m,s.heap.Ns X.env.locals m→h'.Ns X.env.locals m)(hok:HOk X.prog X.w H' h')(hg:AllBare g') :
   Inv X pins σ H' { s with heap:=h',gens:=g',drawn:=d',toks:=t' }:=by
 have neL:∀ b o,X.s₀.heap.get? b=some o→b≠X.env.locals:=fun b o e=>Nat.ne_of_lt (Nat.lt_of_lt_of_le (Heap.lt_size e) I.ok.above)
 have neC:∀ b o,X.s₀.heap.get? b=some o→b∉X.ex→b∉ch:=fun b o e hx hb=>by
   rcases(hch b hb).1 with z | z
   · exact hx z
   · exact absurd (Nat.lt_of_lt_of_le (Heap.lt_size e) z) (Nat.lt_irrefl _)
 have cellK:∀ x c,X.env.cells.lookup x=some c→∀ v,s.heap.IsCell c v→h'.IsCell c v:=fun x c e v ⟨o,ho,hd⟩=>by
   have nch:c∉ch:=fun z=>(hch c z).2.2.1 x c e rfl
   by_cases hc:c∈X.fs
   · obtain⟨sl,q⟩:=slot c o (I.cne x c e) hc nch ho (I.freeC x c e)
     exact⟨_,q,hd⟩
   · exact⟨o,keep c o (I.cne x c e) hc nch ho (I.freeC x c e),hd⟩
 refine⟨I.ok,I.os,hg,⟨fun b o e n hb hx=>?_,fun b o e n hb hx=>?_,fun b o e n hx=>?_,fun b o e hx=>?_,fun b xs e=>tups b xs (I.base.tups b xs e),fun b o xs e=>frzs b o xs (I.base.frzs b o xs e),fun b ps e=>?_⟩,?_,fun x c e=>?_,?_,fun x c e=>?_,fun p hp=>?_,hok,I.len⟩
 · exact keep b o (neL b o e) hb (neC b o e hx) (I.base.keep b o e n hb hx) (I.base.free b o e n hx)
 · obtain⟨sl,e1⟩:=I.base.slot b o e n hb hx
   obtain⟨sl',e2⟩:=slot b _ (neL b o e) hb (neC b o e hx) e1 (I.base.free b o e n hx)
   exact⟨sl',e2⟩
 · obtain⟨o',e1⟩:=I.base.there b o e hx
   exact free b o' (neC b o e hx) e1 (I.base.free b o e n hx)
 · obtain⟨o',e1⟩:=I.base.there b o e hx
   exact there b o' (neC b o e hx) e1
 · obtain⟨m1,e1⟩:=I.base.tbls b ps e
   obtain⟨m2,e2⟩:=tbls b _ e1
   exact⟨m1++m2,by rw[e2,Array.append_assoc]⟩
 · obtain⟨m,hn,hl⟩:=I.loc
   refine⟨m,ns m hn,fun i x v e1 e2 e3=>?_⟩
   obtain⟨u,r,l⟩:=hl i x v e1 e2 e3
   refine⟨u,r,?_⟩
   rcases l with l | ⟨k,c,e,z⟩
   · exact .inl l
   · exact .inr ⟨k,c,e,cellK x c e _ z⟩
 · obtain⟨v,z⟩:=I.cell x c e
   exact⟨v,cellK x c e v z⟩
 · obtain⟨m,⟨o,_,_,ho,_⟩,_⟩:=I.loc
   exact free _ o (fun z=>(hch _ z).2.1 rfl) ho I.free
 · obtain⟨v,o,ho,hd⟩:=I.cell x c e
   exact free c o (fun z=>(hch c z).2.2.1 x c e rfl) ho (I.freeC x c e)
 · obtain⟨e,n,ne,nf,d⟩:=I.pin p hp
   have nch:p.1∉ch:=fun z=>(hch p.1 z).2.2.2 p hp rfl
   exact⟨keep p.1 p.2 ne nf nch e n,free p.1 p.2 nch e n,ne,nf,d⟩
theorem Inv.un {t':Nat}(I:Inv X pins σ H s)(u:Un X.fs [] H H' s.heap h')(hok:HOk X.prog X.w H' h'):Inv X pins σ H' { s with heap:=h',toks:=t' }:=by
 obtain⟨m,⟨o,es,ep,ho,r⟩,_⟩:=id I.loc
 obtain⟨sl,hL⟩:=u.any ho I.free (by simp)
 exact I.step (g':=s.gens) (d':=s.drawn) (ch:=[]) (fun _ z=>nomatch z) (fun b o _ hb _ e n=>u.keep b o e n hb (by simp)) (fun b o _ hb _ e n=>u.slot b o e n hb (by simp)) (fun b o _ e n=>u.free b o e n (by simp)) (fun b o _ e=>u.there b o e (by simp)) u.tups u.frzs u.tbls (fun m' hm=>by
   obtain⟨o',es',ep',ho',r'⟩:=hm
   rw[ho] at ho';cases ho'
   exact⟨_,es',ep',hL,r'⟩) hok I.bare
theorem Inv.call {g':Array GenState}{t':Nat}{d':Drawn}{ch:List Addr}(I:Inv X pins σ H s)(u:Un (frs X.stack) ch H H' s.heap h')(hok:HOk X.prog X.w H' h')(hg:AllBare g')
   (hch:∀ b∈ch,(b∈X.ex∨X.s₀.heap.objs.size≤b)∧b≠X.env.locals∧(∀ x c,X.env.cells.lookup x=some c→c≠b)∧∀ p∈X.pn++pins,p.1≠b) :
   Inv X pins σ H' { s with heap:=h',gens:=g',drawn:=d',toks:=t' }:=by
 obtain⟨m,⟨o,es,ep,ho,r⟩,_⟩:=id I.loc
 obtain⟨sl,hL⟩:=u.any ho I.free fun z=>(hch _ z).2.1 rfl
 exact I.step (ch:=ch) hch (fun b o hL hb hc e n=>u.keep b o e n (fun z=>(List.mem_cons.mp (I.stkSub b z)).elim hL hb) hc) (fun b o _ _ hc e n=>u.any e n hc) (fun b o hc e n=>u.free b o e n hc) (fun b o hc e=>u.there b o e hc) u.tups u.frzs u.tbls (fun m' hm=>by
   obtain⟨o',es',ep',ho',r'⟩:=hm
   rw[ho] at ho';cases ho'
   exact⟨_,es',ep',hL,r'⟩) hok hg
theorem Inv.turned {t':Nat}{it:Addr}(I:Inv X pins σ H s)(k:∀ b o,b≠it→s.heap.get? b=some o→h'.get? b=some o)(hn:H it=none)(hL:it≠X.env.locals)
   (h1:it∈X.ex∨X.s₀.heap.objs.size≤it)(h2:∀ x c,X.env.cells.lookup x=some c→c≠it)(h3:∀ p∈X.pn++pins,p.1≠it):Inv X pins σ H { s with heap:=h',toks:=t' }:=by
 have nit:∀ b u,H b=some u→b≠it:=fun b u e z=>by rw[z,hn] at e;cases e
 refine I.step (g':=s.gens) (d':=s.drawn) (ch:=[it]) (fun b hb=>?_) (fun b o _ _ hc e _=>k b o (fun z=>hc (by simp[z])) e) (fun b o _ _ hc e _=>⟨o.slots,k b o (fun z=>hc (by simp[z])) e⟩) (fun _ _ _ _ n=>n)
   (fun b o hc e=>⟨o,k b o (fun z=>hc (by simp[z])) e⟩) (fun _ _ e=>e) (fun _ _ _ e=>e) (fun b ps e=>⟨#[],by rw[e];simp⟩) (fun m hm=>?_) (fun b u e=>?_) I.bare
 · have e:b=it:=by simpa using hb
   subst e
   exact⟨h1,hL,h2,h3⟩
 · obtain⟨o,es,ep,ho,r⟩:=hm
   exact⟨o,es,ep,k _ o (Ne.symm hL) ho,r⟩
 · refine(I.hok b u e).stay (fun c v hc q=>k c v ?_ q) (fun _ q=>q) fun _ _ q=>q
   rcases hc with z | z
   · rw[z];exact nit b u e
   · exact nit c _ z
theorem Inv.tok (I:Inv X pins σ H s) (t:Nat):Inv X pins σ H { s with toks:=t }:=I.un (h':=s.heap) (t':=t) Un.refl I.hok
theorem Inv.kept {t':Nat}(I:Inv X pins σ H s)(k:∀ b u,s.heap.get? b=some u→h'.get? b=some u):Inv X pins σ H { s with heap:=h',toks:=t' }:=I.un (Un.kept k) (I.hok.kept k)
theorem Inv.laid {a:Addr}{o:HO}{t':Nat}(I:Inv X pins σ H s)(k:∀ b u,s.heap.get? b=some u→h'.get? b=some u)(hp:s.heap.objs.size≤a)(new:bE X.prog X.w (upd H a o) h' a o) :
 Inv X pins σ (upd H a o) { s with heap:=h',toks:=t' }:=I.un (Un.laid k hp (I.hok.fresh hp)) (I.hok.laid k hp new)
theorem Inv.write {x e:Addr}{o:HO}{t':Nat}(I:Inv X pins σ H s)(mu:Mut (H x))(he:e=x∨H e=some (.own x))(k:∀ b u,b≠e→s.heap.get? b=some u→h'.get? b=some u)(heo:∃ u,h'.get? e=some u)
 (new:bE X.prog X.w (upd H x o) h' x o):Inv X pins σ (upd H x o) { s with heap:=h',toks:=t' }:=I.un (Un.write mu he k heo) (I.hok.write mu he k heo new)
theorem Inv.pins_of {pins':List (Addr×Obj)}(I:Inv X pins σ H s)(h:∀ p∈pins',s.heap.get? p.1=some p.2∧H p.1=none∧p.1≠X.env.locals∧p.1∉X.fs∧∀ v,p.2.data≠.cell v):Inv X pins' σ H s :=
 ⟨I.ok,I.os,I.bare,I.base,I.loc,I.cell,I.free,I.freeC,fun p hp=>(List.mem_append.mp hp).elim (fun z=>I.pin p (List.mem_append_left _ z)) (h p),I.hok,I.len⟩

theorem nH {N:List Str}(hN:N.Nodup){i j:Nat}{x:Str}(a:N[i]?=some x)(b:N[j]?=some x):i=j:=by
 obtain⟨h1,e1⟩:=List.getElem?_eq_some_iff.mp a
 obtain⟨h2,e2⟩:=List.getElem?_eq_some_iff.mp b
 exact(List.getElem_inj hN).mp (e1.trans e2.symm)

theorem iX {M:Model}{A:Around}{E:Value→Shared→Prop}{i:Nat}{x:Str}{v:V}{u:Value}{Q:Unit→Shared→Prop}(I:Inv X pins σ H s)(hN:X.N.Nodup)(hi:X.N[i]?=some x)(hx:Loc X.env.scope x)(r:a8 v u)
   (h:∀ s',Inv X pins (σ.set i (some v)) H s'→(∃ a,Heap.SameBut a s.heap s'.heap∧(a=X.env.locals∨X.env.cells.lookup x=some a))→Q () s')(hf:X.fn x=true∨X.env.scope.names.lookup x=some .local:=by first | exact .inl rfl | exact .inr rfl | assumption):wpAny M A (storeName X.env x u) Q E s:=by
 obtain⟨m,hn,hl⟩:=id I.loc
 have hcls:(X.env.scope.kind==.class||(X.env.scope.kind==.module&&X.env.locals != X.env.globals))=false:=by rw[I.ok.kind];rfl
 have hiσ:i < σ.length:=by rw[I.len];exact(List.getElem?_eq_some_iff.mp hi).1
 have cne:=I.cne
 have tracked:∀ {a:Addr}{h':Heap},(∃ o,s.heap.get? a=some o∧H a=none)→Heap.SameBut a s.heap h'→HOk X.prog X.w H h':=fun {a h'} ha hs b ob e=>by
   obtain⟨_,_,hfree⟩:=ha
   refine(I.hok b ob e).stay (fun c w' hc q=>(hs.2 c ?_).trans q) (fun _ q=>q) fun _ _ q=>q
   rintro rfl
   rcases hc with rfl | hc
   · rw[hfree] at e;cases e
   · rw[hfree] at hc;cases hc
 rcases hx with hk | hk
 · refine wpAny_storeName_local hk hn (fun h' hn' hs=>?_) hcls
   obtain⟨oL,_,_,hoL,_⟩:=id hn
   refine h _ ⟨I.ok,I.os,I.bare,⟨fun b o e n hb hx=>?_,fun b o e n hb hx=>?_,I.base.free,fun b o e hx=>?_,I.base.tups,I.base.frzs,I.base.tbls⟩,⟨_,hn',fun j y v' e1 e2 e3=>?_⟩,fun y c e=>?_,I.free,I.freeC,fun p hp=>?_,tracked ⟨oL,hoL,I.free⟩ hs,by simpa using I.len⟩ ⟨_,hs,.inl rfl⟩
   · exact(hs.2 b (Nat.ne_of_lt (Nat.lt_of_lt_of_le (Heap.lt_size e) I.ok.above))).trans (I.base.keep b o e n hb hx)
   · obtain⟨sl,e1⟩:=I.base.slot b o e n hb hx
     exact⟨sl,(hs.2 b (Nat.ne_of_lt (Nat.lt_of_lt_of_le (Heap.lt_size e) I.ok.above))).trans e1⟩
   · obtain⟨o',e1⟩:=I.base.there b o e hx
     exact⟨o',(hs.2 b (Nat.ne_of_lt (Nat.lt_of_lt_of_le (Heap.lt_size e) I.ok.above))).trans e1⟩
   · by_cases hj:j=i
     · subst hj
       rw[hi] at e1;cases e1
       rw[List.getElem?_set_self hiσ] at e2
       cases e2
       exact⟨u,r,.inl ⟨hk,by simp⟩⟩
     · rw[List.getElem?_set_ne (Ne.symm hj)] at e2
       obtain⟨u',r',q⟩:=hl j y v' e1 e2 e3
       refine⟨u',r',?_⟩
       rcases q with ⟨k,e⟩ | ⟨k,c,e,z⟩
       · refine .inl ⟨k,?_⟩
         have:y≠x:=fun e=>hj (nH hN e1 (e▸hi))
         simp[this,e]
       · exact .inr ⟨k,c,e,z.sameBut hs (cne y c e)⟩
   · obtain⟨w',z⟩:=I.cell y c e
     exact⟨w',z.sameBut hs (cne y c e)⟩
   · obtain⟨e,n,ne,nf,d⟩:=I.pin p hp
     exact⟨(hs.2 p.1 ne).trans e,n,ne,nf,d⟩
 · have hfn:X.fn x=true:=by
     rcases hf with z | z
     · exact z
     · rw[z] at hk;cases hk
   obtain⟨c,hc⟩:=I.ok.has x (.inl hk)
   obtain⟨w',z⟩:=I.cell x c hc
   refine wpAny_storeName_cell I.ok.kind hk hc z (fun h' hc' hs=>?_)
   obtain⟨oc,hoc,hocd⟩:=id z
   refine h { s with heap:=h' } ⟨I.ok,I.os,I.bare,⟨fun b o e n hb hx=>?_,fun b o e n hb hx=>?_,I.base.free,fun b o e hx=>?_,I.base.tups,I.base.frzs,I.base.tbls⟩,⟨m,hn.sameBut hs (Ne.symm (cne x c hc)),fun j y v' e1 e2 e3=>?_⟩,fun y c' e=>?_,I.free,I.freeC,fun p hp=>?_,tracked ⟨oc,hoc,I.freeC x c hc⟩ hs,by simpa using I.len⟩ ⟨c,hs,.inr hc⟩
   · exact(hs.2 b (Nat.ne_of_lt (Nat.lt_of_lt_of_le (Heap.lt_size e) (I.ok.cab x c hfn hc)))).trans (I.base.keep b o e n hb hx)
   · obtain⟨sl,e1⟩:=I.base.slot b o e n hb hx
     exact⟨sl,(hs.2 b (Nat.ne_of_lt (Nat.lt_of_lt_of_le (Heap.lt_size e) (I.ok.cab x c hfn hc)))).trans e1⟩
   · obtain⟨o',e1⟩:=I.base.there b o e hx
     exact⟨o',(hs.2 b (Nat.ne_of_lt (Nat.lt_of_lt_of_le (Heap.lt_size e) (I.ok.cab x c hfn hc)))).trans e1⟩
   · by_cases hj:j=i
     · subst hj
       rw[hi] at e1;cases e1
       rw[List.getElem?_set_self hiσ] at e2
       cases e2
       exact⟨u,r,.inr ⟨.inl hk,c,hc,hc'⟩⟩
     · rw[List.getElem?_set_ne (Ne.symm hj)] at e2
       obtain⟨u',r',q⟩:=hl j y v' e1 e2 e3
       refine⟨u',r',?_⟩
       rcases q with q | ⟨k,c',e,z'⟩
       · exact .inl q
       · refine .inr ⟨k,c',e,z'.sameBut hs ?_⟩
         rintro rfl
         exact hj (nH hN e1 (I.ok.inj _ _ _ e hc▸hi))
   · by_cases hcc:c'=c
     · subst hcc;exact⟨_,hc'⟩
     · obtain⟨w2,z2⟩:=I.cell y c' e
       exact⟨w2,z2.sameBut hs hcc⟩
   · obtain⟨e,n,ne,nf,d⟩:=I.pin p hp
     refine⟨(hs.2 p.1 ?_).trans e,n,ne,nf,d⟩
     intro q
     rw[q,hoc] at e
     have q':oc=p.2:=Option.some.inj e
     exact d w' (by rw[←q'];exact hocd)
theorem nW {M:Model}{A:Around}{E:Value→Shared→Prop}{i:Nat}{x:Str}{v:V}{u:Value}{Q:Unit→Shared→Prop}(I:Inv X pins σ H s)(hN:X.N.Nodup)(hi:X.N[i]?=some x)(hx:Loc X.env.scope x)(r:a8 v u)
   (h:∀ s',Inv X pins (σ.set i (some v)) H s'→Q () s')(hf:X.fn x=true∨X.env.scope.names.lookup x=some .local:=by first | exact .inl rfl | exact .inr rfl | assumption):wpAny M A (storeName X.env x u) Q E s :=
 iX I hN hi hx r (fun s' I' _=>h s' I') hf
theorem Inv.call' {s':Shared}{ch:List Addr}(I:Inv X pins σ H s)(ho:s'.os=s.os)(u:Un (frs X.stack) ch H H' s.heap s'.heap)(hok:HOk X.prog X.w H' s'.heap)(hg:AllBare s'.gens)
   (hch:∀ b∈ch,(b∈X.ex∨X.s₀.heap.objs.size≤b)∧b≠X.env.locals∧(∀ x c,X.env.cells.lookup x=some c→c≠b)∧∀ p∈X.pn++pins,p.1≠b):Inv X pins σ H' s':=by
 obtain⟨h',g',d',t',o'⟩:=s'
 have e:o'=s.os:=ho
 subst e
 exact I.call (g':=g') (t':=t') (d':=d') u hok hg hch
end

/-! ### the judgements -/
abbrev XK:=Value→Option Addr→Hp→Prop
abbrev St:=List (Option V)
abbrev VK:=V→Hp→Prop
abbrev TE:=St→Hp→VK→Prop
abbrev TT:=St→Hp→(Bool→Hp→Prop)→Prop
abbrev TA:=St→Hp→(List V→Hp→Prop)→Prop
structure iY where
 nx:St→Hp→Prop
 rt:VK
 bk:St→Hp→Prop:=fun _ _=>False
 ct:St→Hp→Prop:=fun _ _=>False
abbrev TS:=iY→St→Hp→Prop

def EP (X:Cx)(pins:List (Addr×Obj)) (σ:St)(Q:VK) (u:Value)(s':Shared):Prop:=∃ v H',Inv X pins σ H' s'∧a8 v u∧Q v H'
def TP (X:Cx)(pins:List (Addr×Obj)) (σ:St)(Q:Bool→Hp→Prop)(b:Bool)(s':Shared):Prop:=∃ H',Inv X pins σ H' s'∧Q b H'
def AP (X:Cx)(pins:List (Addr×Obj)) (σ:St)(Q:List V→Hp→Prop)(us:List Value)(s':Shared):Prop:=∃ vs H',Inv X pins σ H' s'∧Vals vs us∧Q vs H'
def SP (X:Cx)(pins:List (Addr×Obj))(D:iY)(f:Flow)(s':Shared):Prop :=
 match f with
 | .next=>∃ σ' H',Inv X pins σ' H' s'∧D.nx σ' H'
 | .brk=>∃ σ' H',Inv X pins σ' H' s'∧D.bk σ' H'
 | .cont=>∃ σ' H',Inv X pins σ' H' s'∧D.ct σ' H'
 | .ret u=>∃ v σ' H',Inv X pins σ' H' s'∧a8 v u∧D.rt v H'

def PE (X:Cx)(e:Expr)(t:TE):Prop :=
 ∀ ⦃pins:List (Addr×Obj)⦄ (s:Shared) (σ:St)(H:Hp)(Q:VK),Inv X pins σ H s→t σ H Q→wpAny (model X.prog X.w) X.A (eval e X.env) (EP X pins σ Q) X.xe s
def PT (X:Cx)(e:Expr)(t:TT):Prop :=
 ∀ ⦃pins:List (Addr×Obj)⦄ (s:Shared) (σ:St)(H:Hp)(Q:Bool→Hp→Prop),Inv X pins σ H s→t σ H Q→wpAny (model X.prog X.w) X.A (isTrue e X.env (eval e X.env)) (TP X pins σ Q) X.xe s
def PW (X:Cx)(e:Expr)(t:TT):Prop :=
 ∀ (whole:Sem Value)(pins:List (Addr×Obj))(s:Shared) (σ:St)(H:Hp)(Q:Bool→Hp→Prop),Inv X pins σ H s→t σ H Q→wpAny (model X.prog X.w) X.A (isTrue e X.env whole) (TP X pins σ Q) X.xe s
theorem PW.pt {X:Cx}{e:Expr}{t:TT}(h:PW X e t):PT X e t:=h _
def PA (X:Cx)(es:List Expr)(t:TA):Prop :=
 ∀ ⦃pins:List (Addr×Obj)⦄ (pos:Pos)(s:Shared) (σ:St)(H:Hp)(Q:List V→Hp→Prop),Inv X pins σ H s→t σ H Q→wpAny (model X.prog X.w) X.A (spliced (backTo pos (starEach es X.env))) (AP X pins σ Q) X.xe s
def PS (X:Cx)(st:Stmt)(t:TS):Prop :=
 ∀ ⦃pins:List (Addr×Obj)⦄ (s:Shared) (σ:St)(H:Hp)(D:iY),Inv X pins σ H s→t D σ H→wpAny (model X.prog X.w) X.A (exec st X.env) (SP X pins D) X.xe s
def PSs (X:Cx)(st:List Stmt)(t:TS):Prop :=
 ∀ ⦃pins:List (Addr×Obj)⦄ (s:Shared) (σ:St)(H:Hp)(D:iY),Inv X pins σ H s→t D σ H→wpAny (model X.prog X.w) X.A (execs st X.env) (SP X pins D) X.xe s
theorem thn {α:Type}{t:Sem α}{Q Q':α→Shared→Prop}{M:Model}{A:Around}{E:Value→Shared→Prop}{s:Shared}(h:wpAny M A t Q E s)(hQ:∀ a s,Q a s→Q' a s):wpAny M A t Q' E s:=wpAny_mono h hQ fun _ _ x=>x
end L2

namespace L2
open PySem PySem.Spec PyProof.Rows
section
variable {X:Cx}

theorem bin {a b:Expr}{ta tb:TE}(ha:PE X a ta)(hb:PE X b tb){pins:List (Addr×Obj)}{s:Shared}{σ:St}{H:Hp}{R:V→V→Hp→Prop}(I:Inv X pins σ H s)(h:ta σ H fun x H1=>tb σ H1 fun y H2=>R x y H2)
   {α:Type}{Q:α→Shared→Prop}{f:Value→Value→Sem α}
   (hf:∀ v u s2 x y H2,Inv X pins σ H2 s2→a8 x v→a8 y u→R x y H2→wpAny (model X.prog X.w) X.A (f v u) Q X.xe s2) :
   wpAny (model X.prog X.w) X.A (eval a X.env) (fun v s₁=>wpAny (model X.prog X.w) X.A (eval b X.env) (fun u s₂=>wpAny (model X.prog X.w) X.A (f v u) Q X.xe s₂) X.xe s₁) X.xe s:=by
 refine thn (ha s σ H _ I h) fun v s1 ⟨x,H1,I1,r1,q1⟩=>?_
 refine thn (hb s1 σ H1 _ I1 q1) fun u s2 ⟨y,H2,I2,r2,q2⟩=>?_
 exact hf v u s2 x y H2 I2 r1 r2 q2

/-! ### names and constants -/
def tw (i:Nat):TE:=fun σ H Q=>∃ v,σ[i]?=some (some v)∧Q v H
def tC (v:V):TE:=fun _ H Q=>Q v H
theorem xr {i:Nat}{x:Str}{pos:Pos}(hN:X.N[i]?=some x)(hv:Vis X.env.scope x)(hd:(x==("__debug__":Str))=false:=by decide)(hcd:(x==("__classdict__":Str))=false:=by decide):PE X (.Name x pos) (tw i):=by
 intro pins s σ H Q I h
 obtain⟨v,e,h⟩:=h
 obtain⟨m,hn,hl⟩:=I.loc
 obtain⟨u,r,l⟩:=hl i x v hN e hv
 have fin:EP X pins σ Q u s:=⟨v,H,I,r,h⟩
 rcases l with ⟨hk,hm⟩ | ⟨hk,c,hc,hcell⟩
 · exact wpAny_Name (wpAny_loadName_local I.ok.kind hk hn hm fin) hd
 · rcases hk with hk | hk
   · exact wpAny_Name (wpAny_loadName_cell I.ok.kind hk hc hcell fin) hd
   · exact wpAny_Name (wpAny_loadName_free I.ok.kind hk hc hcell fin hcd) hd
theorem ah {i j pos}:PE X (.Constant (.int i) j pos) (tC (.int i)):=fun _ _ _ H _ I h=>wpAny_Constant_int ⟨.int i,H,I.tok _,⟨_,rfl⟩,h⟩
theorem cm {b j pos}:PE X (.Constant (.bool b) j pos) (tC (.bl b)):=fun _ _ _ H _ I h=>Constant_bool ⟨.bl b,H,I,rfl,h⟩
theorem nk {j pos}:PE X (.Constant .none j pos) (tC .non):=fun _ _ _ H _ I h=>Constant_none ⟨.non,H,I,rfl,h⟩
theorem ba {x j pos}:PE X (.Constant (.str x) j pos) (tC (.str x)):=fun _ _ _ H _ I h=>Calls.Constant_str ⟨.str x,H,I.tok _,⟨_,rfl⟩,h⟩

def Gl (X:Cx) (x:Str):Prop:=X.env.kindOf x=some .globalImplicit
theorem jL {E:Value→Shared→Prop}{pins:List (Addr×Obj)}{s:Shared}{σ:St}{H:Hp}{x:Str}{u:Value}{pos:Pos}{Q:Value→Shared→Prop}(I:Inv X pins σ H s)(hg:Gl X x)(hm:X.mg x=some u)(h:Q u s)
   (hd:(x==("__debug__":Str))=false:=by decide):wpAny (model X.prog X.w) X.A (eval (.Name x pos) X.env) Q E s :=
 Calls.Name_function_global I.ok.kind hg (Calls.loadGlobal_global (by rw[I.ok.glob];exact I.mod.glob.keeps I.bk) hm h) hd
theorem gR {E:Value→Shared→Prop}{pins:List (Addr×Obj)}{s:Shared}{σ:St}{H:Hp}{x:Str}{u:Value}{pos:Pos}{Q:Value→Shared→Prop}(I:Inv X pins σ H s)(hg:Gl X x)(hm:X.mg x=none)(hv:bootBuiltins x=some u)(h:Q u s)
   (hn:x≠"__name__":=by decide)(hd:(x==("__debug__":Str))=false:=by decide):wpAny (model X.prog X.w) X.A (eval (.Name x pos) X.env) Q E s:=by
 obtain⟨mb,h1,h2⟩:=I.mod.blt
 exact Calls.Name_function_global I.ok.kind hg (Calls.loadGlobal_builtin (by rw[I.ok.glob];exact I.mod.glob.keeps I.bk) hm (by rw[I.ok.blt];exact h1.keeps I.bk) ((h2 x hn).trans hv) h) hd
theorem da {x:Str}{v:V}{u:Value}{pos:Pos}(hg:Gl X x)(hm:X.mg x=some u)(r:a8 v u)(hd:(x==("__debug__":Str))=false:=by decide):PE X (.Name x pos) (tC v) :=
 fun _ _ _ H _ I h=>jL I hg hm ⟨v,H,I,r,h⟩ hd
theorem dD {x:Str}{v:V}{u:Value}{pos:Pos}(hg:Gl X x)(hm:X.mg x=none)(hv:bootBuiltins x=some u)(r:a8 v u)(hn:x≠"__name__":=by decide)(hd:(x==("__debug__":Str))=false:=by decide):PE X (.Name x pos) (tC v) :=
 fun _ _ _ H _ I h=>gR I hg hm hv ⟨v,H,I,r,h⟩ hn hd

/-! ### arithmetic -/
variable {a b:Expr}{ta tb:TE}{pos:Pos}
/-! ### comparisons -/
def PC (X:Cx)(op:CmpOp)(a b:Expr)(t:TE):Prop :=
 ∀ (pins:List (Addr×Obj))(s:Shared) (σ:St)(H:Hp)(Q:VK),Inv X pins σ H s→t σ H Q →
   wpAny (model X.prog X.w) X.A (eval a X.env) (fun v s₁=>wpAny (model X.prog X.w) X.A (eval b X.env) (fun u s₂=>wpAny (model X.prog X.w) X.A (compareOp op v u) (EP X pins σ Q) X.xe s₂) X.xe s₁) X.xe s
def tB (t:TE):TT:=fun σ H Q=>t σ H fun x H1=>∃ c,x=.bl c∧Q c H1
theorem e7 {op:CmpOp}{t:TE}(h:PC X op a b t)(h1:behindInMarks op b=false:=by first | exact nobehind _ (by decide) (by decide) | rfl):PT X (.Compare a [op] [b] pos) (tB t):=by
 intro pins s σ H Q I hw
 refine wpAny_isTrue_Compare1 (thn (h pins s σ H _ I hw) fun v s1 h1=>thn h1 fun u s2 h2=>thn h2 fun c s3 ⟨x,H1,I1,r1,q1⟩=>?_) h1
 obtain⟨d,rfl,q⟩:=q1
 cases r1
 exact wpAny_truthy_bool ⟨H1,I1,q⟩
theorem cw {e:Expr}{t:TE}(h:PE X e t)(he:∀ whole,isTrue e X.env whole=(do let v ←whole;standAt e.pos;holding [v] (truthy v)):=by intro _;rfl):PT X e (tB t):=by
 intro pins s σ H Q I hw
 refine isTrue_plain (thn (h s σ H _ I hw) fun v s1 ⟨x,H1,I1,r1,q1⟩=>?_) (he _)
 obtain⟨d,rfl,q⟩:=q1
 cases r1
 exact wpAny_truthy_bool ⟨H1,I1,q⟩

/-! ### and,or,not -/
variable {tA tB':TT}{cf:List Expr}
def yE (t u:TT):TT:=fun σ H Q=>t σ H fun c H1=>if c=true then u σ H1 Q else Q false H1
def tOr (t u:TT):TT:=fun σ H Q=>t σ H fun c H1=>if c=true then Q true H1 else u σ H1 Q
def yh (t:TT):TT:=fun σ H Q=>t σ H fun c H1=>Q (!c) H1
theorem qW (ha:PT X a tA):PW X (.BoolOp .And [a] pos) tA:=by
 intro wh pins s σ H Q I h
 refine isTrue_and (thn (ha s σ H Q I h) fun c s1 e=>?_)
 cases c with
 | true=>exact isTrue_and_nil e
 | false=>exact e
theorem eu (ha:PT X a tA):PW X (.BoolOp .Or [a] pos) tA:=by
 intro wh pins s σ H Q I h
 refine isTrue_or (thn (ha s σ H Q I h) fun c s1 e=>?_)
 cases c with
 | false=>exact isTrue_or_nil e
 | true=>exact e
theorem tX (ha:PT X a tA)(hb:PW X (.BoolOp .And (b::cf) pos) tB'):PW X (.BoolOp .And (a::b::cf) pos) (yE tA tB'):=by
 intro wh pins s σ H Q I h
 refine isTrue_and (thn (ha s σ H _ I h) fun c s1 ⟨H1,I1,q1⟩=>?_)
 cases c with
 | true=>exact hb wh pins s1 σ H1 Q I1 q1
 | false=>exact⟨H1,I1,q1⟩
theorem fc (ha:PT X a tA)(hb:PW X (.BoolOp .Or (b::cf) pos) tB'):PW X (.BoolOp .Or (a::b::cf) pos) (tOr tA tB'):=by
 intro wh pins s σ H Q I h
 refine isTrue_or (thn (ha s σ H _ I h) fun c s1 ⟨H1,I1,q1⟩=>?_)
 cases c with
 | true=>exact⟨H1,I1,q1⟩
 | false=>exact hb wh pins s1 σ H1 Q I1 q1
theorem cE (ha:PT X a tA):PT X (.UnaryOp .Not a pos) (yh tA):=by
 intro pins s σ H Q I h
 exact isTrue_not (ha s σ H (fun c H1=>Q (!c) H1) I h)
def xn (ta tb:TE):TE:=fun σ H Q=>ta σ H fun x H1=>∃ c,x=.bl c∧if c=true then tb σ H1 Q else Q (.bl false) H1
def y7 (ta tb:TE):TE:=fun σ H Q=>ta σ H fun x H1=>∃ c,x=.bl c∧if c=true then Q (.bl true) H1 else tb σ H1 Q
def ym (ta:TE):TE:=fun σ H Q=>ta σ H fun x H1=>∃ c,x=.bl c∧Q (.bl (!c)) H1
theorem pN {op}{t:TE}(h:PE X a t):PE X (.BoolOp op [a] pos) t:=fun pins s σ H Q I hw=>BoolOp_one (h s σ H Q I hw)
theorem pJ (ha:PE X a ta)(hb:PE X (.BoolOp .And (b::cf) pos) tb):PE X (.BoolOp .And (a::b::cf) pos) (xn ta tb):=by
 intro pins s σ H Q I h
 refine BoolOp_and (thn (ha s σ H _ I h) fun v s1 ⟨x,H1,I1,r1,q1⟩=>?_)
 obtain⟨c,rfl,q1⟩:=q1
 cases r1
 refine wpAny_truthy_bool ?_
 cases c with
 | true=>exact hb s1 σ H1 Q I1 q1
 | false=>exact⟨.bl false,H1,I1,rfl,q1⟩
def tIf (t:TT)(ta tb:TE):TE:=fun σ H Q=>t σ H fun c H1=>if c=true then ta σ H1 Q else tb σ H1 Q
end
end L2

namespace L2
open PySem PySem.Spec PyProof.Rows

/-! ### a list,a tuple that is read: tracked,frozen,or an object of the module -/
def SqL (K:PySem.W.Frag)(H:Hp)(a:Addr)(xs:List V):Prop :=
 Rd H a (.lst xs) ∨
   ∃ (o:Obj)(its:Array Value) (n:Nat),K.lookup a=some o∧o.cls=.type "list"∧o.dict=none∧o.data=.seq its n∧its.size≤sizeLine∧Vals xs its.toList
def SqT (K:PySem.W.Frag)(H:Hp)(a:Addr)(xs:List V):Prop :=
 Rd H a (.tup xs) ∨
   ∃ (o:Obj)(its:Array Value) (n:Nat),K.lookup a=some o∧o.cls=.type "tuple"∧o.data=.seq its n∧its.size≤sizeLine∧Vals xs its.toList
def yU:Value→Option V
 | .none=>some .non
 | .bool b=>some (.bl b)
 | .int i _=>some (.int i)
 | .str x _=>some (.str x)
 | .bytes b _=>some (.byt b)
 | .float b _=>some (.flt b)
 | .ref a=>some (.ref a)
 | .type n=>some (.ty n)
 | _=>none
theorem a8.abs {x:V}{u:Value}(r:a8 x u):yU u=some x:=by
 cases x with
 | non=>cases r;rfl
 | bl _=>cases r;rfl
 | int _=>obtain⟨t,rfl⟩:=r;rfl
 | str _=>obtain⟨t,rfl⟩:=r;rfl
 | byt _=>obtain⟨t,rfl⟩:=r;rfl
 | flt _=>obtain⟨t,rfl⟩:=r;rfl
 | ref _=>cases r;rfl
 | ty _=>cases r;rfl
theorem a8.inj {x y:V}{u:Value}(r:a8 x u)(q:a8 y u):x=y:=Option.some.inj (r.abs.symm.trans q.abs)
theorem Vals.inj:∀ {xs ys:List V}{us:List Value},Vals xs us→Vals ys us→xs=ys
 | _,_,_,.nil,.nil=>rfl
 | _,_,_,.cons r t,.cons r' t'=>by rw[r.inj r',Vals.inj t t']
section
variable {X:Cx}{pins:List (Addr×Obj)}{σ:St}{H:Hp}{s:Shared}{a:Addr}{xs ys:List V}
theorem SqL.of {K:PySem.W.Frag}(h:H a=some (.lst xs)):SqL K H a xs:=.inl (.inl h)
theorem SqT.of {K:PySem.W.Frag}(h:H a=some (.tup xs)):SqT K H a xs:=.inl (.inl h)
theorem Inv.list (I:Inv X pins σ H s)(h:SqL X.K H a xs):∃ its:List Value,Vals xs its∧PlainL s.heap a its.toArray∧xs.length≤sizeLine:=by
 rcases h with h | ⟨o,its,n,hk,hc,hd,hs,hz,r⟩
 · obtain⟨z,its,n,r,e⟩:=h.ok I.hok
   exact⟨its,r,⟨_,n,e,rfl,rfl,rfl⟩,z⟩
 · refine⟨its.toList,r,⟨o,n,I.kIn a o hk,hc,hd,by simpa using hs⟩,?_⟩
   have e:=r.length
   simp only[Array.length_toList] at e
   omega
theorem Inv.tuple (I:Inv X pins σ H s)(h:SqT X.K H a xs):∃ its:List Value,Vals xs its∧IsTup s.heap a its.toArray∧xs.length≤sizeLine:=by
 rcases h with h | ⟨o,its,n,hk,hc,hs,hz,r⟩
 · obtain⟨z,its,r,p⟩:=h.ok I.hok
   exact⟨its,r,p,z⟩
 · refine⟨its.toList,r,⟨o,I.kIn a o hk,hc,n,by simpa using hs⟩,?_⟩
   have e:=r.length
   simp only[Array.length_toList] at e
   omega
theorem Inv.list_inj (I:Inv X pins σ H s)(h:SqL X.K H a xs)(h':SqL X.K H a ys):xs=ys:=by
 obtain⟨its,r,⟨o,n,e,_,_,d⟩,_⟩:=I.list h
 obtain⟨its',r',⟨o',n',e',_,_,d'⟩,_⟩:=I.list h'
 rw[e] at e';cases e'
 rw[d] at d'
 injection d' with d1 _
 have:its=its':=by simpa using congrArg Array.toList d1
 subst this
 exact r.inj r'
theorem Inv.tuple_inj (I:Inv X pins σ H s)(h:SqT X.K H a xs)(h':SqT X.K H a ys):xs=ys:=by
 obtain⟨its,r,⟨o,e,_,n,d⟩,_⟩:=I.tuple h
 obtain⟨its',r',⟨o',e',_,n',d'⟩,_⟩:=I.tuple h'
 rw[e] at e';cases e'
 rw[d] at d'
 injection d' with d1 _
 have:its=its':=by simpa using congrArg Array.toList d1
 subst this
 exact r.inj r'
end

/-! ### another wish about exceptions -/
abbrev Cx.wish (X:Cx)(E:Value→Shared→Prop):Cx:={ X with xe:=E }
abbrev Cx.nox (X:Cx):Cx:=X.wish fun _ _=>False
theorem Cx.Ok.wish {X:Cx}(ok:X.Ok)(E:Value→Shared→Prop):(X.wish E).Ok :=
 ⟨ok.mod,ok.kind,ok.glob,ok.blt,ok.above,ok.inj,ok.has,ok.cab,ok.hd,ok.frames,ok.stk,ok.exf,ok.bs,ok.bsz,ok.noex,ok.exfs,ok.funs,ok.frf⟩
theorem Cx.Ok.unwish {X:Cx}{E:Value→Shared→Prop}(ok:(X.wish E).Ok):X.Ok :=
 ⟨ok.mod,ok.kind,ok.glob,ok.blt,ok.above,ok.inj,ok.has,ok.cab,ok.hd,ok.frames,ok.stk,ok.exf,ok.bs,ok.bsz,ok.noex,ok.exfs,ok.funs,ok.frf⟩
section
variable {X:Cx}{pins:List (Addr×Obj)}{σ:St}{H:Hp}{s:Shared}{E:Value→Shared→Prop}
theorem Inv.wish (I:Inv X pins σ H s)(E:Value→Shared→Prop):Inv (X.wish E) pins σ H s:=⟨I.ok.wish E,I.os,I.bare,I.base,I.loc,I.cell,I.free,I.freeC,I.pin,I.hok,I.len⟩
theorem Inv.unwish (I:Inv (X.wish E) pins σ H s):Inv X pins σ H s:=⟨I.ok.unwish,I.os,I.bare,I.base,I.loc,I.cell,I.free,I.freeC,I.pin,I.hok,I.len⟩
theorem SP.unwish {D:iY}{f:Flow}{s':Shared}(h:SP (X.wish E) pins D f s'):SP X pins D f s':=by
 cases f with
 | next=>obtain⟨σ',H',I,q⟩:=h;exact⟨σ',H',I.unwish,q⟩
 | brk=>obtain⟨σ',H',I,q⟩:=h;exact⟨σ',H',I.unwish,q⟩
 | cont=>obtain⟨σ',H',I,q⟩:=h;exact⟨σ',H',I.unwish,q⟩
 | ret u=>obtain⟨v,σ',H',I,r,q⟩:=h;exact⟨v,σ',H',I.unwish,r,q⟩
theorem PSs.nox {st:List Stmt}{t:TS}(h:PSs X.nox st t):PSs X st t:=fun pins s σ H D I hw =>
 wpAny_mono (h s σ H D (I.wish _) hw) (fun _ _ q=>q.unwish) fun _ _ z=>False.elim z
end

/-! ### blocks and small statements -/
section
variable {X:Cx}{st:Stmt}{cf:List Stmt}{t u:TS}{e:Expr}{te:TE}{pos:Pos}
def wZ:TS:=fun D σ H=>D.nx σ H
def yo (t u:TS):TS:=fun D σ H=>t { D with nx:=u D } σ H
theorem aB:PSs X [] wZ:=fun _ _ σ H _ I h=>wpAny_execs_nil ⟨σ,H,I,h⟩
theorem am (h1:PS X st t)(h2:PSs X cf u):PSs X (st::cf) (yo t u):=by
 intro pins s σ H D I h
 refine wpAny_execs_cons (thn (h1 s σ H { D with nx:=u D } I h) fun f s1 q=>?_)
 cases f with
 | next =>
   obtain⟨σ',H',I',q⟩:=q
   exact h2 s1 σ' H' D I' q
 | ret v=>exact q
 | brk=>exact q
 | cont=>exact q
theorem ag (h1:PS X st t):PSs X [st] t:=by
 intro pins s σ H D I h
 refine wpAny_execs_cons (thn (h1 s σ H D I h) fun f s1 q=>?_)
 cases f with
 | next=>exact wpAny_execs_nil q
 | ret v=>exact q
 | brk=>exact q
 | cont=>exact q
theorem Inv.quiet {pins:List (Addr×Obj)}{σ:St}{H:Hp}{s:Shared}(I:Inv X pins σ H s):interactive X.env=false:=by simp[interactive,I.ok.kind]
def wQ (te:TE):TS:=fun D σ H=>te σ H fun _ H1=>D.nx σ H1
theorem aU (he:PE X e te)(hs:swapsWith e none pos.line X.env=pure false:=by rfl):PS X (.Expr e pos) (wQ te):=by
 intro pins s σ H D I h
 exact wpAny_Expr_any (thn (he s σ H _ I h) fun v s1 ⟨x,H1,I1,r1,q1⟩=>⟨σ,H1,I1,q1⟩) I.quiet hs
def yg (te:TE):TS:=fun D σ H=>te σ H D.rt
theorem ar (he:PE X e te):PS X (.Return (some e) pos) (yg te):=by
 intro pins s σ H D I h
 exact wpAny_Return_some (thn (he s σ H _ I h) fun v s1 ⟨x,H1,I1,r1,q1⟩=>⟨x,σ,H1,I1,r1,q1⟩)
def yA (c:TT)(t u:TS):TS:=fun D σ H=>c σ H fun b H1=>if b=true then t D σ H1 else u D σ H1
theorem aR {c:Expr}{a b:List Stmt}{tc:TT}(hc:PT X c tc)(ha:PSs X a t)(hb:PSs X b u):PS X (.If c a b pos) (yA tc t u):=by
 intro pins s σ H D I h
 refine wpAny_If (thn (hc s σ H _ I h) fun d s1 ⟨H1,I1,q1⟩=>?_)
 cases d with
 | true=>exact ha s1 σ H1 D I1 q1
 | false=>exact hb s1 σ H1 D I1 q1
def ya:TS:=fun _ _ _=>False
theorem ck {sts:List Stmt}:PSs X sts ya:=fun _ _ _ _ _ _ h=>h.elim
end

/-! ### targets -/
abbrev TG:=V→St→Hp→(St→Hp→Prop)→Prop
abbrev TGs:=List V→St→Hp→(St→Hp→Prop)→Prop
def PG (X:Cx)(target:Expr)(t:TG):Prop :=
 ∀ ⦃pins:List (Addr×Obj)⦄ (s:Shared) (σ:St)(H:Hp) (v:V) (u:Value)(Q:St→Hp→Prop),Inv X pins σ H s→a8 v u→t v σ H Q →
   wpAny (model X.prog X.w) X.A (assign target X.env u) (fun _ s'=>∃ σ' H',Inv X pins σ' H' s'∧Q σ' H') X.xe s
def PGs (X:Cx)(ts:List Expr)(t:TGs):Prop :=
 ∀ ⦃pins:List (Addr×Obj)⦄ (s:Shared) (σ:St)(H:Hp)(vs:List V)(us:List Value)(Q:St→Hp→Prop),Inv X pins σ H s→Vals vs us→t vs σ H Q →
   wpAny (model X.prog X.w) X.A (assignInOrder ((assignEach ts X.env).map (·.2)) us) (fun _ s'=>∃ σ' H',Inv X pins σ' H' s'∧Q σ' H') X.xe s
abbrev xA:=V→V→V→Hp→(Hp→Prop)→Prop
def yt (X:Cx)(t:xA):Prop :=
 ∀ (pins:List (Addr×Obj))(s:Shared) (σ:St)(H:Hp) (o i v:V) (ov iv u:Value)(Q:Hp→Prop),Inv X pins σ H s→a8 o ov→a8 i iv→a8 v u→t o i v H Q →
   wpAny (model X.prog X.w) X.A (setItem ov iv u) (fun _ s'=>∃ H',Inv X pins σ H' s'∧Q H') X.xe s
abbrev TIp:=V→V→Hp→VK→Prop
section
variable {X:Cx}{pos:Pos}
def cT (i:Nat):TG:=fun v σ H Q=>Q (σ.set i (some v)) H
theorem ao {i:Nat}{x:Str}(hN:X.N.Nodup)(hi:X.N[i]?=some x)(hx:Loc X.env.scope x)(hf:X.fn x=true∨X.env.scope.names.lookup x=some .local:=by first | exact .inl rfl | exact .inr rfl | assumption):PG X (.Name x pos) (cT i):=by
 intro pins s σ H v u Q I r h
 exact wpAny_assign_Name (nW I hN hi hx r (fun s' I'=>⟨_,H,I',h⟩) hf)
def pS:TGs:=fun vs σ H Q=>vs=[]∧Q σ H
def dQ (t:TG)(u:TGs):TGs:=fun vs σ H Q=>∃ v r,vs=v::r∧t v σ H fun σ' H'=>u r σ' H' Q
theorem dY:PGs X [] pS:=by
 intro pins s σ H vs us Q I r h
 obtain⟨e,h⟩:=h
 subst e
 cases r
 exact assignInOrder_nil ⟨σ,H,I,h⟩
theorem bc {e:Expr}{es:List Expr}{t:TG}{u:TGs}(h1:PG X e t)(h2:PGs X es u)
   (hs:(assignEach (e::es) X.env).map (·.2)=assign e X.env::(assignEach es X.env).map (·.2):=by rfl):PGs X (e::es) (dQ t u):=by
 intro pins s σ H vs us Q I r h
 obtain⟨v,vr,e1,h⟩:=h
 subst e1
 cases r with
 | cons r rr =>
   rw[hs]
   refine assignInOrder_cons (thn (h1 s σ H _ _ _ I r h) fun _ s1 ⟨σ1,H1,I1,q1⟩=>?_)
   exact h2 s1 σ1 H1 _ _ Q I1 rr q1
def rM (K:PySem.W.Frag) (n:Nat)(t:TGs):TG:=fun v σ H Q=>∃ a xs,v=.ref a∧SqT K H a xs∧xs.length=n∧t xs σ H Q
theorem fK {es:List Expr}{k:Nat}{t:TGs}{n:Nat}(hc:X.calm=true)(h:PGs X es t)
   (hn:(assignEach es X.env).length=n:=by rfl)(hst:(assignEach es X.env).findIdx? (·.1)=none:=by rfl):PG X (.Tuple es k pos) (rM X.K n t):=by
 intro pins s σ H v u Q I r hw
 obtain⟨a,xs,e1,hq,hl,hw⟩:=hw
 subst e1
 cases r
 obtain⟨its,rv,ht,hz⟩:=I.tuple hq
 refine assign_Tuple_tuple (I.ok.hd hc) ht (by simp[hn,←hl,rv.length]) hst fun h' hx=>?_
 have I1:Inv X pins σ H { s with heap:=h' }:=I.kept (t':=s.toks) fun b o e=>hx b o (Nat.ne_of_lt (Heap.lt_size e)) e
 exact h _ σ H xs _ Q I1 (by simpa using rv) hw
def yj (to ti:TE)(t:xA):TG:=fun v σ H Q=>to σ H fun o H1=>ti σ H1 fun i H2=>t o i v H2 fun H3=>Q σ H3
theorem xQ {o i:Expr}{to ti:TE}{t:xA}(ho:PE X o to)(hi:PE X i ti)(hs:yt X t)
   (ha:∀ v,assign (.Subscript o i pos) X.env v=(do
     let ov ←holding [v] (eval o X.env)
     let iv ←holding [v,ov] (eval i X.env)
     standAt pos
     holding [v,ov,iv] (setItem ov iv v)
     release [v,ov,iv] []):=by intro _;rfl):PG X (.Subscript o i pos) (yj to ti t):=by
 intro pins s σ H v u Q I r h
 rw[ha]
 refine wpAny_bind (wpAny_holding (thn (ho s σ H _ I h) fun ov s1 ⟨x,H1,I1,r1,q1⟩=>?_))
 refine wpAny_bind (wpAny_holding (thn (hi s1 σ H1 _ I1 q1) fun iv s2 ⟨y,H2,I2,r2,q2⟩=>?_))
 refine wpAny_bind (wpAny_standAt (wpAny_bind (wpAny_holding (thn (hs pins s2 σ H2 x y v ov iv u _ I2 r1 r2 r q2) fun _ s3 ⟨H3,I3,q3⟩=>?_))))
 exact wpAny_release ⟨σ,H3,I3,q3⟩
def uB (te:TE)(g:TG):TS:=fun D σ H=>te σ H fun x H1=>g x σ H1 D.nx
theorem qi {tg e:Expr}{te:TE}{g:TG}(he:PE X e te)(hg:PG X tg g)(hs:swapsWithSole [tg] e pos.line X.env=pure false:=by rfl)(hw:swappedStores [tg] e X.env=pure none:=by rfl)
   (h1:(assignEach [tg] X.env).map (·.2)=[assign tg X.env]:=by rfl):PS X (.Assign [tg] e pos) (uB te g):=by
 intro pins s σ H D I h
 refine wpAny_Assign_stores (thn (he s σ H _ I h) fun v s1 ⟨x,H1,I1,r1,q1⟩=>?_) hs hw
 rw[h1]
 exact thn (hg s1 σ H1 x v _ I1 r1 q1) fun _ s2 q=>q
theorem ay {i:Nat}{x:Str}{e:Expr}{te:TE}{pos':Pos}(hN:X.N.Nodup)(hi:X.N[i]?=some x)(hx:Loc X.env.scope x)(he:PE X e te)(hs:swapsWith e (some (.Name x pos')) pos.line X.env=pure false:=by rfl)(hf:X.fn x=true∨X.env.scope.names.lookup x=some .local:=by first | exact .inl rfl | exact .inr rfl | assumption) :
   PS X (.Assign [.Name x pos'] e pos) (uB te (cT i)):=by
 intro pins s σ H D I h
 refine wpAny_Assign_Name (thn (he s σ H _ I h) fun v s1 ⟨y,H1,I1,r1,q1⟩=>?_) hs
 exact nW I1 hN hi hx r1 (fun s2 I2=>⟨_,H1,I2,q1⟩) hf
def yV (i:Nat)(te:TE)(ti:TIp):TS:=fun D σ H=>∃ x,σ[i]?=some (some x)∧te σ H fun y H1=>ti x y H1 fun z H2=>D.nx (σ.set i (some z)) H2
def ipI (f:Int→Int→Int):TIp:=fun x y H Q=>∃ i j,x=.int i∧y=.int j∧Q (.int (f i j)) H
end

/-! ### while -/
section
variable {X:Cx}{pos:Pos}
def qm (c:TT)(tb:TS):TS:=fun D σ H=>∃ W:Nat→St→Hp→Prop,(∃ m,W m σ H)∧∀ m σ H,W m σ H →
 c σ H fun b H1=>if b=true then ∃ N:St→Hp→Prop,(∀ σ' H',N σ' H'→∃ m',m' < m∧W m' σ' H')∧tb { D with nx:=N,ct:=N,bk:=D.nx } σ H1 else D.nx σ H1
theorem lh {c:Expr}{body:List Stmt}{tc:TT}{tb:TS}(hp:PassesOwn (model X.prog X.w) X.A X.env X.xe)(hc:PT X c tc)(hb:PSs X body tb):PS X (.While c body [] pos) (qm tc tb):=by
 intro pins s σ H D I h
 obtain⟨W,⟨m0,w0⟩,turn⟩:=h
 refine wpAny_While (codeAny_whileLoop (fun n s'=>∃ σ' H',Inv X pins σ' H' s'∧W n σ' H') ?_ m0 ⟨σ,H,I,w0⟩)
 rintro n s1 ⟨σ1,H1,I1,w1⟩
 refine wpAny_passesOwn hp (thn (hc s1 σ1 H1 _ I1 (turn n σ1 H1 w1)) fun b s2 ⟨H2,I2,q2⟩=>?_)
 cases b with
 | true =>
   obtain⟨N,hN,q2⟩:=q2
   rw[if_pos rfl]
   refine wpAny_passesOwn hp (thn (hb s2 σ1 H2 _ I2 q2) fun f s3 q3=>?_)
   cases f with
   | next =>
     obtain⟨σ3,H3,I3,n3⟩:=q3
     obtain⟨m',hm,w3⟩:=hN σ3 H3 n3
     exact⟨m',hm,σ3,H3,I3,w3⟩
   | cont =>
     obtain⟨σ3,H3,I3,n3⟩:=q3
     obtain⟨m',hm,w3⟩:=hN σ3 H3 n3
     exact⟨m',hm,σ3,H3,I3,w3⟩
   | brk=>exact q3
   | ret v=>exact q3
 | false =>
   rw[if_neg Bool.false_ne_true]
   exact wpAny_execs_nil ⟨σ1,H2,I2,q2⟩
end

/-! ### what a loop or a comprehension walks -/
structure It where
 go:Nat→Hp→Prop
 yld:Nat→Hp→V→Hp→Prop
 stop:Nat→Hp→Prop
def e5 (X:Cx)(pins:List (Addr×Obj))(H:Hp)(b:Addr):Prop :=
 H b=none∧b≠X.env.locals∧b∉X.fs∧(b∈X.ex∨X.s₀.heap.objs.size≤b)∧(∀ x c,X.env.cells.lookup x=some c→c≠b)∧∀ p∈X.pn++pins,p.1≠b
theorem Inv.fpOk {X:Cx}{pins:List (Addr×Obj)}{σ:St}{H H':Hp}{s:Shared}{b:Addr}(I:Inv X pins σ H s)(hb:s.heap.objs.size≤b)(hn:H' b=none):e5 X pins H' b:=by
 refine⟨hn,Nat.ne_of_gt (Nat.lt_of_lt_of_le I.lt hb),I.nofs hb,.inr (Nat.le_trans I.sz hb),fun x c e z=>?_,fun p hp z=>?_⟩
 · obtain⟨v,q⟩:=I.cell x c e
   exact absurd (Nat.lt_of_lt_of_le q.lt (by rw[z];exact hb)) (Nat.lt_irrefl _)
 · exact absurd (Nat.lt_of_lt_of_le (Heap.lt_size (I.pin p hp).1) (by rw[z];exact hb)) (Nat.lt_irrefl _)
structure mY (P:Program)(w:World)(K:PySem.W.Frag)(tg:Expr)(J:It)(fp:List Addr)(it:Addr)(tn:Nat→Heap→Prop):Prop where
 mem:it∈fp
 obj:∀ i h,tn i h→∀ b∈fp,∃ o,h.get? b=some o∧∀ v,o.data≠.cell v
 keep:∀ i h h',tn i h→(∀ b∈fp,∀ o,h.get? b=some o→h'.get? b=some o)→tn i h'
 item:∀ (X:Cx),X.prog=P→X.w=w→X.K=K→X.calm=true→∀ (i:Nat)(pins:List (Addr×Obj))(s:Shared) (σ:St)(H:Hp)(E:Value→Shared→Prop),Inv X pins σ H s→(∀ b∈fp,e5 X pins H b)→tn i s.heap→J.go i H →
   wpAny (model P w) X.A (pyNext (.ref it)) (fun r s1=>∃ u,r=some u ∧
     wpAny (model P w) X.A (letOwnedTupleGo tg (.ref it) u) (fun _ s2=>∃ x H',Inv X pins σ H' s2∧a8 x u∧J.yld i H x H'∧tn (i+1) s2.heap∧∀ b∈fp,H' b=none) E s1) E s
 done:∀ (X:Cx),X.prog=P→X.w=w→X.K=K→X.calm=true→∀ (i:Nat)(pins:List (Addr×Obj))(s:Shared) (σ:St)(H:Hp)(E:Value→Shared→Prop),Inv X pins σ H s→(∀ b∈fp,e5 X pins H b)→tn i s.heap→J.stop i H →
   wpAny (model P w) X.A (pyNext (.ref it)) (fun r s1=>r=none∧Inv X pins σ H s1) E s
 self:∀ (A:Around) (i:Nat)(s:Shared)(Q:Value→Shared→Prop)(E:Value→Shared→Prop),tn i s.heap→Q (.ref it) s→wpAny (model P w) A (pyIter (.ref it)) Q E s
abbrev TI:=St→Hp→(It→Hp→Prop)→Prop
def PIE (X:Cx)(pins:List (Addr×Obj)) (σ:St)(tg:Expr)(R:It→Hp→Prop) (itv:Value)(s2:Shared):Prop :=
 ∃ (it:Addr)(fp:List Addr)(tn:Nat→Heap→Prop)(J:It)(H':Hp),itv=.ref it∧Inv X pins σ H' s2∧mY X.prog X.w X.K tg J fp it tn∧tn 0 s2.heap∧(∀ b∈fp,e5 X pins H' b)∧R J H'
def PI (X:Cx)(tg iter:Expr)(wi:TI):Prop :=
 ∀ ⦃pins:List (Addr×Obj)⦄ (s:Shared) (σ:St)(H:Hp)(R:It→Hp→Prop),Inv X pins σ H s→wi σ H R →
   wpAny (model X.prog X.w) X.A (eval iter X.env) (fun v s1=>wpAny (model X.prog X.w) X.A (pyIter v) (PIE X pins σ tg R) X.xe s1) X.xe s

theorem oJ {M:Model}{A:Around}{E:Value→Shared→Prop}{s:Shared}{tg:Expr}{it:Addr}{u:Value}{o:Obj}{n:String}{vs:Array Value}{Q:Unit→Shared→Prop}(ho:s.heap.get? it=some o)(hc:o.cls=.type n)(hd:o.data=.fields vs)
   (hn:["enumerate", "zip", "dict_itemiterator", "dict_reverseitemiterator", "odict_iterator", "itertools.zip_longest", "itertools.pairwise"].contains n=false)(hQ:Q () s):wpAny M A (letOwnedTupleGo tg (.ref it) u) Q E s:=by
 unfold letOwnedTupleGo
 cases tg<;>first
   | exact wpAny_pure hQ
   | (cases u<;>first
       | exact wpAny_pure hQ
       | (refine wpAny_bind (wpAny_load ho ?_)
          rw[hc,hd]
          show wpAny M A (if(["enumerate", "zip", "dict_itemiterator", "dict_reverseitemiterator", "odict_iterator", "itertools.zip_longest", "itertools.pairwise"].contains n&&vs[0]?==some (rawInt _))=true then _ else _) Q E s
          rw[if_neg (by intro h;rw[hn,Bool.false_and] at h;cases h)]
          exact wpAny_pure hQ))

def Itl (K:PySem.W.Frag)(a:Addr):It :=
 ⟨fun i H=>∃ xs x,SqL K H a xs∧xs[i]?=some x,fun i H x H'=>H'=H∧∀ xs,SqL K H a xs→xs[i]?=some x,fun i H=>∃ xs,SqL K H a xs∧xs.length≤i⟩
def Itt (K:PySem.W.Frag)(a:Addr):It :=
 ⟨fun i H=>∃ xs x,SqT K H a xs∧xs[i]?=some x,fun i H x H'=>H'=H∧∀ xs,SqT K H a xs→xs[i]?=some x,fun i H=>∃ xs,SqT K H a xs∧xs.length≤i⟩
def Itr (lo:Int) (n:Nat):It:=⟨fun i _=>i < n,fun i H x H'=>H'=H∧x=.int (lo+i),fun i _=>n≤i⟩
theorem sr {P:Program}{w:World}{K:PySem.W.Frag}{tg:Expr}(a it:Addr):mY P w K tg (Itl K a) [it] it (fun i h=>h.IsListIter it a i) where
 mem:=by simp
 obj:=fun i h st b hb=>by
   have e:b=it:=by simpa using hb
   subst e
   obtain⟨o,e,c,d⟩:=st
   exact⟨o,e,fun v z=>by rw[d] at z;cases z⟩
 keep:=fun i h h' st k=>st.at fun o e=>k it (by simp) o e
 item:=by
   intro X hP hw hK hc i pins s σ H E I hf st hg
   subst hP hw hK
   obtain⟨xs,x,hq,hx⟩:=hg
   obtain⟨its,rv,p,hz⟩:=I.list hq
   obtain⟨u,hu,ru⟩:=rv.get hx
   obtain⟨f0,f1,f2,f3,f4,f5⟩:=hf it (by simp)
   refine wpAny_pyNext_list_item st p.isList (x:=u) (by simpa using hu) fun h' st' sb=>?_
   have I1:Inv X pins σ H { s with heap:=h' }:=I.turned (t':=s.toks) (fun b o hb e=>(sb.2 b hb).trans e) f0 f1 f3 f4 f5
   obtain⟨o,e,c,d⟩:=id st'
   exact⟨u,rfl,oJ (s:={ s with heap:=h' }) e c d (by decide) ⟨x,H,I1,ru,⟨rfl,fun ys hy=>by rw[I.list_inj hy hq];exact hx⟩,st',fun b hb=>(hf b hb).1⟩⟩
 done:=by
   intro X hP hw hK hc i pins s σ H E I hf st hg
   subst hP hw hK
   obtain⟨xs,hq,hx⟩:=hg
   obtain⟨its,rv,p,hz⟩:=I.list hq
   obtain⟨f0,f1,f2,f3,f4,f5⟩:=hf it (by simp)
   have hl:=rv.length
   exact wpAny_pyNext_list_end (I.ok.hd hc) st p.isList (by simp;omega) fun h' eb=>⟨rfl,I.turned (t':=s.toks) (fun b o hb e=>eb b o hb e) f0 f1 f3 f4 f5⟩
 self:=fun _ _ _ _ _ st h=>wpAny_pyIter_listiter st h
theorem qA {P:Program}{w:World}{K:PySem.W.Frag}{tg:Expr}(a it:Addr):mY P w K tg (Itt K a) [it] it (fun i h=>h.IsTupleIter it a i) where
 mem:=by simp
 obj:=fun i h st b hb=>by
   have e:b=it:=by simpa using hb
   subst e
   obtain⟨o,e,c,d⟩:=st
   exact⟨o,e,fun v z=>by rw[d] at z;cases z⟩
 keep:=fun i h h' st k=>st.at fun o e=>k it (by simp) o e
 item:=by
   intro X hP hw hK hc i pins s σ H E I hf st hg
   subst hP hw hK
   obtain⟨xs,x,hq,hx⟩:=hg
   obtain⟨its,rv,p,hz⟩:=I.tuple hq
   obtain⟨u,hu,ru⟩:=rv.get hx
   obtain⟨f0,f1,f2,f3,f4,f5⟩:=hf it (by simp)
   refine wpAny_pyNext_tuple_item st (show s.heap.IsTuple a its.toArray from p) (x:=u) (by simpa using hu) fun h' st' sb=>?_
   have I1:Inv X pins σ H { s with heap:=h' }:=I.turned (t':=s.toks) (fun b o hb e=>(sb.2 b hb).trans e) f0 f1 f3 f4 f5
   obtain⟨o,e,c,d⟩:=id st'
   exact⟨u,rfl,oJ (s:={ s with heap:=h' }) e c d (by decide) ⟨x,H,I1,ru,⟨rfl,fun ys hy=>by rw[I.tuple_inj hy hq];exact hx⟩,st',fun b hb=>(hf b hb).1⟩⟩
 done:=by
   intro X hP hw hK hc i pins s σ H E I hf st hg
   subst hP hw hK
   obtain⟨xs,hq,hx⟩:=hg
   obtain⟨its,rv,p,hz⟩:=I.tuple hq
   obtain⟨f0,f1,f2,f3,f4,f5⟩:=hf it (by simp)
   have hl:=rv.length
   exact wpAny_pyNext_tuple_end (I.ok.hd hc) st (show s.heap.IsTuple a its.toArray from p) (by simp;omega) fun h' eb=>⟨rfl,I.turned (t':=s.toks) (fun b o hb e=>eb b o hb e) f0 f1 f3 f4 f5⟩
 self:=fun _ _ _ _ _ st h=>wpAny_pyIter_tupleiter st h
theorem p8 {P:Program}{w:World}{K:PySem.W.Frag}{tg:Expr}(it:Addr) (lo:Int) (n:Nat):mY P w K tg (Itr lo n) [it] it (fun i h=>IsRangeIter h it (lo+(i:Nat)*1) ((n:Int) - (i:Nat)) 1) where
 mem:=by simp
 obj:=fun i h st b hb=>by
   have e:b=it:=by simpa using hb
   subst e
   exact⟨_,st,fun v z=>by
     have z':Data.fields _=Data.cell v:=z
     cases z'⟩
 keep:=fun i h h' st k=>k it (by simp) _ st
 item:=by
   intro X hP hw hK hc i pins s σ H E I hf st hg
   subst hP hw hK
   obtain⟨f0,f1,f2,f3,f4,f5⟩:=hf it (by simp)
   have W:=Walks.range (prog:=X.prog) (w:=X.w) (I.ok.hd hc) it lo 1 n
   refine W.item i s _ _ hg st fun v h' tk hv st' kk=>?_
   obtain⟨t,rfl⟩:=hv
   have I1:Inv X pins σ H { s with heap:=h',toks:=tk }:=I.turned (fun b o hb e=>kk b o (by simpa using hb) e) f0 f1 f3 f4 f5
   refine⟨_,rfl,oJ (s:={ s with heap:=h',toks:=tk }) (n:="range_iterator") st' rfl rfl (by decide) ⟨.int (lo+i),H,I1,⟨t,?_⟩,⟨rfl,rfl⟩,st',fun b hb=>(hf b hb).1⟩⟩
   rw[Int.mul_one]
 done:=by
   intro X hP hw hK hc i pins s σ H E I hf st hg
   subst hP hw hK
   obtain⟨f0,f1,f2,f3,f4,f5⟩:=hf it (by simp)
   exact wpAny_pyNext_range_end (I.ok.hd hc) st (by have:n≤i:=hg;omega) fun h' eb=>⟨rfl,I.turned (t':=s.toks) (fun b o hb e=>eb b o hb e) f0 f1 f3 f4 f5⟩
 self:=fun _ _ _ _ _ st h=>wpAny_pyIter_rangeiter st h
end L2

namespace L2
open PySem PySem.Spec PyProof.Rows
section
variable {X:Cx}{tg:Expr}
def xj (K:PySem.W.Frag)(tl:TE):TI:=fun σ H R=>tl σ H fun x H1=>∃ a,x=.ref a∧(∃ xs,SqL K H1 a xs)∧R (Itl K a) H1
def yp (K:PySem.W.Frag)(tl:TE):TI:=fun σ H R=>tl σ H fun x H1=>∃ a,x=.ref a∧(∃ xs,SqT K H1 a xs)∧R (Itt K a) H1
theorem aQ {l:Expr}{tl:TE}(hl:PE X l tl):PI X tg l (xj X.K tl):=by
 intro pins s σ H R I h
 refine thn (hl s σ H _ I h) fun v s1 ⟨x,H1,I1,r1,q1⟩=>?_
 obtain⟨a,e,⟨xs,hq⟩,q⟩:=q1
 subst e
 cases r1
 obtain⟨its,rv,p,hz⟩:=I1.list hq
 refine wpAny_pyIter_list p.isList ?_
 refine⟨s1.heap.objs.size,[s1.heap.objs.size],_,_,H1,rfl,I1.kept (t':=s1.toks) fun b o e=>Heap.get?_push_of_some _ e,sr a _,⟨_,Heap.get?_push_size _ rfl,rfl,rfl⟩,fun b hb=>?_,q⟩
 have e:b=s1.heap.objs.size:=by simpa using hb
 subst e
 exact I1.fpOk (Nat.le_refl _) (I1.hok.fresh (Nat.le_refl _))
theorem uk {l:Expr}{tl:TE}(hl:PE X l tl):PI X tg l (yp X.K tl):=by
 intro pins s σ H R I h
 refine thn (hl s σ H _ I h) fun v s1 ⟨x,H1,I1,r1,q1⟩=>?_
 obtain⟨a,e,⟨xs,hq⟩,q⟩:=q1
 subst e
 cases r1
 obtain⟨its,rv,p,hz⟩:=I1.tuple hq
 refine wpAny_pyIter_tuple (show s1.heap.IsTuple a its.toArray from p) ?_
 refine⟨s1.heap.objs.size,[s1.heap.objs.size],_,_,H1,rfl,I1.kept (t':=s1.toks) fun b o e=>Heap.get?_push_of_some _ e,qA a _,⟨_,Heap.get?_push_size _ rfl,rfl,rfl⟩,fun b hb=>?_,q⟩
 have e:b=s1.heap.objs.size:=by simpa using hb
 subst e
 exact I1.fpOk (Nat.le_refl _) (I1.hok.fresh (Nat.le_refl _))
theorem u8 {pins:List (Addr×Obj)}{σ:St}{H:Hp}{s:Shared}{R:It→Hp→Prop}{E:Value→Shared→Prop}{lo hi:Int}{t u v:Tok}{tk:Nat}(I:Inv X pins σ H s)(h1:-(2 ^ 62)≤lo)(h2:lo < 2 ^ 62)(h3:-(2 ^ 62)≤hi)(h4:hi < 2 ^ 62)
   (q:R (Itr lo (hi - lo).toNat) H):wpAny (model X.prog X.w) X.A (pyIter (.ref s.heap.objs.size)) (PIE X pins σ tg R) E { s with heap:=s.heap.push { cls:=.type "range",data:=.fields #[.int lo t,.int hi u,.int 1 v] },toks:=tk }:=by
 refine wpAny_pyIter_range (IsRange.new ..) (small_one h1 h2 h3 h4) ?_
 have I1:Inv X pins σ H { s with heap:=s.heap.push { cls:=.type "range",data:=.fields #[.int lo t,.int hi u,.int 1 v] },toks:=tk }:=I.kept fun b o e=>Heap.get?_push_of_some _ e
 refine⟨(s.heap.push { cls:=.type "range",data:=.fields #[.int lo t,.int hi u,.int 1 v] }).objs.size,[(s.heap.push { cls:=.type "range",data:=.fields #[.int lo t,.int hi u,.int 1 v] }).objs.size],_,_,H,rfl,
   I1.kept (t':=tk) fun b o e=>Heap.get?_push_of_some _ e,p8 _ lo (hi - lo).toNat,?_,fun b hb=>?_,q⟩
 · have e1:lo+((0:Nat):Int)*1=lo:=by simp
   have e2:(((hi - lo).toNat:Nat):Int) - ((0:Nat):Int)=Builtin.Range.rangeSize lo hi 1:=by rw[rangeSize_one];split<;>omega
   show IsRangeIter _ _ (lo+((0:Nat):Int)*1) ((((hi - lo).toNat:Nat):Int) - ((0:Nat):Int)) 1
   rw[e1,e2]
   exact Heap.get?_push_size _ rfl
 · have e:b=(s.heap.push { cls:=.type "range",data:=.fields #[.int lo t,.int hi u,.int 1 v] }).objs.size:=by simpa using hb
   subst e
   exact I1.fpOk (Nat.le_refl _) (I1.hok.fresh (Nat.le_refl _))
def xb (ta:TA):TI:=fun σ H R=>ta σ H fun vs H1=>∃ j:Int,vs=[.int j]∧-(2 ^ 62)≤j∧j < 2 ^ 62∧R (Itr 0 j.toNat) H1
def yf (ta:TA):TI:=fun σ H R=>ta σ H fun vs H1=>∃ i j:Int,vs=[.int i,.int j]∧(-(2 ^ 62)≤i∧i < 2 ^ 62∧-(2 ^ 62)≤j∧j < 2 ^ 62)∧R (Itr i (j - i).toNat) H1
theorem cC {a:Expr}{ta:TA}{p pos:Pos}(hg:Gl X "range")(hm:X.mg "range"=none)(ha:PA X [a] ta)(hs:starEach [a] X.env=[(false,eval a X.env)]:=by rfl):PI X tg (.Call (.Name "range" p) [a] [] pos) (xb ta):=by
 intro pins s σ H R I h
 refine Call_ (gR I hg hm boot_range (PyProof.Rows.callWith_type1 (thn (ha pos s σ H _ I h) fun us s1 ⟨vs,H1,I1,r1,q1⟩=>?_) hs rfl))
 obtain⟨j,e,q1,q2,q⟩:=q1
 subst e
 cases r1 with
 | cons r rr =>
   cases rr
   obtain⟨t,rfl⟩:=r
   exact call_range_1 (u8 I1 (by omega) (by omega) q1 q2 (by simpa using q))
/-! ### for -/
def yB (wi:TI)(g:TG)(tb:TS):TS:=fun D σ H=>wi σ H fun J H1=>∃ W:Nat→Nat→St→Hp→Prop,(∃ m,W 0 m σ H1)∧∀ i m σ H,W i m σ H →
 (J.stop i H∧D.nx σ H)∨(J.go i H∧∃ N:St→Hp→Prop,(∀ σ' H',N σ' H'→∃ m',m' < m∧W (i+1) m' σ' H')∧∀ x H',J.yld i H x H'→g x σ H' fun σ2 H2=>tb { D with nx:=N,ct:=N,bk:=D.nx } σ2 H2)
def jV (fp:List Addr)(h:Heap):List (Addr×Obj):=fp.filterMap fun b=>(h.get? b).map fun o=>(b,o)
theorem du {fp:List Addr}{h:Heap}{b:Addr}{o:Obj}(hb:b∈fp)(e:h.get? b=some o):(b,o)∈jV fp h:=List.mem_filterMap.mpr ⟨b,hb,by rw[e];rfl⟩
theorem rR {fp:List Addr}{h:Heap}{p:Addr×Obj}(hp:p∈jV fp h):p.1∈fp∧h.get? p.1=some p.2:=by
 obtain⟨b,hb,e⟩:=List.mem_filterMap.mp hp
 cases q:h.get? b with
 | none=>rw[q] at e;cases e
 | some o =>
   rw[q] at e
   have e':(b,o)=p:=Option.some.inj e
   subst e'
   exact⟨hb,q⟩
theorem Inv.pinned {pins:List (Addr×Obj)}{σ:St}{H:Hp}{s:Shared}{fp:List Addr}(I:Inv X pins σ H s)(hf:∀ b∈fp,e5 X pins H b)(ho:∀ b∈fp,∃ o,s.heap.get? b=some o∧∀ v,o.data≠.cell v):Inv X (pins++jV fp s.heap) σ H s :=
 I.pins_of fun p hp=>(List.mem_append.mp hp).elim (fun z=>I.pin p (List.mem_append_right _ z)) fun z=>by
   obtain⟨hb,e⟩:=rR z
   obtain⟨f0,f1,f2,_⟩:=hf p.1 hb
   obtain⟨o,e',d⟩:=ho p.1 hb
   rw[e] at e';cases e'
   exact⟨e,f0,f1,f2,d⟩
theorem Inv.unpinned {pins pl:List (Addr×Obj)}{σ:St}{H:Hp}{s:Shared}(I:Inv X (pins++pl) σ H s):Inv X pins σ H s:=I.pins_of fun p hp=>I.pin p (List.mem_append_right _ (List.mem_append_left _ hp))
theorem bj {iter:Expr}{body:List Stmt}{wi:TI}{g:TG}{tb:TS}{pos:Pos}(hp:PassesOwn (model X.prog X.w) X.A X.env X.xe)(hc:X.calm=true)(hi:PI X tg iter wi)(hg:PG X tg g)(hb:PSs X body tb)
   (hs:∀ x,foldedSetIterable iter X.env x=pure x:=by intro _;rfl):PS X (.For tg iter body [] pos) (yB wi g tb):=by
 intro pins s σ H D I h
 refine wpAny_For (thn (hi s σ H _ I h) fun v s1 h1=>thn h1 fun itv s2 h2=>?_) hs
 obtain⟨it,fp,tn,J,H2,e,I2,T,st2,f2,W,⟨m0,w0⟩,turn⟩:=h2
 subst e
 have stat:∀ {H':Hp},(∀ b∈fp,H' b=none)→∀ b∈fp,e5 X pins H' b:=fun hn b hb=>⟨hn b hb,(f2 b hb).2⟩
 refine codeAny_forLoop_any (fun n s'=>∃ i σ' H',Inv X pins σ' H' s'∧tn i s'.heap∧(∀ b∈fp,H' b=none)∧W i n σ' H') ?_ m0 ⟨0,σ,H2,I2,st2,fun b hb=>(f2 b hb).1,w0⟩
 rintro n s3 ⟨i,σ3,H3,I3,st3,fr3,w3⟩
 rcases turn i n σ3 H3 w3 with ⟨stop,qn⟩ | ⟨go,N,hN,step⟩
 · refine wpAny_passesOwn hp (thn (T.done X rfl rfl rfl hc i pins s3 σ3 H3 X.xe I3 (stat fr3) st3 stop) fun r s4 ⟨hr,I4⟩=>?_)
   subst hr
   exact wpAny_execs_nil ⟨σ3,H3,I4,qn⟩
 · refine wpAny_passesOwn hp (thn (T.item X rfl rfl rfl hc i pins s3 σ3 H3 X.xe I3 (stat fr3) st3 go) fun r s4 ⟨u,hr,h4⟩=>?_)
   subst hr
   refine wpAny_passesOwn hp (thn h4 fun _ s5 ⟨x,H5,I5,r5,y5,st5,fr5⟩=>?_)
   have I5':=I5.pinned (stat fr5) (T.obj _ _ st5)
   refine wpAny_passesOwn hp (thn (hg s5 σ3 H5 x u _ I5' r5 (step x H5 y5)) fun _ s6 ⟨σ6,H6,I6,q6⟩=>?_)
   refine wpAny_passesOwn hp (thn (hb s6 σ6 H6 _ I6 q6) fun f s7 q7=>?_)
   have again:∀ {σ7:St}{H7:Hp},Inv X (pins++jV fp s5.heap) σ7 H7 s7→N σ7 H7→∃ m,m < n∧∃ i σ' H',Inv X pins σ' H' s7∧tn i s7.heap∧(∀ b∈fp,H' b=none)∧W i m σ' H':=fun {σ7 H7} I7 n7=>by
     obtain⟨m',hm,w7⟩:=hN σ7 H7 n7
     refine⟨m',hm,i+1,σ7,H7,I7.unpinned,T.keep _ _ _ st5 fun b hb o e=>(I7.pin (b,o) (List.mem_append_right _ (List.mem_append_right _ (du hb e)))).1,fun b hb=>?_,w7⟩
     obtain⟨o,e,d⟩:=T.obj _ _ st5 b hb
     exact(I7.pin (b,o) (List.mem_append_right _ (List.mem_append_right _ (du hb e)))).2.1
   cases f with
   | next=>obtain⟨σ7,H7,I7,n7⟩:=q7;exact again I7 n7
   | cont=>obtain⟨σ7,H7,I7,n7⟩:=q7;exact again I7 n7
   | brk=>obtain⟨σ7,H7,I7,q7⟩:=q7;exact⟨σ7,H7,I7.unpinned,q7⟩
   | ret v=>obtain⟨x7,σ7,H7,I7,r7,q7⟩:=q7;exact⟨x7,σ7,H7,I7.unpinned,r7,q7⟩
end

/-! ### the forms one uses -/
end L2

namespace L2
open PySem PySem.Spec PyProof.Rows

abbrev R2:=V→V→Hp→VK→Prop
def OpR (X:Cx)(f:Value→Value→Sem Value)(r:R2):Prop :=
 ∀ (pins:List (Addr×Obj))(s:Shared) (σ:St)(H:Hp) (x y:V) (v u:Value)(Q:VK),Inv X pins σ H s→a8 x v→a8 y u→r x y H Q →
   wpAny (model X.prog X.w) X.A (f v u) (EP X pins σ Q) X.xe s
def UnR (X:Cx)(f:Value→Sem Value)(r:V→Hp→VK→Prop):Prop :=
 ∀ (pins:List (Addr×Obj))(s:Shared) (σ:St)(H:Hp) (x:V) (v:Value)(Q:VK),Inv X pins σ H s→a8 x v→r x H Q →
   wpAny (model X.prog X.w) X.A (f v) (EP X pins σ Q) X.xe s
def cx (X:Cx) (f:Value)(r:List V→Hp→VK→Prop):Prop :=
 ∀ (pins:List (Addr×Obj))(s:Shared) (σ:St)(H:Hp)(xs:List V)(us:List Value)(Q:VK),Inv X pins σ H s→Vals xs us→r xs H Q →
   wpAny (model X.prog X.w) X.A (call f us) (EP X pins σ Q) X.xe s
def tOp (r:R2)(ta tb:TE):TE:=fun σ H Q=>ta σ H fun x H1=>tb σ H1 fun y H2=>r x y H2 Q
def tUn (r:V→Hp→VK→Prop)(ta:TE):TE:=fun σ H Q=>ta σ H fun x H1=>r x H1 Q
def rI (C:Int→Int→Prop)(g:Int→Int→V):R2:=fun x y H Q=>∃ i j,x=.int i∧y=.int j∧C i j∧Q (g i j) H
def rI0 (g:Int→Int→V):R2:=fun x y H Q=>∃ i j,x=.int i∧y=.int j∧Q (g i j) H
def rU (g:Int→V):V→Hp→VK→Prop:=fun x H Q=>∃ i,x=.int i∧Q (g i) H

section
variable {X:Cx}{a b c:Expr}{ta tb tc:TE}{pos:Pos}

theorem x5 (ha:PE X a ta)(hb:PE X b tb){pins:List (Addr×Obj)}{s:Shared}{σ:St}{H:Hp}{R:V→V→Hp→Prop}(I:Inv X pins σ H s)
   (h:ta σ H fun x H1=>tb σ H1 fun y H2=>R x y H2){Q:Value→Shared→Prop}{f:Value→Value→Sem Value}
   (hf:∀ v u s2 x y H2,Inv X pins σ H2 s2→a8 x v→a8 y u→R x y H2→wpAny (model X.prog X.w) X.A (f v u) Q X.xe s2) :
   wpAny (model X.prog X.w) X.A (eval a X.env) (fun v s₁=>wpAny (model X.prog X.w) X.A (eval b X.env) (fun u s₂=>wpAny (model X.prog X.w) X.A (f v u) Q X.xe s₂) X.xe s₁) X.xe s:=by
 refine thn (ha s σ H _ I h) fun v s1 ⟨x,H1,I1,r1,q1⟩=>?_
 refine thn (hb s1 σ H1 _ I1 q1) fun u s2 ⟨y,H2,I2,r2,q2⟩=>?_
 exact hf v u s2 x y H2 I2 r1 r2 q2

theorem aC {op:Operator}{r:R2}(ho:OpR X (binaryOp op) r)(ha:PE X a ta)(hb:PE X b tb):PE X (.BinOp a op b pos) (tOp r ta tb):=by
 intro pins s σ H Q I h
 exact wpAny_BinOp (x5 ha hb I h fun v u s2 x y H2 I2 rx ry q=>ho pins s2 σ H2 x y v u Q I2 rx ry q)
theorem k6 {op:UnaryOp}{r:V→Hp→VK→Prop}(ho:UnR X (unaryOp op) r)(ha:PE X a ta):PE X (.UnaryOp op a pos) (tUn r ta):=by
 intro pins s σ H Q I h
 exact UnaryOp_ (thn (ha s σ H _ I h) fun v s1 ⟨x,H1,I1,r1,q1⟩=>ho pins s1 σ H1 x v Q I1 r1 q1)
/-! ### ints -/
theorem opI {f:Value→Value→Sem Value}{C:Int→Int→Prop}{g:Int→Int→Int}
   (rule:∀ (i j:Int)(t u:Tok)(s:Shared)(Q:Value→Shared→Prop)(E:Value→Shared→Prop),C i j→Q (.int (g i j) s.toks) { s with toks:=s.toks+1 }→wpAny (model X.prog X.w) X.A (f (.int i t) (.int j u)) Q E s) :
   OpR X f (rI C fun i j=>.int (g i j)):=by
 intro pins s σ H x y v u Q I rx ry h
 obtain⟨i,j,rfl,rfl,hc,q⟩:=h
 obtain⟨t,rfl⟩:=rx
 obtain⟨t',rfl⟩:=ry
 exact rule i j t t' s _ _ hc ⟨.int (g i j),H,I.tok _,⟨_,rfl⟩,q⟩
theorem yu {f:Value→Value→Sem Value}{g:Int→Int→Int}
   (rule:∀ (i j:Int)(t u:Tok)(s:Shared)(Q:Value→Shared→Prop)(E:Value→Shared→Prop),Q (.int (g i j) s.toks) { s with toks:=s.toks+1 }→wpAny (model X.prog X.w) X.A (f (.int i t) (.int j u)) Q E s) :
   OpR X f (rI0 fun i j=>.int (g i j)):=by
 intro pins s σ H x y v u Q I rx ry h
 obtain⟨i,j,rfl,rfl,q⟩:=h
 obtain⟨t,rfl⟩:=rx
 obtain⟨t',rfl⟩:=ry
 exact rule i j t t' s _ _ ⟨.int (g i j),H,I.tok _,⟨_,rfl⟩,q⟩
theorem wa {f:Value→Value→Sem Value}{g:Int→Int→Bool}
   (rule:∀ (i j:Int)(t u:Tok)(s:Shared)(Q:Value→Shared→Prop)(E:Value→Shared→Prop),Q (.bool (g i j)) s→wpAny (model X.prog X.w) X.A (f (.int i t) (.int j u)) Q E s) :
   OpR X f (rI0 fun i j=>.bl (g i j)):=by
 intro pins s σ H x y v u Q I rx ry h
 obtain⟨i,j,rfl,rfl,q⟩:=h
 obtain⟨t,rfl⟩:=rx
 obtain⟨t',rfl⟩:=ry
 exact rule i j t t' s _ _ ⟨.bl (g i j),H,I,rfl,q⟩

def yX (i j:Int):Prop:=0 < j∧j < 1073741824
def yY (i j:Int):Prop:=0≤j∧j≤1000000∧i.natAbs < 2 ^ 64
def wu (i j:Int):Prop:=(-(2 ^ 64) < i∧i < 2 ^ 64)∨(-(2 ^ 64) < j∧j < 2 ^ 64)
theorem wu.ok {i j:Int}(h:wu i j):IntMulOk i j:=by
 rcases h with ⟨h1,h2⟩ | ⟨h1,h2⟩
 · exact .of_left (intBits_le_64 h1 h2)
 · exact .of_right (intBits_le_64 h1 h2)
theorem bQ:OpR X (binaryOp .Add) (rI0 fun i j=>.int (i+j)):=yu fun _ _ _ _ _ _ _ q=>add_int q
theorem tV:OpR X (binaryOp .Sub) (rI0 fun i j=>.int (i - j)):=yu fun _ _ _ _ _ _ _ q=>sub_int q
theorem gf:OpR X (binaryOp .Mult) (rI wu fun i j=>.int (i*j)):=opI fun _ _ _ _ _ _ _ hc q=>mul_int q hc.ok
theorem bn:OpR X (binaryOp .Mod) (rI (fun _ j=>0 < j) fun i j=>.int (i % j)):=opI fun i j _ _ _ _ _ hc q=>by
 have h1:(0:Int) < j:=hc
 exact mod_int' (by omega) (by rw[Int.fmod_eq_emod_of_nonneg i (by omega)];exact q)
theorem xW:OpR X (binaryOp .Pow) (rI yY fun i j=>.int (i ^ j.toNat)):=opI fun _ _ _ _ _ _ _ hc q=>pow_int_small hc.1 hc.2.1 hc.2.2 q
theorem unI {f:Value→Sem Value}{g:Int→Int}
   (rule:∀ (i:Int)(t:Tok)(s:Shared)(Q:Value→Shared→Prop)(E:Value→Shared→Prop),Q (.int (g i) s.toks) { s with toks:=s.toks+1 }→wpAny (model X.prog X.w) X.A (f (.int i t)) Q E s) :
   UnR X f (rU fun i=>.int (g i)):=by
 intro pins s σ H x v Q I rx h
 obtain⟨i,rfl,q⟩:=h
 obtain⟨t,rfl⟩:=rx
 exact rule i t s _ _ ⟨.int (g i),H,I.tok _,⟨_,rfl⟩,q⟩
theorem g8:UnR X (unaryOp .USub) (rU fun i=>.int (-i)):=unI fun _ _ _ _ _ q=>neg_int q
/-! ### bools among ints: n += (a < b) -/
end

/-! ### comparisons -/
def yC:V→V→Bool
 | .non,.non=>true | .non,.int _=>true | .int _,.non=>true | .non,.bl _=>true | .bl _,.non=>true | .non,.str _=>true | .str _,.non=>true
 | .int _,.int _=>true | .bl _,.bl _=>true | .str _,.str _=>true | .byt _,.byt _=>true
 | .int _,.str _=>true | .str _,.int _=>true | .bl _,.str _=>true | .str _,.bl _=>true
 | _,_=>false
def rEq:R2:=fun x y H Q=>yC x y=true∧Q (.bl (decide (x=y))) H
def rNe:R2:=fun x y H Q=>yC x y=true∧Q (.bl (!decide (x=y))) H

theorem rm {i j:Int}:decide (V.int i=V.int j)=(i==j):=by
 rw[Bool.eq_iff_iff]
 simp
theorem u9 {i j:Bool}:decide (V.bl i=V.bl j)=(i==j):=by
 rw[Bool.eq_iff_iff]
 simp
theorem rz {i j:Str}:decide (V.str i=V.str j)=(i==j):=by
 rw[Bool.eq_iff_iff]
 simp
theorem rA {i j:Array UInt8}:decide (V.byt i=V.byt j)=(i.toList==j.toList):=by
 rw[Bool.eq_iff_iff]
 cases i
 cases j
 simp

section
variable {X:Cx}{a b c:Expr}{ta tb tc:TE}{pos:Pos}
theorem bf {pins:List (Addr×Obj)}{σ:St}{H:Hp}{s:Shared}{Q:VK}{k k':Bool}(I:Inv X pins σ H s)(q:Q (.bl k) H)(e:k=k'):EP X pins σ Q (.bool k') s:=by
 subst e
 exact⟨.bl k,H,I,rfl,q⟩
theorem dn:OpR X (compareOp .Eq) rEq:=by
 intro pins s σ H x y v u Q I rx ry h
 obtain⟨hs,q⟩:=h
 cases x with
 | non =>
   cases rx
   cases y with
   | non=>cases ry;exact PySem.EqNone.eq_none_none (bf I q (by simp))
   | bl j=>cases ry;exact PySem.EqNone.eq_none_bool (bf I q (by simp))
   | int j=>obtain⟨t',rfl⟩:=ry;exact PySem.EqNone.eq_none_int (bf I q (by simp))
   | str j=>obtain⟨t',rfl⟩:=ry;exact PySem.EqNone.eq_none_str (bf I q (by simp))
   | _=>exact absurd (show false=true from hs) Bool.false_ne_true
 | bl i =>
   cases rx
   cases y with
   | non=>cases ry;exact PySem.EqNone.eq_bool_none (bf I q (by simp))
   | bl j=>cases ry;exact eq_bool (bf I q u9)
   | str j=>obtain⟨t',rfl⟩:=ry;exact PySem.EqMixed.eq_bool_str (bf I q (by simp))
   | _=>exact absurd (show false=true from hs) Bool.false_ne_true
 | int i =>
   obtain⟨t,rfl⟩:=rx
   cases y with
   | non=>cases ry;exact PySem.EqNone.eq_int_none (bf I q (by simp))
   | int j=>obtain⟨t',rfl⟩:=ry;exact eq_int (bf I q rm)
   | str j=>obtain⟨t',rfl⟩:=ry;exact PySem.EqMixed.eq_int_str (bf I q (by simp))
   | _=>exact absurd (show false=true from hs) Bool.false_ne_true
 | str i =>
   obtain⟨t,rfl⟩:=rx
   cases y with
   | non=>cases ry;exact PySem.EqNone.eq_str_none (bf I q (by simp))
   | bl j=>cases ry;exact PySem.EqMixed.eq_str_bool (bf I q (by simp))
   | int j=>obtain⟨t',rfl⟩:=ry;exact PySem.EqMixed.eq_str_int (bf I q (by simp))
   | str j=>obtain⟨t',rfl⟩:=ry;exact eq_str (bf I q rz)
   | _=>exact absurd (show false=true from hs) Bool.false_ne_true
 | byt i =>
   obtain⟨t,rfl⟩:=rx
   cases y with
   | byt j=>obtain⟨t',rfl⟩:=ry;exact PySem.W.eq_bytes (bf I q rA)
   | _=>exact absurd (show false=true from hs) Bool.false_ne_true
 | _=>cases y<;>exact absurd (show false=true from hs) Bool.false_ne_true
theorem qU:OpR X (compareOp .NotEq) rNe:=by
 intro pins s σ H x y v u Q I rx ry h
 obtain⟨hs,q⟩:=h
 cases x with
 | non =>
   cases rx
   cases y with
   | non=>cases ry;exact PySem.EqNone.ne_none_none (bf I q (by simp))
   | bl j=>cases ry;exact PySem.EqNone.ne_none_bool (bf I q (by simp))
   | int j=>obtain⟨t',rfl⟩:=ry;exact PySem.EqNone.ne_none_int (bf I q (by simp))
   | str j=>obtain⟨t',rfl⟩:=ry;exact PySem.EqNone.ne_none_str (bf I q (by simp))
   | _=>exact absurd (show false=true from hs) Bool.false_ne_true
 | bl i =>
   cases rx
   cases y with
   | non=>cases ry;exact PySem.EqNone.ne_bool_none (bf I q (by simp))
   | bl j=>cases ry;exact ne_bool (bf I q (congrArg not u9))
   | str j=>obtain⟨t',rfl⟩:=ry;exact PySem.EqMixed.ne_bool_str (bf I q (by simp))
   | _=>exact absurd (show false=true from hs) Bool.false_ne_true
 | int i =>
   obtain⟨t,rfl⟩:=rx
   cases y with
   | non=>cases ry;exact PySem.EqNone.ne_int_none (bf I q (by simp))
   | int j=>obtain⟨t',rfl⟩:=ry;exact ne_int (bf I q (congrArg not rm))
   | str j=>obtain⟨t',rfl⟩:=ry;exact PySem.EqMixed.ne_int_str (bf I q (by simp))
   | _=>exact absurd (show false=true from hs) Bool.false_ne_true
 | str i =>
   obtain⟨t,rfl⟩:=rx
   cases y with
   | non=>cases ry;exact PySem.EqNone.ne_str_none (bf I q (by simp))
   | bl j=>cases ry;exact PySem.EqMixed.ne_str_bool (bf I q (by simp))
   | int j=>obtain⟨t',rfl⟩:=ry;exact PySem.EqMixed.ne_str_int (bf I q (by simp))
   | str j=>obtain⟨t',rfl⟩:=ry;exact ne_str (bf I q (congrArg not rz))
   | _=>exact absurd (show false=true from hs) Bool.false_ne_true
 | byt i =>
   obtain⟨t,rfl⟩:=rx
   cases y with
   | byt j=>obtain⟨t',rfl⟩:=ry;exact PySem.W.ne_bytes (bf I q (congrArg not rA))
   | _=>exact absurd (show false=true from hs) Bool.false_ne_true
 | _=>cases y<;>exact absurd (show false=true from hs) Bool.false_ne_true

theorem js:OpR X (compareOp .Lt) (rI0 fun i j=>.bl (decide (i < j))):=wa fun _ _ _ _ _ _ _ q=>lt_int q
theorem xm:OpR X (compareOp .LtE) (rI0 fun i j=>.bl (decide (i≤j))):=wa fun _ _ _ _ _ _ _ q=>le_int q
theorem iE:OpR X (compareOp .Gt) (rI0 fun i j=>.bl (decide (j < i))):=wa fun _ _ _ _ _ _ _ q=>gt_int q
theorem jr:OpR X (compareOp .GtE) (rI0 fun i j=>.bl (decide (j≤i))):=wa fun _ _ _ _ _ _ _ q=>ge_int q
theorem se:OpR X (compareOp .In) (fun x y H Q=>∃ i j,x=.str i∧y=.str j∧Q (.bl (!(Builtin.Str.occurrences j i 0 j.length 1).isEmpty)) H):=by
 intro pins s σ H x y v u Q I rx ry h
 obtain⟨i,j,rfl,rfl,q⟩:=h
 obtain⟨t,rfl⟩:=rx
 obtain⟨t',rfl⟩:=ry
 exact in_str (bf I q rfl)

theorem rb:OpR X (compareOp .IsNot) (fun x y H Q=>y=.non∧Q (.bl (!decide (x=.non))) H):=by
 intro pins s σ H x y v u Q I rx ry h
 obtain⟨rfl,q⟩:=h
 cases ry
 refine isnot_none_gen (bf I q ?_)
 cases x<;>first
   | (cases rx;rfl)
   | (obtain⟨t,rfl⟩:=rx;rfl)

theorem aM (b:Expr){op:CmpOp}(h:op≠.In:=by decide)(h2:op≠.NotIn:=by decide):behindInMarks op b=false:=by
 have e1:(op==CmpOp.In)=false:=by cases op<;>first | rfl | exact absurd rfl h
 have e2:(op==CmpOp.NotIn)=false:=by cases op<;>first | rfl | exact absurd rfl h2
 cases b<;>simp[behindInMarks,e1,e2]
theorem dA {op:CmpOp}{r:R2}(ho:OpR X (compareOp op) r)(ha:PE X a ta)(hb:PE X b tb)(hm:behindInMarks op b=false):PE X (.Compare a [op] [b] pos) (tOp r ta tb):=by
 intro pins s σ H Q I h
 exact wpAny_Compare1 (x5 ha hb I h fun v u s2 x y H2 I2 rx ry q=>ho pins s2 σ H2 x y v u Q I2 rx ry q) hm
def wW (t:TE):TT:=fun σ H Q=>t σ H fun x H'=>∃ k,x=.bl k∧Q k H'
theorem aF {op:CmpOp}{r:R2}(ho:OpR X (compareOp op) r)(ha:PE X a ta)(hb:PE X b tb)(hm:behindInMarks op b=false):PT X (.Compare a [op] [b] pos) (wW (tOp r ta tb)):=by
 intro pins s σ H Q I h
 refine wpAny_isTrue_Compare1 (thn (ha s σ H _ I h) fun v s1 ⟨x,H1,I1,r1,q1⟩=>thn (hb s1 σ H1 _ I1 q1) fun u s2 ⟨y,H2,I2,r2,q2⟩ =>
   thn (ho pins s2 σ H2 x y v u _ I2 r1 r2 q2) fun c s3 ⟨z,H3,I3,r3,k,e,q3⟩=>?_) hm
 subst e
 cases r3
 exact wpAny_truthy_bool ⟨H3,I3,q3⟩
/-! ### truth -/
theorem i8:(sizeLine:Nat) < 2 ^ 63:=by rw[sizeLine_eq];decide
/-! ### strs and bytes -/
theorem cv:OpR X (binaryOp .Add) (fun x y H Q=>∃ i j,x=.str i∧y=.str j∧i.length+j.length≤sizeLine∧Q (.str (i++j)) H):=by
 intro pins s σ H x y v u Q I rx ry h
 obtain⟨i,j,rfl,rfl,hz,q⟩:=h
 obtain⟨t,rfl⟩:=rx
 obtain⟨t',rfl⟩:=ry
 exact add_str (fun t' tk=>⟨.str (i++j),H,I.tok _,⟨_,rfl⟩,q⟩) hz
/-! ### scalar builtins,by cx -/
theorem dq {x:V}{us:List Value}(r:Vals [x] us):∃ u,us=[u]∧a8 x u:=by
 cases r with
 | cons r1 r2=>cases r2;exact⟨_,rfl,r1⟩
theorem vn {x y:V}{us:List Value}(r:Vals [x,y] us):∃ u w',us=[u,w']∧a8 x u∧a8 y w':=by
 cases r with
 | cons r1 r2 =>
   cases r2 with
   | cons r3 r4=>cases r4;exact⟨_,_,rfl,r1,r3⟩
theorem ml (hc:X.calm=true):cx X (.builtin "max") (fun xs H Q=>∃ i j,xs=[.int i,.int j]∧Q (.int (if j > i then j else i)) H):=by
 intro pins s σ H xs us Q I r h
 obtain⟨i,j,rfl,q⟩:=h
 obtain⟨u,w',rfl,⟨t,rfl⟩,⟨t',rfl⟩⟩:=vn r
 refine max_two_ints (I.ok.hd hc) fun h' tk k=>⟨_,H,I.kept k,?_,q⟩
 by_cases hj:j > i
 · rw[if_pos hj,if_pos hj];exact⟨_,rfl⟩
 · rw[if_neg hj,if_neg hj];exact⟨_,rfl⟩
theorem gk (hc:X.calm=true):cx X (.builtin "min") (fun xs H Q=>∃ i j,xs=[.int i,.int j]∧Q (.int (if j < i then j else i)) H):=by
 intro pins s σ H xs us Q I r h
 obtain⟨i,j,rfl,q⟩:=h
 obtain⟨u,w',rfl,⟨t,rfl⟩,⟨t',rfl⟩⟩:=vn r
 refine min_two_ints (I.ok.hd hc) fun h' tk k=>⟨_,H,I.kept k,?_,q⟩
 by_cases hj:j < i
 · rw[if_pos hj,if_pos hj];exact⟨_,rfl⟩
 · rw[if_neg hj,if_neg hj];exact⟨_,rfl⟩
theorem dw:cx X (.type "int") (fun xs H Q=>(∃ i,xs=[.int i]∧Q (.int i) H)∨∃ k,xs=[.bl k]∧Q (.int (if k then 1 else 0)) H):=by
 intro pins s σ H xs us Q I r h
 rcases h with ⟨i,rfl,q⟩ | ⟨k,rfl,q⟩
 · obtain⟨u,rfl,t,rfl⟩:=dq r
   exact call_int_int ⟨.int i,H,I,⟨_,rfl⟩,q⟩
 · obtain⟨u,rfl,r1⟩:=dq r
   cases r1
   exact call_int_bool ⟨.int (if k then 1 else 0),H,I.tok _,⟨_,rfl⟩,q⟩
end
end L2

namespace L2
open PySem PySem.Spec PyProof.Rows

/-! ### an instance,its attributes a map -/
structure qg (h:Heap)(x dx C:Addr)(mA:Str→Option Value):Prop where
 obj:h.get? x=some (PySem.W.instObj C dx)
 ns:h.Ns1 dx mA
 ne:dx≠x

theorem sZ {h:Heap}{dx:Addr}{mA:Str→Option Value}(n:h.Ns1 dx mA):∃ od,h.get? dx=some od∧∀ name,PySem.W.lookIn name od=some (mA name):=by
 obtain⟨o,es,ep,ho,hd,hk,_,hm⟩:=n
 refine⟨o,ho,fun name=>?_⟩
 have e:=hm name
 unfold nsFind findBy at e
 rw[←Array.find?_toList] at e
 unfold PySem.W.lookIn
 rw[hd]
 dsimp only
 split
 · rename_i y q
   rw[q] at e
   exact congrArg some e
 · rename_i q
   rw[q] at e
   have a:es.toList.any (·.refKey)=false:=by
     rw[List.any_eq_false]
     intro y hy
     obtain⟨z,t,hkey⟩:=hk y (Array.mem_toList_iff.mp hy)
     simp[DictEntry.refKey,hkey]
   have a':¬es.toList.any (·.refKey)=true:=by rw[a];exact Bool.false_ne_true
   rw[if_neg a']
   exact congrArg some e

theorem qg.look {h:Heap}{x dx C:Addr}{mA:Str→Option Value}(I:qg h x dx C mA):∃ od,PySem.W.InstAt h x (PySem.W.instObj C dx) C (some od)∧∀ name,PySem.W.lookIn name od=some (mA name) :=
 let ⟨od,ho,hl⟩:=sZ I.ns
 ⟨od,⟨I.obj,rfl,rfl,ho⟩,hl⟩

section
variable {prog:Program}{w:World}{A:Around}{E:Value→Shared→Prop}{s:Shared}{K:PySem.W.Frag}{x dx C f:Addr}{mA:Str→Option Value}{name:Str}{v:Value}

theorem vK {expr:Bool}{Q:Value→Shared→Prop}(X:K.In s.heap)(I:qg s.heap x dx C mA)(hg:PySem.W.plainGet K C name=true)(hh:PySem.W.hasDictIn K C=true)
   (ha:PySem.W.findIn K (.ref C) name=some none)(hv:mA name=some v)(hv':PySem.W.handedIn v=true)(h:Q v { s with toks:=s.toks+1 }) :
   wpAny (model prog w) A (getAttr (.ref x) name expr) Q E s:=by
 obtain⟨od,J,hl⟩:=I.look
 exact PySem.W.get_value X J (PySem.W.plainGet_of hg).1 (PySem.W.findObj_own hh ha rfl (by rw[hl,hv])) hv' h

theorem uJ {pl:Sem Bool}{Q:Value×List Value→Shared→Prop}(X:K.In s.heap)(I:qg s.heap x dx C mA)(hg:PySem.W.plainGet K C name=true)
   (hf:PySem.W.findIn K (.ref C) name=some (some (.ref f)))(ht:PySem.W.isFn K (.ref f)=true)(hv:mA name=none)(h:Q (.ref f,[.ref x]) s) :
   wpAny (model prog w) A (getMethod (.ref x) name pl) Q E s:=by
 obtain⟨od,J,hl⟩:=I.look
 exact PySem.W.method_fn X J (PySem.W.plainGet_of hg).1 (PySem.W.plainGet_of hg).2 hf (beq_iff_eq.mp ht) (by show(PySem.W.lookIn name od).map (·.isSome)=some false;rw[hl,hv];rfl) h

theorem vY {ns:List Str}{Q:Unit→Shared→Prop}(X:K.In s.heap)(I:qg s.heap x dx C mA)
   (hs:PySem.W.findIn K (.ref C) "__setattr__"=some (some (.builtin "object.__setattr__")))(hp:PySem.W.plainOver K C=true)(ht:PySem.W.takerIn K C name=some none)(hh:PySem.W.hasDictIn K C=true)
   (hw:PySem.Within mA ns)(hsz:ns.length≤sizeLine)
   (h:∀ h',qg h' x dx C (fun y=>if y=name then some v else mA y)→Heap.SameBut dx s.heap h'→Q () { s with heap:=h',toks:=s.toks+2 }) :
   wpAny (model prog w) A (setAttr (.ref x) name v) Q E s:=by
 obtain⟨od,J,hl⟩:=I.look
 refine PySem.W.set_plain X J hs (PySem.W.osa_open (s:={ s with toks:=s.toks+1 }) (r:=none) X J hp ht fun b=>?_)
 obtain⟨cd,hc,hd'⟩:=PySem.W.any_some hh
 have hx:s.heap.get? x=some ⟨.ref C,some dx,.plain,#[]⟩:=I.obj
 refine wpAny_bind (wpAny_pure (wpAny_bind (wpAny_bind (wpAny_loadPart hx (wpAny_bind (PySem.W.Looks.here (s:={ s with toks:=s.toks+1 }) (PySem.W.looks_clsIn X hc) ?_))))))
 rw[hd']
 refine wpAny_pure (a:=some dx) (wpAny_bind (wpAny_pure (wpAny_bind ?_)))
 refine wpAny_nsSet1 (s:={ s with toks:=s.toks+1 }) I.ns fun h' hn2 hs2=>?_
 obtain⟨oD,esD,epD,hoD,hdD,hcD⟩:=hn2.count (PySem.Within.cons name v hw)
 refine wpAny_bind (wpAny_lookBehind hoD (by rw[hdD];exact pastItsLine_dict (Nat.le_trans hcD (by rw[List.length_cons];omega))) ?_)
 exact wpAny_pure (h _ ⟨(hs2.2 _ (Ne.symm I.ne)).trans I.obj,hn2,I.ne⟩ hs2)

theorem va {R:Result→Shared→Prop}{vs:List Value}{kw:List (Str×Value)}(X:K.In s.heap)(hm:PySem.W.makesIn K C=true)
   (hi:PySem.W.findIn K (.ref C) "__init__"=some (some (.ref f)))(hf:PySem.W.typeIn K (.ref f)=some (.type "function"))
   (h:codeAny (model prog w) (A.under (.builtin "type.__call__" ⟨.ref C::vs,kw⟩)) (.call (.ref f) ⟨.ref (s.heap.objs.size+1)::vs,kw⟩) (PySem.W.InitBack (s.heap.objs.size+1) R)
     { s with heap:=(s.heap.push PySem.W.emptyDict).push (PySem.W.instObj C s.heap.objs.size) }) :
   codeAny (model prog w) A (.call (.ref C) ⟨vs,kw⟩) R s:=by
 obtain⟨hh,g,d,t,os⟩:=s
 exact PySem.W.make_core (PySem.W.makes_of X hm) (PySem.W.looks_findIn X hi) (fun self=>PySem.W.bind_fn X self hf) (.inl rfl) h
end

/-! ### the attributes as a list of pairs -/
def cP (f:Str) (v:V):List (Str×V)→List (Str×V)
 | []=>[(f,v)]
 | (g,x)::r=>if g=f then(g,v)::r else(g,x)::cP f v r
theorem jm (f g:Str) (v:V):∀ fs:List (Str×V),(cP f v fs).lookup g=if g=f then some v else fs.lookup g
 | []=>by
   show List.lookup g [(f,v)]=_
   by_cases h:g=f
   · have hb:(g==f)=true:=beq_iff_eq.mpr h
     simp only[List.lookup,hb,if_pos h]
   · have hb:(g==f)=false:=beq_eq_false_iff_ne.mpr h
     simp only[List.lookup,hb,if_neg h]
 | (k,x)::r=>by
   have ih:=jm f g v r
   rw[show cP f v ((k,x)::r)=(if k=f then(k,v)::r else(k,x)::cP f v r) from rfl]
   by_cases hk:k=f
   · rw[if_pos hk]
     by_cases h:g=k
     · have hb:(g==k)=true:=beq_iff_eq.mpr h
       simp only[List.lookup,hb,if_pos (h.trans hk)]
     · have hb:(g==k)=false:=beq_eq_false_iff_ne.mpr h
       simp only[List.lookup,hb,if_neg (fun e:g=f=>h (e.trans hk.symm))]
   · rw[if_neg hk]
     by_cases h:g=k
     · have hb:(g==k)=true:=beq_iff_eq.mpr h
       simp only[List.lookup,hb,if_neg (fun e:g=f=>hk (h.symm.trans e))]
     · have hb:(g==k)=false:=beq_eq_false_iff_ne.mpr h
       simp only[List.lookup,hb]
       exact ih
theorem i7 (f:Str) (v:V):∀ fs:List (Str×V),f∈(cP f v fs).map (·.1)∧∀ g,g∈fs.map (·.1)→g∈(cP f v fs).map (·.1)
 | []=>⟨by simp[cP],fun g h=>by simp at h⟩
 | (k,x)::r=>by
   obtain⟨i1,i2⟩:=i7 f v r
   rw[show cP f v ((k,x)::r)=(if k=f then(k,v)::r else(k,x)::cP f v r) from rfl]
   by_cases hk:k=f
   · rw[if_pos hk]
     subst hk
     exact⟨by simp,fun g h=>by simpa using h⟩
   · rw[if_neg hk]
     refine⟨?_,fun g h=>?_⟩
     · rw[List.map_cons]
       exact List.mem_cons_of_mem _ i1
     · rw[List.map_cons] at h ⊢
       rcases List.mem_cons.mp h with e | e
       · exact List.mem_cons.mpr (.inl e)
       · exact List.mem_cons_of_mem _ (i2 g e)
theorem jk (f:Str) (v:V):∀ fs:List (Str×V),(cP f v fs).length≤fs.length+1
 | []=>by simp[cP]
 | (k,x)::r=>by
   have ih:=jk f v r
   rw[show cP f v ((k,x)::r)=(if k=f then(k,v)::r else(k,x)::cP f v r) from rfl]
   by_cases hk:k=f
   · rw[if_pos hk,List.length_cons,List.length_cons];omega
   · rw[if_neg hk,List.length_cons,List.length_cons];omega

theorem gK.some_of {v:V}{o:Option Value}(r:gK (some v) o):∃ u,o=some u∧a8 v u:=by
 cases o with
 | none=>exact(show False from r).elim
 | some u=>exact⟨u,rfl,r⟩
theorem gK.none_of {o:Option Value}(r:gK none o):o=none:=by
 cases o with
 | none=>rfl
 | some u=>exact(show False from r).elim
theorem sH {v:V}{u:Value}(r:a8 v u):PySem.W.handedIn u=true:=by
 cases v with
 | non=>cases (show u=Value.none from r);rfl
 | bl b=>cases (show u=Value.bool b from r);rfl
 | int i=>obtain⟨t,e⟩:=(show ∃ t,u=Value.int i t from r);cases e;rfl
 | str x=>obtain⟨t,e⟩:=(show ∃ t,u=Value.str x t from r);cases e;rfl
 | byt b=>obtain⟨t,e⟩:=(show ∃ t,u=Value.bytes b t from r);cases e;rfl
 | flt b=>obtain⟨t,e⟩:=(show ∃ t,u=Value.float b t from r);cases e;rfl
 | ref a=>cases (show u=Value.ref a from r);rfl
 | ty n=>cases (show u=Value.type n from r);rfl

section
variable {P:Program}{w:World}{H H':Hp}{h h':Heap}{a C dx:Addr}{fs fs':List (Str×V)}
theorem jH (hok:HOk P w H h)(e:H a=some (.ins C dx fs)):∃ mA,qg h a dx C mA∧(∀ f,gK (fs.lookup f) (mA f))∧PySem.Within mA (fs.map (·.1))∧fs.length≤1000∧H dx=some (.own a):=by
 obtain⟨d,z,ne,ob,mA,n,r,q⟩:=(show bE P w H h a (.ins C dx fs) from hok a _ e)
 exact⟨mA,⟨ob,n,ne⟩,r,q,z,d⟩
end

/-! ### what of the text a class must have -/
structure Cls (K:PySem.W.Frag)(C:Addr):Prop where
 pg:PySem.W.plainGet K C Str.empty=true
 hd:PySem.W.hasDictIn K C=true
 po:PySem.W.plainOver K C=true
 sa:PySem.W.findIn K (.ref C) "__setattr__"=some (some (.builtin "object.__setattr__"))
theorem Cls.get {K:PySem.W.Frag}{C:Addr}(c:Cls K C) (f:Str):PySem.W.plainGet K C f=true:=c.pg
def bV (K:PySem.W.Frag)(C:Addr) (f:Str):Prop:=PySem.W.findIn K (.ref C) f=some none
theorem bV.taker {K:PySem.W.Frag}{C:Addr}{f:Str}(n:bV K C f):PySem.W.takerIn K C f=some none:=by
 unfold PySem.W.takerIn
 rw[show PySem.W.findIn K (.ref C) f=some none from n]
 rfl
structure bZ (K:PySem.W.Frag)(C:Addr) (m:Str)(f:Addr):Prop where
 at_:PySem.W.findIn K (.ref C) m=some (some (.ref f))
 fn:PySem.W.isFn K (.ref f)=true
 kp:PySem.W.keepIn K (.ref f)=true

section
variable {X:Cx}{pins:List (Addr×Obj)}{σ:St}{H:Hp}{s:Shared}{a C dx:Addr}{fs:List (Str×V)}{f:Str}{v:V}{A:Around}{E:Value→Shared→Prop}

theorem qz {b:Bool}{Q:Value→Shared→Prop}(I:Inv X pins σ H s)(e:H a=some (.ins C dx fs))(c:Cls X.K C)(n:bV X.K C f)(l:fs.lookup f=some v)
   (h:∀ u s',Inv X pins σ H s'→a8 v u→Q u s'):wpAny (model X.prog X.w) A (getAttr (.ref a) f b) Q E s:=by
 obtain⟨mA,O,r,_,_,_⟩:=jH I.hok e
 obtain⟨u,hu,ru⟩:=gK.some_of (v:=v) (o:=mA f) (by rw[←l];exact r f)
 exact vK I.kIn O (c.get f) c.hd n hu (sH ru) (h u _ (I.tok _) ru)

theorem g0 {m:Str}{g:Addr}{pl:Sem Bool}{Q:Value×List Value→Shared→Prop}(I:Inv X pins σ H s)(e:H a=some (.ins C dx fs))(c:Cls X.K C)(k:bZ X.K C m g)(l:fs.lookup m=none)
   (h:Q (.ref g,[.ref a]) s):wpAny (model X.prog X.w) A (getMethod (.ref a) m pl) Q E s:=by
 obtain⟨mA,O,r,_,_,_⟩:=jH I.hok e
 have hn:mA m=none:=gK.none_of (by rw[←l];exact r m)
 exact uJ I.kIn O (c.get m) k.at_ k.fn hn h

theorem pM {y:V}{u:Value}{Q:Unit→Shared→Prop}(I:Inv X pins σ H s)(e:H a=some (.ins C dx fs))(c:Cls X.K C)(n:bV X.K C f)(hl:fs.length < 1000)(ry:a8 y u)
   (h:∀ s',Inv X pins σ (upd H a (.ins C dx (cP f y fs))) s'→Q () s'):wpAny (model X.prog X.w) A (setAttr (.ref a) f u) Q E s:=by
 obtain⟨mA,O,r,wi,_,ho⟩:=jH I.hok e
 have hz:(fs.map (·.1)).length≤sizeLine:=by rw[List.length_map,sizeLine_eq];omega
 refine vY I.kIn O c.sa c.po n.taker c.hd wi hz fun h' O' sb=>h _ ?_
 have hd:∃ o,h'.get? dx=some o:=let ⟨o,_,_,e',_⟩:=O'.ns;⟨o,e'⟩
 refine I.write (x:=a) (e:=dx) (by rw[e];exact True.intro) (.inr ho) (fun b q hb z=>(sb.2 b hb).trans z) hd ?_
 refine⟨by rw[ai O.ne];exact ho,?_,O.ne,O'.obj,_,O'.ns,fun g=>?_,fun g hg=>?_⟩
 · have:=jk f y fs;omega
 · show gK ((cP f y fs).lookup g) (if g=f then some u else mA g)
   rw[jm]
   by_cases q:g=f
   · rw[if_pos q,if_pos q];exact ry
   · rw[if_neg q,if_neg q];exact r g
 · by_cases q:g=f
   · rw[q];exact(i7 f y fs).1
   · refine(i7 f y fs).2 g (wi g fun z=>hg ?_)
     show(if g=f then some u else mA g)=none
     rw[if_neg q];exact z

theorem Inv.made (I:Inv X pins σ H s):Inv X pins σ (upd (upd H s.heap.objs.size (.own (s.heap.objs.size+1))) (s.heap.objs.size+1) (.ins C s.heap.objs.size []))
   { s with heap:=(s.heap.push PySem.W.emptyDict).push (PySem.W.instObj C s.heap.objs.size) }:=by
 have e1:(s.heap.push PySem.W.emptyDict).get? s.heap.objs.size=some PySem.W.emptyDict:=Heap.get?_push_size s.heap rfl
 have e2:((s.heap.push PySem.W.emptyDict).push (PySem.W.instObj C s.heap.objs.size)).get? (s.heap.objs.size+1)=some (PySem.W.instObj C s.heap.objs.size):=by
   have:=Heap.get?_push_size (s.heap.push PySem.W.emptyDict) (o:=PySem.W.instObj C s.heap.objs.size) rfl
   rwa [Heap.size_push] at this
 have e3:(s.heap.push PySem.W.emptyDict).Ns s.heap.objs.size (fun _=>none):=⟨PySem.W.emptyDict,#[],_,e1,rfl,(fun e he=>absurd he (by simp)),fun _=>rfl⟩
 have I1:=I.laid (a:=s.heap.objs.size) (o:=.own (s.heap.objs.size+1)) (h':=s.heap.push PySem.W.emptyDict) (t':=s.toks) (fun b u q=>Heap.get?_push_of_some _ q) (Nat.le_refl _) ⟨_,e1⟩
 refine I1.laid (a:=s.heap.objs.size+1) (o:=.ins C s.heap.objs.size []) (t':=s.toks) (fun b u q=>Heap.get?_push_of_some _ q) (Nat.le_of_eq (Heap.size_push _ _)) ?_
 have ne:s.heap.objs.size≠s.heap.objs.size+1:=Nat.ne_of_lt (Nat.lt_succ_self _)
 refine⟨by rw[ai ne,ac],Nat.zero_le _,ne,e2,fun _=>none,(Heap.Ns1.of_empty e3).at fun o q=>Heap.get?_push_of_some _ q,fun _=>True.intro,fun y hy=>absurd rfl hy⟩

theorem wo {prog:Program}{w:World}{env:Env}{e:Expr}{f:Str}{pos:Pos}{s:Shared}{Q:Value→Shared→Prop}(hb:attributeBase e f env (eval e env)=eval e env)
   (h:wpAny (model prog w) A (eval e env) (fun o s₁=>wpAny (model prog w) A (getAttr o f true) Q E s₁) E s):wpAny (model prog w) A (eval (.Attribute e f pos) env) Q E s :=
 Attribute_any_ h (by rw[arm_eval_Attribute,hb])
end

/-! ### readings and rules -/
def x3 (K:PySem.W.Frag)(ta:TE) (f:Str):TE:=fun σ H Q=>ta σ H fun x H1=>∃ a C dx fs v,x=.ref a∧H1 a=some (.ins C dx fs)∧Cls K C∧bV K C f∧fs.lookup f=some v∧Q v H1
def yN (K:PySem.W.Frag)(ta tv:TE) (f:Str):TS:=fun D σ H=>tv σ H fun y H1=>ta σ H1 fun x H2=>∃ a C dx fs,x=.ref a∧H2 a=some (.ins C dx fs)∧Cls K C∧bV K C f∧fs.length < 1000 ∧
 D.nx σ (upd H2 a (.ins C dx (cP f y fs)))
section
variable {X:Cx}{o e value:Expr}{f:Str}{pos pos' tpos:Pos}{ta tv:TE}
theorem cb (he:PE X e ta)(hb:attributeBase e f X.env (eval e X.env)=eval e X.env):PE X (.Attribute e f pos) (x3 X.K ta f):=by
 intro pins s σ H Q I h
 refine wo hb (thn (he s σ H _ I h) fun u s1 ⟨x,H1,I1,rx,a,C,dx,fs,v,ex,ea,c,n,l,q⟩=>?_)
 subst ex
 obtain rfl:u=Value.ref a:=rx
 exact qz I1 ea c n l fun u' s2 I2 ru=>⟨v,H1,I2,ru,q⟩
theorem gW (ha:PE X o ta)(hv:PE X value tv)(hs:swapsWith value (some (.Attribute o f pos')) pos.line X.env=pure false):PS X (.Assign [.Attribute o f pos'] value pos) (yN X.K ta tv f):=by
 intro pins s σ H D I h
 refine plainObj_wpAny_Assign_Attribute (thn (hv s σ H _ I h) fun u s1 ⟨y,H1,I1,ry,q⟩=>thn (ha s1 σ H1 _ I1 q) fun ov s2 ⟨x,H2,I2,rx,a,C,dx,fs,ex,ea,c,n,l,q2⟩=>?_) hs
 subst ex
 obtain rfl:ov=Value.ref a:=rx
 exact pM I2 ea c n l ry fun s3 I3=>⟨σ,_,I3,q2⟩
theorem xf {pl:Sem Bool}{m:Str}{apos:Pos}{args:List Expr}{pins:List (Addr×Obj)}{s:Shared}{σ:St}{H:Hp}{Q:Value→Shared→Prop}{te:TE}(he:PE X e te)(I:Inv X pins σ H s)
   (h:te σ H fun x H1=>∃ a C dx fs g,x=.ref a∧H1 a=some (.ins C dx fs)∧Cls X.K C∧bZ X.K C m g∧fs.lookup m=none ∧
     ∀ s1,Inv X pins σ H1 s1→wpAny (model X.prog X.w) X.A (callWith pos (.ref g) [.ref a] (backTo pos (starEach args X.env)) (backToKw pos (keywordEach [] X.env))) Q X.xe s1)
   (ht:eval (.Call (.Attribute e m apos) args [] pos) X.env=(do
     let ov ←eval e X.env
     standAt apos.atName
     let (f,first) ←holding [ov] (getMethod ov m pl)
     callWith pos f first (backTo pos (starEach args X.env)) (backToKw pos (keywordEach [] X.env)))) :
   wpAny (model X.prog X.w) X.A (eval (.Call (.Attribute e m apos) args [] pos) X.env) Q X.xe s:=by
 refine PySem.W.methodCall_KW (pl:=pl) (thn (he s σ H _ I h) fun u s1 ⟨x,H1,I1,rx,a,C,dx,fs,g,ex,ea,c,k,l,q⟩=>?_) ht
 subst ex
 obtain rfl:u=Value.ref a:=rx
 exact g0 I1 ea c k l (q s1 I1)
end

/-! ### isinstance -/
section
variable {X:Cx}{pins:List (Addr×Obj)}{σ:St}{H:Hp}{s:Shared}{A:Around}{E:Value→Shared→Prop}{Q:Value→Shared→Prop}{c:Value}{b:Bool}
inductive e6 (K:PySem.W.Frag)(H:Hp):V→Value→Prop where
 | non:e6 K H .non (.type "NoneType")
 | bl (x:Bool):e6 K H (.bl x) (.type "bool")
 | int (i:Int):e6 K H (.int i) (.type "int")
 | str (x:Str):e6 K H (.str x) (.type "str")
 | flt (x:UInt64):e6 K H (.flt x) (.type "float")
 | lst {a:Addr}{xs:List V}(e:H a=some (.lst xs)):e6 K H (.ref a) (.type "list")
 | frz {a:Addr}{o:Obj}{xs:List V}(e:H a=some (.frz o (.lst xs))):e6 K H (.ref a) (.type "list")
 | tup {a:Addr}{xs:List V}(e:H a=some (.tup xs)):e6 K H (.ref a) (.type "tuple")
 | dK {a:Addr}{kvs:List (Key×V)}(e:H a=some (.dK kvs)):e6 K H (.ref a) (.type "dict")
 | dT {a:Addr}{kvs:List (List Key×V)}(e:H a=some (.dT kvs)):e6 K H (.ref a) (.type "dict")
 | ins {a C dx:Addr}{fs:List (Str×V)}(e:H a=some (.ins C dx fs))(cl:Cls K C)(ha:PySem.W.findIn K (.ref C) "__class__"=some (some (.builtin "object.__class__")))
     (hn:PySem.W.specialIn K (.builtin "object.__class__") "__get__"=some (some (.builtin "getset_descriptor.__get__")))(htk:PySem.W.takesIn K (.builtin "object.__class__")=some true)
     (hm:PySem.W.mroIn K C (.type "object")=some true):e6 K H (.ref a) (.ref C)
theorem tG {x:V}{u t:Value}(I:Inv X pins σ H s)(rx:a8 x u)(ty:e6 X.K H x t)(e:PySem.W.kitOne X.K t c=some b)(h:∀ tk,Q (.bool b) { s with toks:=tk }) :
   wpAny (model X.prog X.w) A (call (.builtin "isinstance") [u,c]) Q E s:=by
 cases ty with
 | non=>cases (show u=Value.none from rx);exact PySem.W.kia_one PySem.W.kitx_none I.kIn True.intro e (fun z=>nomatch z) h
 | bl y=>cases (show u=Value.bool y from rx);exact PySem.W.kia_one PySem.W.kitx_bool I.kIn True.intro e (fun z=>nomatch z) h
 | int i=>obtain⟨t,q⟩:=(show ∃ t,u=Value.int i t from rx);cases q;exact PySem.W.kia_one PySem.W.kitx_int I.kIn True.intro e (fun z=>nomatch z) h
 | str y=>obtain⟨t,q⟩:=(show ∃ t,u=Value.str y t from rx);cases q;exact PySem.W.kia_one PySem.W.kitx_str I.kIn True.intro e (fun z=>nomatch z) h
 | flt y=>obtain⟨t,q⟩:=(show ∃ t,u=Value.float y t from rx);cases q;exact PySem.W.kia_one PySem.W.kitx_float I.kIn True.intro e (fun z=>nomatch z) h
 | @lst a xs ea =>
   cases (show u=Value.ref a from rx)
   obtain⟨_,_,n,_,h1⟩:=(show bE X.prog X.w H s.heap a (.lst xs) from I.hok a _ ea)
   exact PySem.W.kia_one PySem.W.kitx_list I.kIn ⟨_,h1,rfl⟩ e (fun z=>nomatch z) h
 | @frz a ob xs ea =>
   cases (show u=Value.ref a from rx)
   obtain⟨_,_,_,n,_,h1⟩:=(show bE X.prog X.w H s.heap a (.frz ob (.lst xs)) from I.hok a _ ea)
   exact PySem.W.kia_one PySem.W.kitx_list I.kIn ⟨_,h1,rfl⟩ e (fun z=>nomatch z) h
 | @tup a xs ea =>
   cases (show u=Value.ref a from rx)
   obtain⟨_,_,_,p⟩:=(show bE X.prog X.w H s.heap a (.tup xs) from I.hok a _ ea)
   obtain⟨o,h1,h2,_⟩:=p
   exact PySem.W.kia_one PySem.W.kitx_tuple I.kIn ⟨o,h1,h2⟩ e (fun z=>nomatch z) h
 | @dK a kvs ea =>
   cases (show u=Value.ref a from rx)
   obtain⟨_,_,vs,_,p⟩:=(show bE X.prog X.w H s.heap a (.dK kvs) from I.hok a _ ea)
   obtain⟨o,es,ep,h1,h2,_⟩:=p
   exact PySem.W.kia_one PySem.W.kitx_dict I.kIn ⟨o,h1,h2.1⟩ e (fun z=>nomatch z) h
 | @dT a kvs ea =>
   cases (show u=Value.ref a from rx)
   obtain⟨_,_,xs,_,o,es,ep,h1,h2,_⟩:=(show bE X.prog X.w H s.heap a (.dT kvs) from I.hok a _ ea)
   exact PySem.W.kia_one PySem.W.kitx_dict I.kIn ⟨o,h1,h2.1⟩ e (fun z=>nomatch z) h
 | @ins a C dx fs ea cl ha hn htk hm =>
   cases (show u=Value.ref a from rx)
   obtain⟨mA,O,_⟩:=jH I.hok ea
   obtain⟨od,J,_⟩:=O.look
   exact PySem.W.kia_one (PySem.W.kitx_own (cl.get _) cl.hd ha hn htk hm) I.kIn J e (fun z=>nomatch z) h
end
end L2

namespace L2
open PySem PySem.Spec PyProof.Rows

/-! ### room -/
structure dN (k:Nat)(A:Around):Prop where
 hd:A.handled=none
 dp:A.depth+3*k+5 < recursionLimit
 un:A.units+16*k+200 < cLine
theorem dN.mono {j k:Nat}{A:Around}(r:dN k A)(h:j≤k):dN j A:=⟨r.hd,by have:=r.dp;omega,by have:=r.un;omega⟩
theorem dN.deeper {k:Nat}{A:Around}(r:dN (k+1) A)(env:Env):dN k (A.deeper env) :=
 ⟨r.hd,by have:=r.dp;show A.depth+1+3*k+5 < _;omega,by have:=r.un;show A.units+3+16*k+200 < _;omega⟩
theorem pC {A:Around}{C:Addr}{us:List Value}{kw:List (Str×Value)}:(A.under (.builtin "type.__call__" ⟨.ref C::us,kw⟩)).depth=A.depth+1:=by
 first | rfl | simp[Around.under,Code.weight,Code.isCreation,Code.isGuard,Code.isCaller,Code.frames,Code.isFrame,guardIds]
theorem qF {A:Around}{C:Addr}{us:List Value}{kw:List (Str×Value)}:(A.under (.builtin "type.__call__" ⟨.ref C::us,kw⟩)).units=A.units+1:=by
 first | rfl | simp[Around.under,Code.cUnits,Code.frames,Code.isFrame]
theorem dN.make {k:Nat}{A:Around}(r:dN (k+1) A)(C:Addr)(us:List Value)(kw:List (Str×Value)):dN k (A.under (.builtin "type.__call__" ⟨.ref C::us,kw⟩)) :=
 ⟨r.hd,by have:=r.dp;rw[pC];omega,by have:=r.un;rw[qF];omega⟩
theorem dN.depth {k:Nat}{A:Around}(r:dN k A):A.depth < recursionLimit:=by have:=r.dp;omega
theorem dN.units {k:Nat}{A:Around}(r:dN k A):A.units+64 < cLine:=by have:=r.un;omega
/-! ### argument lists and displays -/
def pD:TA:=fun _ H Q=>Q [] H
def cV (ta:TE)(tr:TA):TA:=fun σ H Q=>ta σ H fun x H1=>tr σ H1 fun xs H2=>Q (x::xs) H2
section
variable {X:Cx}{e:Expr}{es:List Expr}{te:TE}{t:TA}{pos:Pos}
theorem ad:PA X [] pD:=fun _ _ _ _ H Q I h=>Calls.spliced_nil ⟨[],H,I,.nil,h⟩
theorem aa (ha:PE X e te)(hr:PA X es t)(hs:starEach (e::es) X.env=(false,eval e X.env)::starEach es X.env:=by rfl):PA X (e::es) (cV te t):=by
 intro pins pos s σ H Q I h
 rw[hs]
 show wpAny _ _ (spliced ((false,eval e X.env)::backTo pos (starEach es X.env))) _ _ s
 refine Calls.spliced_cons (thn (ha s σ H _ I h) fun u s1 ⟨x,H1,I1,r1,q1⟩=>?_)
 exact thn (hr pos s1 σ H1 _ I1 q1) fun us s2 ⟨xs,H2,I2,r2,q2⟩=>⟨x::xs,H2,I2,.cons r1 r2,q2⟩

def xx (t:TA):TE:=fun σ H Q=>t σ H fun xs H1=>xs.length≤sizeLine∧∀ p,H1 p=none→Q (.ref p) (upd H1 p (.tup xs))
def yz (t:TA):TE:=fun σ H Q=>t σ H fun xs H1=>xs.length≤sizeLine∧∀ p,H1 p=none→Q (.ref p) (upd H1 p (.lst xs))
theorem de {x1}(h:PA X es t):PE X (.Tuple es x1 pos) (xx t):=by
 intro pins s σ H Q I hq
 refine wpAny_Tuple_spliced (thn (h pos s σ H _ I hq) fun us s1 ⟨xs,H1,I1,r,z,q⟩=>⟨by rw[←r.length];exact z,?_⟩)
 have hf:H1 s1.heap.objs.size=none:=I1.hok.fresh (Nat.le_refl _)
 refine⟨.ref s1.heap.objs.size,upd H1 s1.heap.objs.size (.tup xs),I1.laid (t':=s1.toks) (fun b u e=>Heap.get?_push_of_some _ e) (Nat.le_refl _) ?_,rfl,q _ hf⟩
 exact⟨z,us,r,⟨_,Heap.get?_push_size _ rfl,rfl,_,rfl⟩⟩
theorem bp (h:PA X es t):PE X (.List es pos) (yz t):=by
 intro pins s σ H Q I hq
 refine wpAny_List_spliced (thn (h pos s σ H _ I hq) fun us s1 ⟨xs,H1,I1,r,z,q⟩=>⟨by rw[←r.length];exact z,?_⟩)
 have hf:H1 s1.heap.objs.size=none:=I1.hok.fresh (Nat.le_refl _)
 refine⟨.ref s1.heap.objs.size,upd H1 s1.heap.objs.size (.lst xs),I1.laid (t':=s1.toks) (fun b u e=>Heap.get?_push_of_some _ e) (Nat.le_refl _) ?_,rfl,q _ hf⟩
 exact⟨z,us,0,r,Heap.get?_push_size _ rfl⟩
end

/-! ### what a def promises -/
abbrev Sp:=List V→Hp→VK→XK→Prop
abbrev CXT:=List Env→Hp→Shared→XK→Value→Shared→Prop

structure qE (P:Program)(w:World)(K:PySem.W.Frag)(mg:Str→Option Value)(base:Heap)(A:Around)(outer:List Env)(s:Shared)(H:Hp):Prop where
 frames:A.frames=some outer
 mod:Mod K mg base
 bs:∀ b o,base.get? b=some o→s.heap.get? b=some o∧H b=none
 bsz:base.objs.size≤s.heap.objs.size
 funs:s.heap.FunFrames base outer
 frf:∀ b∈frs outer,H b=none
 hok:HOk P w H s.heap
 bare:AllBare s.gens
def CE (outer:List Env)(P:Program)(w:World)(H:Hp)(s:Shared)(Q:VK) (u:Value)(s':Shared):Prop :=
 ∃ v H',s'.os=s.os∧AllBare s'.gens∧Un (frs outer) [] H H' s.heap s'.heap∧HOk P w H' s'.heap∧a8 v u∧Q v H'
def CR (CX:CXT)(outer:List Env)(P:Program)(w:World)(H:Hp)(s:Shared)(Q:VK)(E:XK)(r:Result)(s':Shared):Prop :=
 match r with
 | .ok (.ret u)=>CE outer P w H s Q u s'
 | .ok _=>False
 | .error e=>CX outer H s E e s'
structure aw (P:Program)(w:World)(K:PySem.W.Frag)(mg:Str→Option Value)(base:Heap)(CX:CXT) (k:Nat)(f:Addr)(fd:FuncData)(ps:List Str)(sp:Sp):Prop where
 len:∀ vs H Q E,sp vs H Q E→vs.length=ps.length
 run:∀ (A:Around)(outer:List Env)(s:Shared)(H:Hp)(args:Args)(us:List Value)(vs:List V)(Q:VK)(E:XK),dN k A→qE P w K mg base A outer s H→BindsTo s fd args (ps.zip us)→Vals vs us→sp vs H Q E →
   codeAny (model P w) A (.call (.ref f) args) (CR CX outer P w H s Q E) s
theorem qE.make {P:Program}{w:World}{K:PySem.W.Frag}{mg:Str→Option Value}{base:Heap}{A:Around}{outer:List Env}{s:Shared}{H:Hp}(e:qE P w K mg base A outer s H)(C:Addr)(us:List Value)(kw:List (Str×Value)) :
 qE P w K mg base (A.under (.builtin "type.__call__" ⟨.ref C::us,kw⟩)) outer s H:=⟨by first | exact e.frames | (simpa [Around.under,Code.envs,Code.isFrame,pushEnvs] using e.frames),e.mod,e.bs,e.bsz,e.funs,e.frf,e.hok,e.bare⟩
section
variable {X:Cx}{pins:List (Addr×Obj)}{σ:St}{H:Hp}{s s':Shared}
theorem Inv.env0 (I:Inv X pins σ H s):qE X.prog X.w X.K X.mg X.base X.A X.stack s H :=
 ⟨I.ok.frames,I.ok.mod,I.bs,Nat.le_trans I.ok.bsz I.sz,I.stack,I.stkFree,I.hok,I.bare⟩
theorem Inv.after {Q:VK}{u:Value}(I:Inv X pins σ H s)(h:CE X.stack X.prog X.w H s Q u s'):EP X pins σ Q u s':=by
 obtain⟨v,H',os,bare,un,hok,r,q⟩:=h
 obtain⟨hh,g,d,t,os'⟩:=s'
 obtain rfl:os'=s.os:=os
 exact⟨v,H',I.call (h':=hh) (g':=g) (d':=d) (t':=t) (ch:=[]) un hok bare (fun b z=>absurd z (by simp)),r,q⟩
end

/-! ### calls -/
def wP (sp:Sp)(dvs:List V)(E:XK)(t:TA):TE:=fun σ H Q=>t σ H fun vs H1=>sp (vs++dvs) H1 Q E
def tU (C:Addr) (m:Str)(sp:Sp)(dvs:List V)(E:XK)(ta:TE)(t:TA):TE:=fun σ H Q=>ta σ H fun x H1=>∃ a dx fs,x=.ref a∧H1 a=some (.ins C dx fs)∧fs.lookup m=none ∧
 t σ H1 fun vs H2=>sp (x::(vs++dvs)) H2 Q E
def w6 (C:Addr)(sp:Sp)(dvs:List V)(E:XK)(t:TA):TE:=fun σ H Q=>t σ H fun vs H1=>∀ x dx,H1 x=none→H1 dx=none→dx≠x →
 sp (.ref x::(vs++dvs)) (upd (upd H1 dx (.own x)) x (.ins C dx [])) (fun v H2=>v=.non∧Q (.ref x) H2) E

def az (K:PySem.W.Frag)(fd:FuncData)(ps:List Str)(ds:List Value):Prop :=
 ∀ (s:Shared)(us:List Value),K.In s.heap→(us++ds).length=ps.length→BindsTo s fd ⟨us,[]⟩ (ps.zip (us++ds))
theorem az.all {K:PySem.W.Frag}{fd:FuncData}{ps:List Str}(h:∀ us:List Value,us.length=ps.length→bindArgs fd ⟨us,[]⟩=pure (ps.zip us)):az K fd ps []:=fun s us _ hl=>by
 rw[List.append_nil] at hl ⊢
 exact .of_eq (h us hl)

def fQ (CX:CXT)(X:Cx)(E:XK):Prop:=∀ (pins:List (Addr×Obj)) (σ:St)(H:Hp)(s:Shared) (e:Value)(s':Shared),Inv X pins σ H s→CX X.stack H s E e s'→X.xe e s'

section
variable {X:Cx}{CX:CXT}{k:Nat}{f C:Addr}{fd:FuncData}{ps:List Str}{sp:Sp}{dvs:List V}{ds:List Value}{E:XK}{x m:Str}{p pos apos:Pos}{e o:Expr}{es:List Expr}{ta:TE}{t:TA}

theorem pK {pins:List (Addr×Obj)}{σ:St}{H:Hp}{s:Shared}{Q:VK}{us:List Value}{vs:List V}(F:aw X.prog X.w X.K X.mg X.base CX k f fd ps sp)(hr:dN k X.A)(hb:az X.K fd ps ds)(hd:Vals dvs ds)(hx:fQ CX X E)
   (I:Inv X pins σ H s)(r:Vals vs us)(h:sp (vs++dvs) H Q E):wpAny (model X.prog X.w) X.A (call (.ref f) us) (EP X pins σ Q) X.xe s:=by
 have r2:Vals (vs++dvs) (us++ds):=r.append hd
 have hl:(us++ds).length=ps.length:=by rw[←r2.length];exact F.len _ _ _ _ h
 refine wpAny_call (codeAny_mono (F.run X.A X.stack s H ⟨us,[]⟩ (us++ds) (vs++dvs) Q E hr I.env0 (hb s us I.kIn hl) r2 h) fun r s' hq=>?_)
 cases r with
 | error e=>exact hx pins σ H s e s' I hq
 | ok fl =>
   cases fl with
   | ret u=>exact I.after hq
   | next=>exact False.elim hq
   | brk=>exact False.elim hq
   | cont=>exact False.elim hq

theorem aq (F:aw X.prog X.w X.K X.mg X.base CX k f fd ps sp)(hr:dN k X.A)(hg:Gl X x)(hm:X.mg x=some (.ref f))(hk:PySem.W.keepIn X.K (.ref f)=true)(hb:az X.K fd ps ds)(hd:Vals dvs ds)(hx:fQ CX X E)
   (ha:PA X (e::es) t)(hdb:(x==("__debug__":Str))=false:=by decide)(he:starEach (e::es) X.env=(false,eval e X.env)::starEach es X.env:=by rfl)(hpl:(backTo pos (starEach es X.env)).any (·.1)=false:=by rfl) :
   PE X (.Call (.Name x p) (e::es) [] pos) (wP sp dvs E t):=by
 intro pins s σ H Q I h
 refine wpAny_Call_Name_kw (jL I hg hm ?_ hdb)
 refine PySem.W.callWith_K (h₀:=X.base) I.ok.mod.kin hk (thn (ha pos s σ H _ I h) fun us s1 ⟨vs,H1,I1,r,q⟩=>⟨I1.kIn,?_⟩) he hpl
 exact pK F hr hb hd hx I1 r q
theorem br {pl:Sem Bool}(he:PE X o ta)(c:Cls X.K C)(hm:bZ X.K C m f)(F:aw X.prog X.w X.K X.mg X.base CX k f fd ps sp)(hr:dN k X.A)(hb:az X.K fd ps ds)(hd:Vals dvs ds)(hx:fQ CX X E)(ha:PA X (e::es) t)
   (hst:starEach (e::es) X.env=(false,eval e X.env)::starEach es X.env:=by rfl)(hpl:(backTo pos (starEach es X.env)).any (·.1)=false:=by rfl)
   (ht:eval (.Call (.Attribute o m apos) (e::es) [] pos) X.env=(do
     let ov ←eval o X.env
     standAt apos.atName
     let (f,first) ←holding [ov] (getMethod ov m pl)
     callWith pos f first (backTo pos (starEach (e::es) X.env)) (backToKw pos (keywordEach [] X.env))):=by rfl) :
   PE X (.Call (.Attribute o m apos) (e::es) [] pos) (tU C m sp dvs E ta t):=by
 intro pins s σ H Q I h
 refine PySem.W.methodCall_KW (pl:=pl) (thn (he s σ H _ I h) fun u s1 ⟨x,H1,I1,rx,a,dx,fs,ex,ea,l,q⟩=>?_) ht
 subst ex
 obtain rfl:u=Value.ref a:=rx
 refine g0 I1 ea c hm l ?_
 refine PySem.W.callWith_K (first:=[.ref a]) (h₀:=X.base) I.ok.mod.kin hm.kp (thn (ha pos s1 σ H1 _ I1 q) fun us s2 ⟨vs,H2,I2,r,q2⟩=>⟨I2.kIn,?_⟩) hst hpl
 exact pK (us:=.ref a::us) (vs:=.ref a::vs) F hr hb hd hx I2 (.cons rfl r) q2
theorem eE {pl:Sem Bool}(he:PE X o ta)(c:Cls X.K C)(hm:bZ X.K C m f)(F:aw X.prog X.w X.K X.mg X.base CX k f fd ps sp)(hr:dN k X.A)(hb:az X.K fd ps ds)(hd:Vals dvs ds)(hx:fQ CX X E)
   (ht:eval (.Call (.Attribute o m apos) [] [] pos) X.env=(do
     let ov ←eval o X.env
     standAt apos.atName
     let (f,first) ←holding [ov] (getMethod ov m pl)
     callWith pos f first (backTo pos (starEach [] X.env)) (backToKw pos (keywordEach [] X.env))):=by rfl) :
   PE X (.Call (.Attribute o m apos) [] [] pos) (tU C m sp dvs E ta pD):=by
 intro pins s σ H Q I h
 refine PySem.W.methodCall_KW (pl:=pl) (thn (he s σ H _ I h) fun u s1 ⟨x,H1,I1,rx,a,dx,fs,ex,ea,l,q⟩=>?_) ht
 subst ex
 obtain rfl:u=Value.ref a:=rx
 refine g0 I1 ea c hm l ?_
 exact PySem.W.callWith_K0 (first:=[.ref a]) I1.kIn hm.kp (pK (us:=[.ref a]) (vs:=[.ref a]) F hr hb hd hx I1 (.cons rfl .nil) q)

structure Mk (K:PySem.W.Frag)(C f:Addr):Prop where
 makes:PySem.W.makesIn K C=true
 init:PySem.W.findIn K (.ref C) "__init__"=some (some (.ref f))
 fn:PySem.W.isFn K (.ref f)=true
 kp:PySem.W.keepIn K (.ref C)=true

theorem vi {pins:List (Addr×Obj)}{σ:St}{H:Hp}{s:Shared}{Q:VK}{us:List Value}{vs:List V}(M:Mk X.K C f)(F:aw X.prog X.w X.K X.mg X.base CX k f fd ps sp)(hr:dN (k+1) X.A)(hb:az X.K fd ps ds)(hd:Vals dvs ds)
   (hx:fQ CX X E)(I:Inv X pins σ H s)(r:Vals vs us)
   (h:∀ x dx,H x=none→H dx=none→dx≠x→sp (.ref x::(vs++dvs)) (upd (upd H dx (.own x)) x (.ins C dx [])) (fun v H2=>v=.non∧Q (.ref x) H2) E) :
   wpAny (model X.prog X.w) X.A (call (.ref C) us) (EP X pins σ Q) X.xe s:=by
 have hq:=h (s.heap.objs.size+1) s.heap.objs.size (I.hok.fresh (Nat.le_succ _)) (I.hok.fresh (Nat.le_refl _)) (Nat.ne_of_lt (Nat.lt_succ_self _))
 have I2:=Inv.made (C:=C) I
 have r2:Vals (V.ref (s.heap.objs.size+1)::(vs++dvs)) (Value.ref (s.heap.objs.size+1)::(us++ds)):=.cons rfl (r.append hd)
 have hl:(Value.ref (s.heap.objs.size+1)::us++ds).length=ps.length:=by
   have e:=r2.length
   rw[F.len _ _ _ _ hq] at e
   exact e.symm
 refine wpAny_call (va (f:=f) I.kIn M.makes M.init (beq_iff_eq.mp M.fn) (codeAny_mono (F.run _ X.stack _ _ ⟨Value.ref (s.heap.objs.size+1)::us,[]⟩ (Value.ref (s.heap.objs.size+1)::(us++ds)) _ _ E (hr.make C us [])
   (I2.env0.make C us []) (hb _ (Value.ref (s.heap.objs.size+1)::us) I2.kIn hl) r2 hq) fun r s' hq'=>?_))
 cases r with
 | error e=>exact hx pins σ _ _ e s' I2 hq'
 | ok fl =>
   cases fl with
   | ret u =>
     obtain⟨v,H',I3,rv,ev,q3⟩:=I2.after hq'
     subst ev
     exact⟨rv,⟨V.ref (s.heap.objs.size+1),H',I3,rfl,q3⟩⟩
   | next=>exact False.elim hq'
   | brk=>exact False.elim hq'
   | cont=>exact False.elim hq'
theorem jM (M:Mk X.K C f)(F:aw X.prog X.w X.K X.mg X.base CX k f fd ps sp)(hr:dN (k+1) X.A)(hg:Gl X x)(hm:X.mg x=some (.ref C))(hb:az X.K fd ps ds)(hd:Vals dvs ds)(hx:fQ CX X E)
   (ha:PA X (e::es) t)(hdb:(x==("__debug__":Str))=false:=by decide)(he:starEach (e::es) X.env=(false,eval e X.env)::starEach es X.env:=by rfl)(hpl:(backTo pos (starEach es X.env)).any (·.1)=false:=by rfl) :
   PE X (.Call (.Name x p) (e::es) [] pos) (w6 C sp dvs E t):=by
 intro pins s σ H Q I h
 refine wpAny_Call_Name_kw (jL I hg hm ?_ hdb)
 refine PySem.W.callWith_K (h₀:=X.base) I.ok.mod.kin M.kp (thn (ha pos s σ H _ I h) fun us s1 ⟨vs,H1,I1,r,q⟩=>⟨I1.kIn,?_⟩) he hpl
 exact vi M F hr hb hd hx I1 r q
end

/-! ### keywords -/
section
variable {X:Cx}{CX:CXT}{k:Nat}{f C:Addr}{fd:FuncData}{ps ks:List Str}{sp:Sp}{E:XK}{x m:Str}{p pos apos kpos:Pos}{e o:Expr}{es:List Expr}{kws:List Keyword}{te ta:TE}{t tk:TA}{nm:Option Str}
variable {g:List Value→List Value→List Value}{gV:List V→List V→List V}
end

/-! ### a def's body keeps its promise -/
structure au (N P:List Str)(sc:Scope):Prop where
 kind:sc.kind=.function
 co:sc.isCoroutine=false
 gen:sc.isGenerator=false
 nd:N.Nodup
 pre:N.take P.length=P
 par:∀ x∈P,sc.names.lookup x=some .local∨sc.names.lookup x=some .cell
 nofree:∀ y∈sc.names,y.2≠.free

theorem lZ {kindOf:Str→Option NameKind}{x:Str}:∀ {binds:List (Str×Value)}{m:Str→Option Value},(∀ v,(x,v)∉binds)→bindL kindOf binds m x=m x
 | [],_,_=>rfl
 | (n,v)::r,m,h=>by
   unfold bindL
   rw[lZ fun w hw=>h w (List.mem_cons_of_mem _ hw)]
   split
   · have:x≠n:=by rintro rfl;exact h v List.mem_cons_self
     simp[this]
   · rfl
theorem ma {kindOf:Str→Option NameKind}{x:Str}:∀ {binds:List (Str×Value)}{m:Str→Option Value},(∀ v,(x,v)∉binds)→bindC kindOf binds m x=m x
 | [],_,_=>rfl
 | (n,v)::r,m,h=>by
   unfold bindC
   rw[ma fun w hw=>h w (List.mem_cons_of_mem _ hw)]
   split
   · rfl
   · have:x≠n:=by rintro rfl;exact h v List.mem_cons_self
     simp[this]
theorem lQ {kindOf:Str→Option NameKind}{x:Str}{v:Value}:∀ {P:List Str}{vs:List Value}{i:Nat}{m:Str→Option Value},P.Nodup→P[i]?=some x→vs[i]?=some v→kindOf x=some .local →
   bindL kindOf (P.zip vs) m x=some v
 | [],_,_,_,_,h,_,_=>by simp at h
 | _::_,[],_,_,_,_,h,_=>by simp at h
 | p::P,w::vs,0,m,nd,h1,h2,hk=>by
   simp at h1 h2;subst h1;subst h2
   show bindL kindOf ((p,w)::P.zip vs) m p=_
   unfold bindL
   rw[lZ fun v hv=>(List.nodup_cons.mp nd).1 (List.of_mem_zip hv).1,if_pos hk]
   simp
 | p::P,w::vs,i+1,m,nd,h1,h2,hk=>by
   show bindL kindOf ((p,w)::P.zip vs) m x=_
   unfold bindL
   exact lQ (i:=i) (List.nodup_cons.mp nd).2 (by simpa using h1) (by simpa using h2) hk
theorem lF {kindOf:Str→Option NameKind}{x:Str}{v:Value}:∀ {P:List Str}{vs:List Value}{i:Nat}{m:Str→Option Value},P.Nodup→P[i]?=some x→vs[i]?=some v→kindOf x≠some .local →
   bindC kindOf (P.zip vs) m x=some v
 | [],_,_,_,_,h,_,_=>by simp at h
 | _::_,[],_,_,_,_,h,_=>by simp at h
 | p::P,w::vs,0,m,nd,h1,h2,hk=>by
   simp at h1 h2;subst h1;subst h2
   show bindC kindOf ((p,w)::P.zip vs) m p=_
   unfold bindC
   rw[ma fun v hv=>(List.nodup_cons.mp nd).1 (List.of_mem_zip hv).1,if_neg hk]
   simp
 | p::P,w::vs,i+1,m,nd,h1,h2,hk=>by
   show bindC kindOf ((p,w)::P.zip vs) m x=_
   unfold bindC
   exact lF (i:=i) (List.nodup_cons.mp nd).2 (by simpa using h1) (by simpa using h2) hk

def start (N:List Str)(vs:List V):St:=vs.map some++List.replicate (N.length - vs.length) none

def cr (CX:CXT)(P:Program)(w:World)(K:PySem.W.Frag)(mg:Str→Option Value)(base:Heap)(N:List Str) (qual:Str)(scope:Scope)(f:Addr) (cd:Value)(A:Around)(outer:List Env)(s:Shared)(H:Hp)(E:XK):Cx where
 prog:=P
 w:=w
 K:=K
 mg:=mg
 base:=base
 A:=A.deeper (envOfC qual scope s.heap.objs.size f cd)
 N:=N
 s₀:=s
 H₀:=H
 env:=envOfC qual scope s.heap.objs.size f cd
 outer:=outer
 stack:=envOfC qual scope s.heap.objs.size f cd::outer
 ex:=[]
 calm:=true
 fn:=fun _=>true
 pn:=[]
 xe:=fun e s'=>wpAny (model P w) (A.deeper (envOfC qual scope s.heap.objs.size f cd)) (leaving (envOfC qual scope s.heap.objs.size f cd) e) (fun _ s''=>CX outer H s E e s'') (fun e' s''=>CX outer H s E e' s'') s'

theorem oE {sc:Scope}{n:Nat}{x:Str}(h:sc.names.lookup x=some .cell):∃ c,(cellsFrom n sc.names []).lookup x=some c:=by
 have q:=PySem.W.cellsFrom_some sc.names n [] (.inl h)
 exact Option.isSome_iff_exists.mp q

theorem sQ {CX:CXT}{P:Program}{w:World}{K:PySem.W.Frag}{mg:Str→Option Value}{base:Heap}{N ps:List Str}{qual:Str}{scope:Scope}{f:Addr}{cd:Value}{A:Around}{outer:List Env}{s s1:Shared}{H:Hp}{E:XK}{us:List Value}{vs:List V}
   (S:au N ps scope)(hd:A.handled=none)(e0:qE P w K mg base A outer s H)(hl:vs.length=ps.length)(r:Vals vs us)
   (x:InCallC s s.heap.objs.size (bindL (envOfC qual scope s.heap.objs.size f cd).kindOf (ps.zip us) fun _=>none) (cellsFrom (s.heap.objs.size+1) scope.names []) (bindC (envOfC qual scope s.heap.objs.size f cd).kindOf (ps.zip us) fun _=>none) s1) :
   Inv (cr CX P w K mg base N qual scope f cd A outer s H E) [] (start N vs) H s1:=by
 have hpl:ps.length≤N.length:=by have:=congrArg List.length S.pre;rw[List.length_take] at this;omega
 obtain⟨h1,tk,rfl,hk⟩:=x.done
 have noA:∀ b:Addr,b∉(cr CX P w K mg base N qual scope f cd A outer s H E).ex:=fun b z=>absurd (show b∈([]:List Addr) from z) (by simp)
 refine⟨⟨e0.mod,S.kind,rfl,rfl,Nat.le_refl _,fun y z c h1 h2=>?_,fun y hy=>?_,fun y c _ h=>?_,fun _=>hd,Around.frames_deeper e0.frames,.inr ⟨rfl,rfl⟩,fun b z=>absurd z (noA b),e0.bs,e0.bsz,fun b _ _=>noA b,fun b z=>absurd z (noA b),e0.funs,e0.frf⟩,
   rfl,e0.bare,Un.kept hk,⟨_,x.toInCall.ns,fun i y v h1 h2 h3=>?_⟩,fun y c h=>⟨_,x.cell y c h⟩,e0.hok.fresh (Nat.le_refl _),fun y c h=>?_,fun p hp=>absurd (show p∈([]:List (Addr×Obj)) from hp) (by simp),e0.hok.kept hk,?_⟩
 · exact name_of_addr x.apart (PySem.mem_of_lookup h1) (PySem.mem_of_lookup h2)
 · have hy:scope.names.lookup y=some .cell∨scope.names.lookup y=some .free:=hy
   rcases hy with hy | hy
   · exact oE hy
   · exact absurd rfl (S.nofree _ (PySem.mem_of_lookup hy))
 · exact Nat.le_of_lt (x.above y c (PySem.mem_of_lookup h))
 · have hi:i < vs.length:=by
     unfold start at h2
     by_cases hi:i < vs.length
     · exact hi
     · rw[List.getElem?_append_right (by simpa using hi)] at h2
       rw[List.getElem?_replicate] at h2
       split at h2<;>cases h2
   have ha:vs[i]?=some v:=by
     unfold start at h2
     rw[List.getElem?_append_left (by simpa using hi),List.getElem?_map] at h2
     cases e:vs[i]? with
     | none=>rw[e] at h2;cases h2
     | some a=>rw[e] at h2;cases h2;rfl
   obtain⟨u,hu,rv⟩:=r.get ha
   have hp:ps[i]?=some y:=by
     rw[←S.pre,List.getElem?_take_of_lt (by omega)];exact h1
   have ndP:ps.Nodup:=by rw[←S.pre];exact S.nd.sublist (List.take_sublist _ _)
   refine⟨u,rv,?_⟩
   rcases S.par y (List.mem_of_getElem? hp) with k | k
   · exact .inl ⟨k,lQ ndP hp hu k⟩
   · obtain⟨c,e⟩:=oE (n:=s.heap.objs.size+1) k
     refine .inr ⟨.inl k,c,e,?_⟩
     have q:=x.cell y c e
     rw[lF ndP hp hu (by show scope.names.lookup y≠_;rw[k];decide)] at q
     exact q
 · exact e0.hok.fresh (Nat.le_of_lt (x.above y c (PySem.mem_of_lookup h)))
 · unfold start
   show _=N.length
   rw[List.length_append,List.length_map,List.length_replicate]
   omega

theorem wX {CX:CXT}{P:Program}{w:World}{K:PySem.W.Frag}{mg:Str→Option Value}{base:Heap}{k:Nat}{f:Addr}{name qual:Str}{params:Arguments}{body:List Stmt}{scope:Scope}{dV kV doc pm cdv ct oc:Value}{an od:Option Addr}
   {osl:Array (Option Value)}{N ps:List Str}{sp:Sp}(lk:K.lookup f=some ⟨oc,od,.func (PySem.W.fnOf name qual params body scope dV kV doc pm an cdv ct),osl⟩)(hcd:PySem.W.codeIn K cdv qual=true)(S:au N ps scope)
   (len:∀ vs H Q E,sp vs H Q E→vs.length=ps.length)
   (hbody:∀ (A:Around)(outer:List Env)(s:Shared)(H:Hp)(vs:List V)(Q:VK)(E:XK),dN k (A.deeper (envOfC qual scope s.heap.objs.size f cdv))→sp vs H Q E →
     ∃ t,PSs (cr CX P w K mg base N qual scope f cdv A outer s H E) body t∧t { nx:=fun _ H'=>Q .non H',rt:=Q } (start N vs) H) :
   aw P w K mg base CX (k+1) f (PySem.W.fnOf name qual params body scope dV kV doc pm an cdv ct) ps sp:=by
 refine⟨len,fun A outer s H args us vs Q E hr e0 hb r hsp=>?_⟩
 have hl:=len _ _ _ _ hsp
 have KX:K.In s.heap:=e0.mod.kin.keeps fun b o e=>(e0.bs b o e).1
 have lim:s.heap.NoLimit:=e0.mod.nolimit.keeps fun b o e=>(e0.bs b o e).1
 have hkind:∀ y∈ps.zip us,scope.names.lookup y.1=some .local∨(scope.names.lookup y.1=some .cell∧((cellsFrom (s.heap.objs.size+1) scope.names []).lookup y.1).isSome=true):=fun⟨n,v⟩ hy=>by
   rcases S.par n (List.of_mem_zip hy).1 with q | q
   · exact .inl q
   · exact .inr ⟨q,PySem.W.cellsFrom_some _ _ _ (.inl q)⟩
 refine codeAny_call_function hr.depth (KX _ _ lk) rfl S.co S.gen rfl (PySem.W.codeRec_of KX hcd) (hb _ _ _ _ ?_)
 refine wpAny_newFunctionEnv_cells S.kind hkind fun env he s1 x=>?_
 subst he
 refine⟨lim.keeps x.toInCall.keep,codeAny_func ?_⟩
 obtain⟨t,ht,hq⟩:=hbody A outer s H vs Q E (hr.deeper _) hsp
 have I:Inv (cr CX P w K mg base N qual scope f cdv A outer s H E) [] (start N vs) H s1:=sQ S hr.hd e0 hl r x
 refine wpAny_mono (ht s1 (start N vs) H _ I hq) (fun fl s' hs=>?_) fun e s' hs=>hs
 have fin:∀ {σ':St}{H':Hp}{v:V}{u:Value},Inv (cr CX P w K mg base N qual scope f cdv A outer s H E) [] σ' H' s'→a8 v u→Q v H'→CE outer P w H s Q u s' :=
   fun {σ' H' v u} J rv q=>⟨v,H',J.os,J.bare,J.base,J.hok,rv,q⟩
 cases fl with
 | ret u =>
   obtain⟨v,σ',H',J,rv,q⟩:=hs
   exact fin J rv q
 | next =>
   obtain⟨σ',H',J,q⟩:=hs
   exact fin (v:=V.non) (u:=Value.none) J rfl q
 | brk =>
   obtain⟨_,_,_,q⟩:=hs
   exact False.elim q
 | cont =>
   obtain⟨_,_,_,q⟩:=hs
   exact False.elim q
end L2

namespace L2
open PySem PySem.Spec PyProof.Rows
section
variable {X:Cx}{x:Str}{p pos:Pos}{e:Expr}{es:List Expr}{t:TA}{id T:String}{r:List V→Hp→VK→Prop}

def tCB (r:List V→Hp→VK→Prop)(t:TA):TE:=fun σ H Q=>t σ H fun vs H1=>r vs H1 Q
theorem al (hc:cx X (.builtin id) r)(hg:Gl X x)(hm:X.mg x=none)(hv:bootBuiltins x=some (.builtin id))(ha:PA X (e::es) t)(hn:x≠"__name__":=by decide)(hdb:(x==("__debug__":Str))=false:=by decide)
   (he:starEach (e::es) X.env=(false,eval e X.env)::starEach es X.env:=by rfl)(hpl:(backTo pos (starEach es X.env)).any (·.1)=false:=by rfl):PE X (.Call (.Name x p) (e::es) [] pos) (tCB r t):=by
 intro pins s σ H Q I h
 refine wpAny_Call_Name_kw (gR I hg hm hv ?_ hn hdb)
 exact PyProof.Rows.callWith_builtin1 (thn (ha pos s σ H _ I h) fun us s1 ⟨vs,H1,I1,r1,q1⟩=>hc pins s1 σ H1 vs us Q I1 r1 q1) he hpl
theorem aZ (hc:cx X (.type T) r)(hg:Gl X x)(hm:X.mg x=none)(hv:bootBuiltins x=some (.type T))(ha:PA X (e::es) t)(hn:x≠"__name__":=by decide)(hdb:(x==("__debug__":Str))=false:=by decide)
   (he:starEach (e::es) X.env=(false,eval e X.env)::starEach es X.env:=by rfl)(hpl:(backTo pos (starEach es X.env)).any (·.1)=false:=by rfl):PE X (.Call (.Name x p) (e::es) [] pos) (tCB r t):=by
 intro pins s σ H Q I h
 refine wpAny_Call_Name_kw (gR I hg hm hv ?_ hn hdb)
 exact PyProof.Rows.callWith_type1 (thn (ha pos s σ H _ I h) fun us s1 ⟨vs,H1,I1,r1,q1⟩=>hc pins s1 σ H1 vs us Q I1 r1 q1) he hpl
end
end L2

namespace HT
open PySem PyProof.Rows

section
open PySem.SeqAt
open PySem.AutoSeq1 (wpAny_loadPart')
open PySem.MeetsSeq PySem.MeetsSeq2 PySem.MeetsSeq3

end

section
variable {prog:Program}{w:World}{A:Around}{E:Value→Shared→Prop}{s:Shared}

/-! ### t[a:b],not the whole -/
def sIx (n d:Nat):Option Int→Nat
 | none=>d
 | some v=>if v < 0 then(v+(n:Int)).toNat else min v.toNat n
theorem sIx_none (n d:Nat):sIx n d none=d:=rfl
theorem sIx_nat (n d k:Nat):sIx n d (some (k:Int))=min k n:=by
 show(if(k:Int) < 0 then((k:Int)+(n:Int)).toNat else min (k:Int).toNat n)=min k n
 rw[if_neg (by omega),Int.toNat_natCast]
end
end HT

namespace L2
open PySem PySem.Spec PyProof.Rows

/-! ### the parts of a slice -/
abbrev TO:=St→Hp→(Option Int→Hp→Prop)→Prop
def PO (X:Cx)(e:Option Expr)(t:TO):Prop :=
 ∀ ⦃pins:List (Addr×Obj)⦄ (s:Shared) (σ:St)(H:Hp)(Q:Option Int→Hp→Prop),Inv X pins σ H s→t σ H Q →
   wpAny (model X.prog X.w) X.A (evalPart e X.env) (fun u s'=>∃ o H',Inv X pins σ H' s'∧IsPart u o∧Q o H') X.xe s
def rn:TO:=fun _ H Q=>Q none H
def xg (t:TE):TO:=fun σ H Q=>t σ H fun x H1=>∃ i,x=.int i∧Q (some i) H1

section
variable {X:Cx}{e:Expr}{te:TE}{lo hi:Option Expr}{tl th:TO}{pos p2:Pos}

theorem eV:PO X none rn:=by
 intro pins s σ H Q I h
 rw[evalPart_none]
 exact wpAny_pure ⟨none,H,I,.none,h⟩
theorem dC (h:PE X e te):PO X (some e) (xg te):=by
 intro pins s σ H Q I hw
 rw[evalPart_some]
 refine thn (h s σ H _ I hw) fun u s1 ⟨x,H1,I1,r1,q1⟩=>?_
 obtain⟨i,rfl,q⟩:=q1
 obtain⟨t,rfl⟩:=r1
 exact⟨some i,H1,I1,.int i t,q⟩

def SlR (X:Cx)(r:V→Option Int→Option Int→Hp→VK→Prop):Prop :=
 ∀ (pins:List (Addr×Obj))(s:Shared) (σ:St)(H:Hp) (x:V) (v vl vu:Value)(lo hi:Option Int)(sl:Addr)(Q:VK),Inv X pins σ H s→a8 x v→s.heap.IsSliceOf sl vl vu .none→IsPart vl lo→IsPart vu hi→r x lo hi H Q →
   ∃ T id,typeLookup (.type T) "__getitem__"=pure (some (.builtin id))∧s.TypeIs v T∧wpAny (model X.prog X.w) X.A (getItem v (.ref sl)) (EP X pins σ Q) X.xe s
def tSl (r:V→Option Int→Option Int→Hp→VK→Prop)(te:TE)(tl th:TO):TE:=fun σ H Q=>te σ H fun x H1=>tl σ H1 fun l H2=>th σ H2 fun u H3=>r x l u H3 Q
theorem dc {r:V→Option Int→Option Int→Hp→VK→Prop}(hr:SlR X r)(he:PE X e te)(hl:PO X lo tl)(hu:PO X hi th):PE X (.Subscript e (.Slice lo hi none p2) pos) (tSl r te tl th):=by
 intro pins s σ H Q I h
 refine Subscript_ (thn (he s σ H _ I h) fun v s1 ⟨x,H1,I1,r1,q1⟩=>?_)
 refine wpAny_Slice (thn (hl s1 σ H1 _ I1 q1) fun vl s2 ⟨l,H2,I2,pl,q2⟩=>thn (hu s2 σ H2 _ I2 q2) fun vu s3 ⟨u,H3,I3,pu,q3⟩=>?_)
 rw[evalPart_none]
 refine wpAny_pure ?_
 have I4:Inv X pins σ H3 { s3 with heap:=s3.heap.push { cls:=.type "slice",data:=.fields #[vl,vu,.none] } }:=I3.kept (t':=s3.toks) fun b ob q=>Heap.get?_push_of_some _ q
 obtain⟨T,id,hT,ht,hg⟩:=hr pins { s3 with heap:=s3.heap.push { cls:=.type "slice",data:=.fields #[vl,vu,.none] } } σ H3 x v vl vu l u s3.heap.objs.size Q I4 r1 (Heap.IsSliceOf.new ..) pl pu q3
 show wpAny (model X.prog X.w) X.A (subscriptTail e (.Slice lo hi none p2) v (.ref s3.heap.objs.size)) (EP X pins σ Q) X.xe { s3 with heap:=s3.heap.push { cls:=.type "slice",data:=.fields #[vl,vu,.none] } }
 exact tail_any (ops:=[.ref s3.heap.objs.size,v]) ht hT hg (by with_unfolding_all rfl)

def eY (xs:List V)(lo hi:Option Int):List V:=(xs.drop (HT.sIx xs.length 0 lo)).take (HT.sIx xs.length xs.length hi - HT.sIx xs.length 0 lo)
theorem oh (xs:List V)(lo hi:Option Int):(eY xs lo hi).length≤xs.length:=by
 unfold eY
 rw[List.length_take,List.length_drop]
 omega
/-! ### t < u,t+u -/
end
end L2

namespace L2
open PySem PySem.Spec PyProof.Rows

/-! ### places -/
def ixN (n:Nat) (i:Int):Option Nat:=if 0≤i then(if i < n then some i.toNat else none) else if -(n:Int)≤i then some (i+n).toNat else none
def atI {α:Type}(xs:List α) (i:Int):Option α:=(ixN xs.length i).bind fun j=>xs[j]?
theorem nc {n:Nat}{i:Int}{j:Nat}(h:ixN n i=some j):seqIndex? i n=some j∧j < n∧-(n:Int)≤i∧i < n:=by
 unfold ixN at h
 by_cases h0:0≤i
 · rw[if_pos h0] at h
   by_cases h1:i < n
   · rw[if_pos h1] at h
     have e:i.toNat=j:=Option.some.inj h
     exact⟨by rw[seqIndex_of h0 h1,e],by omega,by omega,h1⟩
   · rw[if_neg h1] at h;cases h
 · rw[if_neg h0] at h
   by_cases h1:-(n:Int)≤i
   · rw[if_pos h1] at h
     have e:(i+n).toNat=j:=Option.some.inj h
     exact⟨by rw[seqIndex_neg (by omega) h1,e],by omega,h1,by omega⟩
   · rw[if_neg h1] at h;cases h
theorem m3 {α:Type}{xs:List α}{i:Int}{v:α}(h:atI xs i=some v):∃ j,seqIndex? i xs.length=some j∧xs[j]?=some v∧j < xs.length∧-(xs.length:Int)≤i∧i < xs.length:=by
 unfold atI at h
 cases e:ixN xs.length i with
 | none=>rw[e] at h;cases h
 | some j =>
   rw[e] at h
   obtain⟨h1,h2,h3,h4⟩:=nc e
   exact⟨j,h1,h,h2,h3,h4⟩
theorem eS {α:Type}{xs:List α}{j:Nat}{v:α}(h:xs[j]?=some v):atI xs (j:Int)=some v:=by
 have hj:j < xs.length:=(List.getElem?_eq_some_iff.mp h).1
 have e:ixN xs.length (j:Int)=some j:=by
   unfold ixN
   rw[if_pos (by omega),if_pos (by omega)];simp
 unfold atI;rw[e];exact h
theorem iB {α:Type}(xs:List α)(v:α):atI (xs++[v]) (-1)=some v:=by
 have hl:(xs++[v]).length=xs.length+1:=by simp
 have e:ixN (xs++[v]).length (-1)=some xs.length:=by
   unfold ixN
   rw[hl,if_neg (by decide),if_pos (by omega)]
   congr 1
   omega
 unfold atI
 rw[e]
 show(xs++[v])[xs.length]?=some v
 simp

/-! ### what may be subscripted -/
def wg (b:Expr):Prop:=∀ o i,subscripted b false o i=operate [o,i] (getItem o i)
def IxR (X:Cx)(r:R2):Prop :=
 ∀ (value slice:Expr)(pins:List (Addr×Obj))(s:Shared) (σ:St)(H:Hp) (x y:V) (v u:Value)(Q:VK),Inv X pins σ H s→a8 x v→a8 y u→r x y H Q →
   subscripted slice false v u=operate [v,u] (getItem v u)→wpAny (model X.prog X.w) X.A (subscriptTail value slice v u) (EP X pins σ Q) X.xe s
def MtR (X:Cx)(id:String)(r:V→List V→Hp→VK→Prop):Prop :=
 ∀ (pins:List (Addr×Obj))(s:Shared) (σ:St)(H:Hp) (x:V)(xs:List V) (v:Value)(us:List Value)(Q:VK),Inv X pins σ H s→a8 x v→Vals xs us→r x xs H Q →
   wpAny (model X.prog X.w) X.A (call (.builtin id) (v::us)) (EP X pins σ Q) X.xe s
section
variable {X:Cx}{a b:Expr}{ta tb:TE}{pos:Pos}
theorem aK {r:R2}(hr:IxR X r)(ha:PE X a ta)(hb:PE X b tb)(hs:wg b):PE X (.Subscript a b pos) (tOp r ta tb):=by
 intro pins s σ H Q I h
 exact Subscript_ (x5 ha hb I h fun v u s2 x y H2 I2 rx ry q=>hr a b pins s2 σ H2 x y v u Q I2 rx ry q (hs _ _))

def qu (K:PySem.W.Frag):R2:=fun x y H Q=>∃ p xs i v,x=.ref p∧y=.int i∧SqL K H p xs∧atI xs i=some v∧Q v H
def ye (K:PySem.W.Frag):R2:=fun x y H Q=>∃ p xs i v,x=.ref p∧y=.int i∧SqT K H p xs∧atI xs i=some v∧Q v H
def yi:R2:=fun x y H Q=>∃ z i c,x=.str z∧y=.int i∧z.length≤sizeLine∧atI z.cps.toList i=some c∧Q (.str ⟨#[c]⟩) H
theorem aG:IxR X (qu X.K):=by
 intro value slice pins s σ H x y v u Q I rx ry h hs
 obtain⟨p,xs,i,z,rfl,rfl,hq,he,q⟩:=h
 cases rx
 obtain⟨t,rfl⟩:=ry
 obtain⟨its,r,pl,hz⟩:=I.list hq
 obtain⟨j,h1,h2,h3,h4,h5⟩:=m3 he
 obtain⟨w,ew,rw'⟩:=r.get h2
 have hl:=r.length
 have hn:=i8
 have fin:EP X pins σ Q w s:=⟨z,H,I,rw',q⟩
 by_cases h0:0≤i
 · have hj:i.toNat=j:=by
     rw[seqIndex_of h0 h5] at h1
     exact Option.some.inj h1
   exact item_listR pl.isList h0 (by omega) (by rw[hj];simpa using ew) fin hs
 · have hj:(i+(its.toArray.size:Int)).toNat=j:=by
     rw[seqIndex_neg (by omega) h4] at h1
     rw[List.size_toArray,←hl]
     exact Option.some.inj h1
   exact subscriptTail_builtinR (x:=w) pl.isList.typeIs slot_list_getitem.lookup
     (wpAny_getItem_list_neg (Q:=fun r s'=>r=w∧EP X pins σ Q r s') pl.isList (by omega) (by rw[List.size_toArray]<;>omega) (by omega) (by rw[hj];simpa using ew) ⟨rfl,fin⟩) hs
theorem cp:IxR X (ye X.K):=by
 intro value slice pins s σ H x y v u Q I rx ry h hs
 obtain⟨p,xs,i,z,rfl,rfl,hq,he,q⟩:=h
 cases rx
 obtain⟨t,rfl⟩:=ry
 obtain⟨its,r,pl,hz⟩:=I.tuple hq
 obtain⟨j,h1,h2,h3,h4,h5⟩:=m3 he
 obtain⟨w,ew,rw'⟩:=r.get h2
 have hl:=r.length
 have hn:=i8
 have fin:EP X pins σ Q w s:=⟨z,H,I,rw',q⟩
 exact subscriptTail_builtinR (x:=w) pl.typeIs slot_tuple_getitem.lookup
   (getItem_tuple (j:=j) (Q:=fun r s'=>r=w∧EP X pins σ Q r s') pl (by omega) (by omega) (by rw[List.size_toArray,←hl];exact h1) (by simpa using ew) ⟨rfl,fin⟩) hs
theorem nv:IxR X yi:=by
 intro value slice pins s σ H x y v u Q I rx ry h hs
 obtain⟨z,i,c,rfl,rfl,hz,he,q⟩:=h
 obtain⟨t,rfl⟩:=rx
 obtain⟨t',rfl⟩:=ry
 obtain⟨j,h1,h2,h3,h4,h5⟩:=m3 he
 have hl:z.cps.toList.length=z.length:=by simp[Str.length]
 rw[hl] at h1 h4 h5
 have hn:=i8
 exact tail_any (typeIs_str s z t) slot_str_getitem.lookup (getItem_str (c:=c) (by
   have e1:decide (i < -(2 ^ 63:Int))=false:=decide_eq_false (by omega)
   have e2:decide (i≥2 ^ 63)=false:=decide_eq_false (by omega)
   rw[e1,e2,Bool.or_false]) (by rw[h1];simpa using h2) ⟨.str ⟨#[c]⟩,H,I.tok _,⟨_,rfl⟩,q⟩) hs
/-! ### xs[i]=v,any sign -/
theorem qD (its:List Value) (n j:Nat) (u:Value):Obj.mapSeq (·.setIfInBounds j u) { cls:=.type "list",data:=.seq its.toArray n }={ cls:=.type "list",data:=.seq (its.set j u).toArray n }:=by
 simp[Obj.mapSeq]
theorem Inv.lst {pins:List (Addr×Obj)}{σ:St}{H:Hp}{s:Shared}{p:Addr}{xs:List V}(I:Inv X pins σ H s)(h:H p=some (.lst xs)) :
   ∃ (its:List Value) (n:Nat),Vals xs its∧s.heap.get? p=some { cls:=.type "list",data:=.seq its.toArray n }∧xs.length≤sizeLine:=by
 obtain⟨z,its,n,r,e⟩:=I.hok p _ h
 exact⟨its,n,r,e,z⟩
theorem Inv.lstUpd {pins:List (Addr×Obj)}{σ:St}{H:Hp}{s:Shared}{p:Addr}{xs ys:List V}{its its':List Value}{n n':Nat}{f:Obj→Obj}(I:Inv X pins σ H s)(h:H p=some (.lst xs))
   (ho:s.heap.get? p=some { cls:=.type "list",data:=.seq its.toArray n })(hf:f { cls:=.type "list",data:=.seq its.toArray n }={ cls:=.type "list",data:=.seq its'.toArray n' })(r:Vals ys its')(hz:ys.length≤sizeLine) (t:Nat) :
   Inv X pins σ (upd H p (.lst ys)) { s with heap:=s.heap.update p f,toks:=t }:=by
 have e:(s.heap.update p f).get? p=some { cls:=.type "list",data:=.seq its'.toArray n' }:=by
   rw[Heap.get?_update_self f ho (by rw[hf]<;>rfl),hf]
 refine I.write (x:=p) (e:=p) (by rw[h];trivial) (.inl rfl) (fun b u hb q=>(Heap.get?_update_other _ _ (Ne.symm hb)).trans q) ⟨_,e⟩ ?_
 exact⟨hz,its',n',r,e⟩
def wR:V→V→V→Hp→(Hp→Prop)→Prop:=fun o i v H Q=>∃ p xs k j,o=.ref p∧i=.int k∧H p=some (.lst xs)∧ixN xs.length k=some j∧Q (upd H p (.lst (xs.set j v)))
theorem u4:yt X wR:=by
 intro pins s σ H o i v ov iv u Q I ro ri rv h
 obtain⟨p,xs,k,j,rfl,rfl,hp,hj,q⟩:=h
 cases ro
 obtain⟨t,rfl⟩:=ri
 obtain⟨its,n,r,ho,hz⟩:=I.lst hp
 obtain⟨h1,h2,h3,h4⟩:=nc hj
 have hl:=r.length
 have hn:=i8
 have I':Inv X pins σ (upd H p (.lst (xs.set j v))) { s with heap:=s.heap.update p (Obj.mapSeq (·.setIfInBounds j u)) } :=
   I.lstUpd hp ho (qD its n j u) (r.set rv j) (by rw[List.length_set];exact hz) s.toks
 by_cases h0:0≤k
 · have hk:k.toNat=j:=by
     rw[seqIndex_of h0 h4] at h1
     exact Option.some.inj h1
   exact PySem.W.ki_setAt ho h0 (by omega) (by rw[List.size_toArray,←hl];exact h4) (by rw[hk];exact⟨_,I',q⟩)
 · have hk:(k+(its.toArray.size:Int)).toNat=j:=by
     rw[seqIndex_neg (by omega) h3] at h1
     rw[List.size_toArray,←hl]
     exact Option.some.inj h1
   exact PySem.W.ki_setBack ho (by omega) (by rw[List.size_toArray,←hl];exact h3) (by omega) (by rw[hk];exact⟨_,I',q⟩)

/-! ### slices -/
theorem ny (lo hi:Option Int) (n:Nat):(sliceBounds lo hi none n).1=((HT.sIx n 0 lo:Nat):Int)∧(sliceBounds lo hi none n).2.1=((HT.sIx n n hi:Nat):Int)∧(sliceBounds lo hi none n).2.2=1:=by
 refine⟨?_,?_,rfl⟩
 · cases lo with
   | none=>simp[sliceBounds,HT.sIx]
   | some i =>
     simp only[sliceBounds,HT.sIx,Option.getD_none,show(1:Int) > 0 by decide,if_true]
     by_cases h:i < 0
     · simp only[h,if_true]<;>omega
     · simp only[h,if_false]<;>omega
 · cases hi with
   | none=>simp[sliceBounds,HT.sIx]
   | some i =>
     simp only[sliceBounds,HT.sIx,Option.getD_none,show(1:Int) > 0 by decide,if_true]
     by_cases h:i < 0
     · simp only[h,if_true]<;>omega
     · simp only[h,if_false]<;>omega
theorem lj (its:List Value)(lo hi:Option Int):slicePick its.toArray lo hi none=((its.drop (HT.sIx its.length 0 lo)).take (HT.sIx its.length its.length hi - HT.sIx its.length 0 lo)).toArray:=by
 obtain⟨h1,h2,h3⟩:=ny lo hi its.toArray.size
 unfold slicePick
 rw[h1,h2,h3]
 simp only[sliceRange_one,pick_run,List.size_toArray]<;>rfl
def xF (K:PySem.W.Frag):V→Option Int→Option Int→Hp→VK→Prop:=fun x lo hi H Q=>∃ a xs,x=.ref a∧SqL K H a xs∧∀ p,H p=none→Q (.ref p) (upd H p (.lst (eY xs lo hi)))
theorem gw:SlR X (xF X.K):=by
 intro pins s σ H x v vl vu lo hi sl Q I rx hs pl pu h
 obtain⟨a,xs,rfl,hx,q⟩:=h
 cases rx
 obtain⟨its,r,ht,hz⟩:=I.list hx
 have hlen:=r.length
 refine⟨"list",_,slot_list_getitem.lookup,ht.isList.typeIs,?_⟩
 refine wpAny_getItem_list_slice ht.isList hs pl pu .none (by simp) ?_ (by rw[List.size_toArray]<;>omega)
 rw[lj,←hlen]
 refine⟨.ref s.heap.objs.size,_,I.laid (t':=s.toks) (o:=.lst (eY xs lo hi)) (fun b ob q=>Heap.get?_push_of_some _ q) (Nat.le_refl _) ?_,rfl,q _ (I.hok.fresh (Nat.le_refl _))⟩
 exact⟨Nat.le_trans (oh xs lo hi) hz,_,0,(r.drop (HT.sIx xs.length 0 lo)).take (HT.sIx xs.length xs.length hi - HT.sIx xs.length 0 lo),Heap.get?_push_size _ rfl⟩

/-! ### in,not in: flat items -/
def dR:V→Bool
 | .non=>true
 | .bl _=>true
 | .int _=>true
 | .str _=>true
 | _=>false
def eqV:V→V→Bool
 | .non,.non=>true
 | .bl a,.bl b=>a==b
 | .bl a,.int b=>(if a then 1 else 0)==b
 | .int a,.bl b=>a==(if b then 1 else 0)
 | .int a,.int b=>a==b
 | .str a,.str b=>a==b
 | _,_=>false
theorem uX {A:Around}{s:Shared}{y x:V}{u v:Value}(ry:a8 y u)(rx:a8 x v)(fy:dR y=true)(fx:dR x=true):SeqAt.EqAt A s u v (eqV y x):=by
 cases y with
 | non =>
   cases ry
   cases x with
   | non=>cases rx;exact SeqAt.EqAt.same _
   | bl b=>cases rx;exact SeqAt.EqAt.none_bool b
   | int b=>obtain⟨t,rfl⟩:=rx;exact SeqAt.EqAt.none_int b t
   | str b=>obtain⟨t,rfl⟩:=rx;exact SeqAt.EqAt.none_str b t
   | _=>exact absurd (show false=true from fx) Bool.false_ne_true
 | bl a =>
   cases ry
   cases x with
   | non=>cases rx;exact SeqAt.EqAt.bool_none a
   | bl b=>cases rx;exact SeqAt.EqAt.bool_bool a b
   | int b=>obtain⟨t,rfl⟩:=rx;exact SeqAt.EqAt.bool_int a b t
   | str b=>obtain⟨t,rfl⟩:=rx;exact SeqAt.EqAt.bool_str a b t
   | _=>exact absurd (show false=true from fx) Bool.false_ne_true
 | int a =>
   obtain⟨t',rfl⟩:=ry
   cases x with
   | non=>cases rx;exact SeqAt.EqAt.int_none a t'
   | bl b=>cases rx;exact SeqAt.EqAt.int_bool a t' b
   | int b=>obtain⟨t,rfl⟩:=rx;exact SeqAt.EqAt.int_int a t' b t
   | str b=>obtain⟨t,rfl⟩:=rx;exact SeqAt.EqAt.int_str a t' b t
   | _=>exact absurd (show false=true from fx) Bool.false_ne_true
 | str a =>
   obtain⟨t',rfl⟩:=ry
   cases x with
   | non=>cases rx;exact SeqAt.EqAt.str_none a t'
   | bl b=>cases rx;exact SeqAt.EqAt.str_bool a t' b
   | int b=>obtain⟨t,rfl⟩:=rx;exact SeqAt.EqAt.str_int a t' b t
   | str b=>obtain⟨t,rfl⟩:=rx;exact SeqAt.EqAt.str_str a t' b t
   | _=>exact absurd (show false=true from fx) Bool.false_ne_true
 | _=>exact absurd (show false=true from fy) Bool.false_ne_true
def eqU (x:V) (u:Value):Bool:=match u with
 | .none=>eqV .non x
 | .bool b=>eqV (.bl b) x
 | .int i _=>eqV (.int i) x
 | .str z _=>eqV (.str z) x
 | _=>false
theorem vm {x y:V}{u:Value}(r:a8 y u)(f:dR y=true):eqU x u=eqV y x:=by
 cases y with
 | non=>cases r;rfl
 | bl b=>cases r;rfl
 | int i=>obtain⟨t,rfl⟩:=r;rfl
 | str z=>obtain⟨t,rfl⟩:=r;rfl
 | _=>exact absurd (show false=true from f) Bool.false_ne_true
theorem iD {x:V}:∀ {xs:List V}{us:List Value},Vals xs us→xs.all dR=true→us.any (eqU x)=xs.any fun y=>eqV y x
 | _,_,.nil,_=>rfl
 | y::xs,u::us,.cons r t,f=>by
   rw[List.all_cons,Bool.and_eq_true] at f
   rw[List.any_cons,List.any_cons,vm r f.1,iD t f.2]
theorem gg {A:Around}{s:Shared}{x:V}{v:Value}(rx:a8 x v)(fx:dR x=true):∀ {xs:List V}{us:List Value},Vals xs us→xs.all dR=true→∀ u∈us,SeqAt.EqAt A s u v (eqU x u)
 | _,_,.nil,_=>fun u hu=>by cases hu
 | y::xs,u::us,.cons r t,f=>fun u' hu=>by
   rw[List.all_cons,Bool.and_eq_true] at f
   rcases List.mem_cons.mp hu with rfl | hu
   · rw[vm r f.1];exact uX r rx f.1 fx
   · exact gg rx fx t f.2 u' hu
def inV (x:V)(xs:List V):Bool:=xs.any fun y=>eqV y x
def rIn (K:PySem.W.Frag)(neg:Bool):R2:=fun x y H Q=>∃ p xs,y=.ref p∧(SqL K H p xs∨SqT K H p xs)∧dR x=true∧xs.all dR=true∧Q (.bl (if neg then !inV x xs else inV x xs)) H
theorem sK:OpR X (compareOp .In) (rIn X.K false):=by
 intro pins s σ H x y v u Q I rx ry h
 obtain⟨p,xs,rfl,hq,fx,fs,q⟩:=h
 cases ry
 rcases hq with hq | hq
 · obtain⟨its,r,pl,hz⟩:=I.list hq
   refine SeqAt.in_listAt (eqU x) pl.isList (fun w hw=>gg rx fx r fs w (by simpa using hw)) ⟨.bl _,H,I,rfl,?_⟩
   rw[show its.toArray.any (eqU x)=its.any (eqU x) by simp,iD r fs]
   exact q
 · obtain⟨its,r,pl,hz⟩:=I.tuple hq
   refine SeqAt.in_tupleAt (eqU x) pl (fun w hw=>gg rx fx r fs w (by simpa using hw)) ⟨.bl _,H,I,rfl,?_⟩
   rw[show its.toArray.any (eqU x)=its.any (eqU x) by simp,iD r fs]
   exact q
theorem dW:OpR X (compareOp .NotIn) (rIn X.K true):=by
 intro pins s σ H x y v u Q I rx ry h
 obtain⟨p,xs,rfl,hq,fx,fs,q⟩:=h
 cases ry
 rcases hq with hq | hq
 · obtain⟨its,r,pl,hz⟩:=I.list hq
   refine SeqAt.notIn_listAt (eqU x) pl.isList (fun w hw=>gg rx fx r fs w (by simpa using hw)) ⟨.bl _,H,I,rfl,?_⟩
   rw[show its.toArray.any (eqU x)=its.any (eqU x) by simp,iD r fs]
   exact q
 · obtain⟨its,r,pl,hz⟩:=I.tuple hq
   refine SeqAt.notIn_tupleAt (eqU x) pl (fun w hw=>gg rx fx r fs w (by simpa using hw)) ⟨.bl _,H,I,rfl,?_⟩
   rw[show its.toArray.any (eqU x)=its.any (eqU x) by simp,iD r fs]
   exact q
/-! ### len,list(x),tuple(x) of any list or tuple that is read -/
theorem aE:cx X (.builtin "len") (fun xs H Q=>∃ p ys,xs=[.ref p]∧(SqL X.K H p ys∨SqT X.K H p ys)∧Q (.int ys.length) H):=by
 intro pins s σ H xs us Q I r h
 obtain⟨p,ys,rfl,hq,q⟩:=h
 obtain⟨u,rfl,rx⟩:=dq r
 cases rx
 have hn:=i8
 rcases hq with hq | hq
 · obtain⟨its,r',pl,hz⟩:=I.list hq
   have hlen:=r'.length
   exact Calls.call_len_list pl.isList (by simp only[List.size_toArray]<;>omega) ⟨.int ys.length,H,I.tok _,⟨s.toks+1,by rw[List.size_toArray,hlen]⟩,q⟩
 · obtain⟨its,r',pl,hz⟩:=I.tuple hq
   have hlen:=r'.length
   exact len_tuple pl (by simp only[List.size_toArray]<;>omega) ⟨.int ys.length,H,I.tok _,⟨s.toks+1,by rw[List.size_toArray,hlen]⟩,q⟩
theorem ix:cx X (.builtin "len") (fun xs H Q=>∃ z,xs=[.str z]∧z.length≤sizeLine∧Q (.int z.length) H):=by
 intro pins s σ H xs us Q I r h
 obtain⟨z,rfl,hz,q⟩:=h
 obtain⟨u,rfl,t,rfl⟩:=dq r
 have hn:=i8
 exact len_str (by omega) ⟨.int z.length,H,I.tok _,⟨_,rfl⟩,q⟩
theorem dX:cx X (.type "list") (fun xs H Q=>∃ p ys,xs=[.ref p]∧(SqL X.K H p ys∨SqT X.K H p ys)∧∀ l,H l=none→Q (.ref l) (upd H l (.lst ys))):=by
 intro pins s σ H xs us Q I r h
 obtain⟨p,ys,rfl,hq,q⟩:=h
 obtain⟨u,rfl,rx⟩:=dq r
 cases rx
 have fin:∀ (its:List Value),Vals ys its→ys.length≤sizeLine→∀ (h':Heap) (c':Nat),(∀ b o',s.heap.get? b=some o'→h'.get? b=some o') →
     h'.get? s.heap.objs.size=some { cls:=.type "list",dict:=none,data:=.seq its.toArray c',slots:=#[] }→EP X pins σ Q (.ref s.heap.objs.size) { s with heap:=h' }:=fun its r' hz h' c' kp e =>
   ⟨.ref s.heap.objs.size,_,I.laid (t':=s.toks) kp (Nat.le_refl _) (show bE X.prog X.w _ h' _ (.lst ys) from⟨hz,its,c',r',e⟩),rfl,q _ (I.hok.fresh (Nat.le_refl _))⟩
 rcases hq with hq | hq
 · obtain⟨its,r',pl,hz⟩:=I.list hq
   have hlen:=r'.length
   obtain⟨o,ho,hc,n,hd⟩:=pl.isList
   exact call_list_seq p (.inl rfl) ho hc hd (fun h' c' kp e=>fin its r' hz h' c' kp e) (by simp only[List.size_toArray]<;>omega)
 · obtain⟨its,r',pl,hz⟩:=I.tuple hq
   have hlen:=r'.length
   obtain⟨o,ho,hc,n,hd⟩:=pl
   exact call_list_seq p (.inr rfl) ho hc hd (fun h' c' kp e=>fin its r' hz h' c' kp e) (by simp only[List.size_toArray]<;>omega)
theorem eZ:cx X (.type "tuple") (fun xs H Q=>∃ p ys,xs=[.ref p]∧((SqL X.K H p ys∧∀ l,H l=none→Q (.ref l) (upd H l (.tup ys)))∨(SqT X.K H p ys∧Q (.ref p) H))):=by
 intro pins s σ H xs us Q I r h
 obtain⟨p,ys,rfl,h⟩:=h
 obtain⟨u,rfl,rx⟩:=dq r
 cases rx
 rcases h with ⟨hq,q⟩ | ⟨hq,q⟩
 · obtain⟨its,r',pl,hz⟩:=I.list hq
   have hlen:=r'.length
   refine call_tuple_list pl.isList (fun h' kp=>?_) (by simp only[List.size_toArray]<;>omega)
   have I1:Inv X pins σ H { s with heap:=h' }:=I.kept (t':=s.toks) kp
   have I2:Inv X pins σ (upd H h'.objs.size (.tup ys)) { s with heap:=h'.push { cls:=.type "tuple",data:=.seq its.toArray } } :=
     I1.laid (t':=s.toks) (fun b o e=>Heap.get?_push_of_some _ e) (Nat.le_refl _) (show bE X.prog X.w _ _ _ (.tup ys) from⟨hz,its,r',IsTup.new _ _⟩)
   exact⟨.ref h'.objs.size,_,I2,rfl,q _ (I1.hok.fresh (Nat.le_refl _))⟩
 · obtain⟨its,r',pl,hz⟩:=I.tuple hq
   exact call_tuple_same pl ⟨.ref p,H,I,rfl,q⟩

/-! ### the call of a builtin's method: o.m(..) -/
def tyV (K:PySem.W.Frag)(T:String) (x:V)(H:Hp):Prop:=match x with
 | .str _=>T="str"
 | .int _=>T="int"
 | .ref p=>(T="list"∧∃ xs,SqL K H p xs)∨(T="tuple"∧∃ o,K.lookup p=some o∧o.cls=.type "tuple"∧o.dict=none) ∨
     (T="dict"∧((∃ kvs,H p=some (.dK kvs))∨∃ kvs,H p=some (.dT kvs)))∨(T="set"∧∃ S n,H p=some (.set S n))
 | _=>False
theorem xL {pins:List (Addr×Obj)}{σ:St}{H:Hp}{s:Shared}{T:String}{x:V}{v:Value}(I:Inv X pins σ H s)(r:a8 x v)(ty:tyV X.K T x H) :
   s.TypeIs v T∧∀ a,v=.ref a→∃ ob,s.heap.get? a=some ob∧ob.dict=none:=by
 cases x with
 | str z =>
   obtain⟨t,rfl⟩:=r
   cases (show T="str" from ty)
   exact⟨typeIs_str s z t,fun _ e=>nomatch e⟩
 | int i =>
   obtain⟨t,rfl⟩:=r
   cases (show T="int" from ty)
   exact⟨typeIs_int s i t,fun _ e=>nomatch e⟩
 | ref p =>
   cases r
   rcases ty with ⟨rfl,xs,hq⟩ | ⟨rfl,o,hk,hc,hd⟩ | ⟨rfl,hk⟩ | ⟨rfl,S,n,hk⟩
   · obtain⟨its,_,pl,_⟩:=I.list hq
     refine⟨pl.isList.typeIs,fun a e=>?_⟩
     cases e
     obtain⟨o,n,e,c,hd,_⟩:=pl
     exact⟨o,e,hd⟩
   · refine⟨⟨o,I.kIn p o hk,hc⟩,fun a e=>?_⟩
     cases e
     exact⟨o,I.kIn _ o hk,hd⟩
   · have z:∃ o,s.heap.get? p=some o∧o.ExactDict:=by
       rcases hk with ⟨kvs,hk⟩ | ⟨kvs,hk⟩
       · obtain⟨_,_,_,_,o,_,_,e,ex,_⟩:=I.hok p _ hk
         exact⟨o,e,ex⟩
       · obtain⟨_,_,_,_,o,_,_,e,ex,_⟩:=I.hok p _ hk
         exact⟨o,e,ex⟩
     obtain⟨o,e,ex⟩:=z
     refine⟨⟨o,e,ex.1⟩,fun a e2=>?_⟩
     cases e2
     exact⟨o,e,ex.2.1⟩
   · obtain⟨o,_,_,_,e,ex,_⟩:=I.hok p _ hk
     refine⟨⟨o,e,ex.1⟩,fun a e2=>?_⟩
     cases e2
     exact⟨o,e,ex.2.1⟩
 | _=>exact False.elim ty
def yW (K:PySem.W.Frag)(T:String)(r:V→List V→Hp→VK→Prop)(to:TE):TE:=fun σ H Q=>to σ H fun x H1=>tyV K T x H1∧r x [] H1 Q
def tBM (K:PySem.W.Frag)(T:String)(r:V→List V→Hp→VK→Prop)(to:TE)(t:TA):TE:=fun σ H Q=>to σ H fun x H1=>tyV K T x H1∧t σ H1 fun xs H2=>r x xs H2 Q
variable {o e:Expr}{es:List Expr}{to:TE}{t:TA}{name:Str}{apos cpos:Pos}{T id:String}{r:V→List V→Hp→VK→Prop}
theorem cX (pa:PlainAttrs T)(slot:Slot T name id)(hty:typeOf (.builtin id)=pure (.type "method_descriptor"))(hm:MtR X id r)(ho:PE X o to)(ha:PA X (e::es) t)
   (hbase:attributeBase o name X.env (eval o X.env)=eval o X.env:=by rfl)
   (hfew:((backTo cpos (starEach (e::es) X.env)).all (fun x=>!x.1)&&(backToKw cpos (keywordEach [] X.env)).all (fun x=>x.1.isSome)
     && decide ((e::es).length+([]:List Keyword).length+(if([]:List Keyword).isEmpty then 0 else 1) < 30))=true:=by rfl)
   (hline:(apos.endLine==cpos.line)=true:=by rfl)(hs:starEach (e::es) X.env=(false,eval e X.env)::starEach es X.env:=by rfl)(hplain:(backTo cpos (starEach es X.env)).any (·.1)=false:=by rfl) :
   PE X (.Call (.Attribute o name apos) (e::es) [] cpos) (tBM X.K T r to t):=by
 intro pins s σ H Q I h
 refine wpAny_Call_method_late hbase hfew hline rfl (thn (ho s σ H _ I h) fun v s1 ⟨x,H1,I1,r1,ty,q1⟩=>?_)
 obtain⟨h1,h2⟩:=xL I1 r1 ty
 refine⟨T,id,pa,slot,hty,h1,h2,?_⟩
 have hA:=ha cpos s1 σ H1 _ I1 q1
 rw[hs] at hA ⊢
 refine Calls.callWith_builtin (by show(false||(backTo cpos (starEach es X.env)).any (·.1))=false;rw[hplain]<;>rfl) (Calls.evalArgs_plain ?_)
 exact thn hA fun us s2 ⟨vs,H2,I2,r2,q2⟩=>hm pins s2 σ H2 x vs v us Q I2 r1 r2 q2
/- xs.append(e),list.index on a module's tuple .. are MtR facts of 06m -/
end
end L2

namespace L2
open PySem PySem.Spec PyProof.Rows

def MtM (X:Cx)(id:String)(r:V→List V→Hp→VK→Prop):Prop :=
 ∀ (pins:List (Addr×Obj))(s:Shared) (σ:St)(H:Hp) (x:V)(xs:List V) (v:Value)(us:List Value)(Q:VK),Inv X pins σ H s→a8 x v→Vals xs us→r x xs H Q →
   wpAny (model X.prog X.w) X.A (call (.builtin id) (v::us)) (EP X pins σ Q) X.xe s

/-! ### lists of values -/
theorem Vals.one:∀ {x:V}{us:List Value},Vals [x] us→∃ u,us=[u]∧a8 x u
 | _,_,.cons r .nil=>⟨_,rfl,r⟩
theorem Vals.two:∀ {x y:V}{us:List Value},Vals [x,y] us→∃ u v,us=[u,v]∧a8 x u∧a8 y v
 | _,_,_,.cons r (.cons q .nil)=>⟨_,_,rfl,r,q⟩
theorem Vals.eraseIdx:∀ {xs:List V}{us:List Value} (i:Nat),Vals xs us→Vals (xs.eraseIdx i) (us.eraseIdx i)
 | _,_,_,.nil=>.nil
 | _,_,0,.cons _ t=>t
 | _,_,i+1,.cons r t=>.cons r (Vals.eraseIdx i t)
theorem Vals.rep {xs:List V}{us:List Value}(h:Vals xs us):∀ k:Nat,Vals (List.replicate k xs).flatten (List.replicate k us).flatten
 | 0=>.nil
 | k+1=>by
   rw[List.replicate_succ,List.replicate_succ,List.flatten_cons,List.flatten_cons]
   exact Vals.append h (Vals.rep h k)
theorem lY {α:Type}:∀ (l:List α) (i:Nat),(l.eraseIdx i).length≤l.length
 | [],_=>Nat.le_refl _
 | _::_,0=>Nat.le_succ _
 | _::r,i+1=>Nat.succ_le_succ (lY r i)
theorem lJ (its:List Value):∀ (k:Nat)(acc:List Value),
   List.foldl (fun x1 x2=>x1++x2) acc.toArray (List.replicate k its.toArray)=(acc++(List.replicate k its).flatten).toArray
 | 0,acc=>by simp
 | k+1,acc=>by
   have e:acc.toArray++its.toArray=(acc++its).toArray:=by simp
   have e2:(acc++its)++(List.replicate k its).flatten=acc++(List.replicate (k+1) its).flatten:=by
     rw[List.replicate_succ,List.flatten_cons,List.append_assoc]
   rw[←e2,←lJ its k (acc++its),←e,List.replicate_succ,List.foldl_cons]

section
variable {X:Cx}{pins:List (Addr×Obj)}{σ:St}{H:Hp}{s:Shared}{l b:Addr}{xs ys zs:List V}

/-! ### the two steps: a tracked list is rewritten,a new list is laid -/
theorem Inv.lset {its its':List Value}{n:Nat}{f:Array Value→Array Value}{t':Nat}(I:Inv X pins σ H s)(hH:H l=some (.lst xs))
   (e:s.heap.get? l=some { cls:=.type "list",data:=.seq its.toArray n })(hf:f its.toArray=its'.toArray)(hv:Vals ys its')(hz:ys.length≤sizeLine) :
   Inv X pins σ (upd H l (.lst ys)) { s with heap:=s.heap.update l (Obj.mapSeq f),toks:=t' }:=by
 have q:=PySem.IsL.update e f
 rw[hf] at q
 refine I.write (x:=l) (e:=l) (by rw[hH];exact trivial) (.inl rfl) (fun b' u hb hu=>(Heap.get?_update_other s.heap (Obj.mapSeq f) (Ne.symm hb)).trans hu) ⟨_,q⟩ ?_
 exact⟨hz,its',_,hv,q⟩
theorem Inv.lnew {its:List Value}{t':Nat}(I:Inv X pins σ H s)(hv:Vals ys its)(hz:ys.length≤sizeLine) :
   Inv X pins σ (upd H s.heap.objs.size (.lst ys)) { s with heap:=s.heap.push { cls:=.type "list",data:=.seq its.toArray },toks:=t' } :=
 I.laid (fun _ _ q=>Heap.get?_push_of_some _ q) (Nat.le_refl _) ⟨hz,its,0,hv,Heap.get?_push_size _ rfl⟩
theorem Inv.fresh (I:Inv X pins σ H s):H s.heap.objs.size=none:=I.hok.fresh (Nat.le_refl _)
theorem Inv.lstM (I:Inv X pins σ H s)(hH:H l=some (.lst xs)):xs.length≤sizeLine∧∃ (its:List Value) (n:Nat),Vals xs its∧xs.length=its.length∧s.heap.get? l=some { cls:=.type "list",data:=.seq its.toArray n }:=by
 obtain⟨z,its,n,r,e⟩:=I.hok l _ hH
 exact⟨z,its,n,r,r.length,e⟩

theorem nX {n:Nat}(h:n≤sizeLine):Builtin.List.listTooLong n=false:=by
 unfold Builtin.List.listTooLong
 exact decide_eq_false (by omega)
end

section
variable {X:Cx}

/-! ### methods -/
def rf:V→List V→Hp→VK→Prop:=fun x vs H Q=>∃ l xs y,x=.ref l∧vs=[y]∧H l=some (.lst xs)∧xs.length < sizeLine∧Q .non (upd H l (.lst (xs++[y])))
theorem cj:MtM X "list.append" rf:=by
 intro pins s σ H x vs v us Q I rx rv h
 obtain⟨l,xs,y,rfl,rfl,hH,hz,q⟩:=h
 cases rx
 obtain⟨u,rfl,ru⟩:=rv.one
 obtain⟨z,its,n,r,hl,e⟩:=I.lstM hH
 refine call_meets F.slot_list_append ⟨_,e,rfl⟩ F.entry_list_append (F.args_list_append_2 _ _) (PySem.list_append l its.toArray n u (by rw[List.size_toArray];omega)) ⟨e,?_⟩
 refine⟨.non,_,I.lset (its':=its++[u]) hH e (by simp) (r.append (.cons ru .nil)) ?_,rfl,q⟩
 rw[List.length_append,List.length_singleton]
 omega

def rE:V→List V→Hp→VK→Prop:=fun x vs H Q=>∃ l b xs zs,x=.ref l∧vs=[.ref b]∧H l=some (.lst xs)∧H b=some (.lst zs)∧xs.length+zs.length≤sizeLine∧Q .non (upd H l (.lst (xs++zs)))
theorem lG:MtM X "list.extend" rE:=by
 intro pins s σ H x vs v us Q I rx rv h
 obtain⟨l,b,xs,zs,rfl,rfl,hH,hB,hz,q⟩:=h
 cases rx
 obtain⟨u,rfl,ru⟩:=rv.one
 cases ru
 obtain⟨z,its,n,r,hl,e⟩:=I.lstM hH
 obtain⟨z2,its2,n2,r2,hl2,e2⟩:=I.lstM hB
 have hsz:its.toArray.size+its2.toArray.size≤sizeLine:=by rw[List.size_toArray,List.size_toArray];omega
 have hlong:¬(!its.toArray.isEmpty&&Builtin.List.listTooLong (its.toArray.size+its2.toArray.size))=true:=by
   rw[nX hsz,Bool.and_false]
   exact Bool.false_ne_true
 refine call_meets F.slot_list_extend ⟨_,e,rfl⟩ F.entry_list_extend (F.args_list_extend_2 _ _)
   (AutoSeq1.list_extend_list_list_0 l its.toArray n b its2.toArray n2 hlong (by rw[List.size_toArray];omega) (by omega)) ⟨e,e2,?_⟩
 refine⟨.non,_,I.lset (its':=its++its2) hH e (by simp) (r.append r2) ?_,rfl,q⟩
 rw[List.length_append]
 omega

def uS:V→List V→Hp→VK→Prop:=fun x vs H Q=>∃ l xs i k y,x=.ref l∧vs=[.int i]∧H l=some (.lst xs)∧-(2 ^ 63)≤i∧i < 2 ^ 63∧seqIndex? i xs.length=some k∧xs[k]?=some y∧Q y (upd H l (.lst (xs.eraseIdx k)))
theorem uC:MtM X "list.pop" uS:=by
 intro pins s σ H x vs v us Q I rx rv h
 obtain⟨l,xs,i,k,y,rfl,rfl,hH,h1,h2,hk,hy,q⟩:=h
 cases rx
 obtain⟨u,rfl,ru⟩:=rv.one
 obtain⟨t,rfl⟩:=ru
 obtain⟨z,its,n,r,hl,e⟩:=I.lstM hH
 obtain⟨w,hw,rw'⟩:=r.get hy
 refine call_meets F.slot_list_pop ⟨_,e,rfl⟩ F.entry_list_pop (F.args_list_pop_2 _ _)
   (MeetsSeq.list_pop_at l its.toArray n i t k w (fitsIndex_both h1 h2) (by rw[List.size_toArray,←hl];exact hk) (by rw[←Array.getElem?_toList];exact hw) (by rw[List.size_toArray];omega)) ⟨e,?_⟩
 refine⟨y,_,I.lset (its':=its.eraseIdx k) hH e ?_ (r.eraseIdx k) ?_,rw',q⟩
 · show its.toArray.eraseIdxIfInBounds k=(its.eraseIdx k).toArray
   rw[List.eraseIdxIfInBounds_toArray]
 · have:=lY xs k
   omega

/-! ### list+list,list += list,list*int -/
def yw:R2:=fun x y H Q=>∃ l b xs zs,x=.ref l∧y=.ref b∧H l=some (.lst xs)∧H b=some (.lst zs)∧xs.length+zs.length≤sizeLine∧∀ p,H p=none→Q (.ref p) (upd H p (.lst (xs++zs)))
theorem li:OpR X (binaryOp .Add) yw:=by
 intro pins s σ H x y v u Q I rx ry h
 obtain⟨l,b,xs,zs,rfl,rfl,hH,hB,hz,q⟩:=h
 cases rx
 cases ry
 obtain⟨z,its,n,r,hl,e⟩:=I.lstM hH
 obtain⟨z2,its2,n2,r2,hl2,e2⟩:=I.lstM hB
 refine PySem.P.add_list e e2 ?_ (by rw[List.size_toArray,List.size_toArray];omega)
 have ea:its.toArray++its2.toArray=(its++its2).toArray:=by simp
 rw[ea]
 exact⟨.ref _,_,I.lnew (t':=s.toks) (r.append r2) (by rw[List.length_append];omega),rfl,q _ I.fresh⟩
def yl:R2:=fun x y H Q=>∃ l k xs,x=.ref l∧y=.int k∧H l=some (.lst xs)∧-(2 ^ 63)≤k∧k < 2 ^ 63∧xs.length*k.toNat≤sizeLine ∧
 ∀ p,H p=none→Q (.ref p) (upd H p (.lst (List.replicate k.toNat xs).flatten))
theorem vP {α:Type}(xs:List α) (k:Nat):(List.replicate k xs).flatten.length=k*xs.length:=by
 induction k with
 | zero=>simp
 | succ k ih=>rw[List.replicate_succ,List.flatten_cons,List.length_append,ih,Nat.succ_mul,Nat.add_comm]
theorem x6:OpR X (binaryOp .Mult) yl:=by
 intro pins s σ H x y v u Q I rx ry h
 obtain⟨l,k,xs,rfl,rfl,hH,h1,h2,hz,q⟩:=h
 cases rx
 obtain⟨t,rfl⟩:=ry
 obtain⟨z,its,n,r,hl,e⟩:=I.lstM hH
 have hlen:its.toArray.size*k.toNat≤sizeLine:=by rw[List.size_toArray,←hl];exact hz
 have hcap:¬its.toArray.size*k.toNat > (2 ^ 63 - 1) / 8:=by
   have:(sizeLine:Nat)≤(2 ^ 63 - 1) / 8:=by decide
   omega
 have hfit:¬(!Builtin.List.listFitsIndex k)=true:=by
   rw[fitsIndex_both h1 h2]
   exact Bool.false_ne_true
 have hlong:¬Builtin.List.listTooLong (its.toArray.size*k.toNat)=true:=by
   rw[nX hlen]
   exact Bool.false_ne_true
 have hnew:List.foldl (fun x1 x2=>x1++x2) #[] (List.replicate (if its.toArray.isEmpty=true then 0 else k.toNat) its.toArray)=(List.replicate k.toNat its).flatten.toArray:=by
   have f0:∀ m:Nat,List.foldl (fun x1 x2=>x1++x2) #[] (List.replicate m its.toArray)=(List.replicate m its).flatten.toArray:=fun m=>by
     have:=lJ its m []
     rw[List.nil_append] at this
     exact this
   rw[f0]
   cases its with
   | nil=>simp
   | cons a r'=>rw[if_neg (by simp)]
 refine wpAny_binaryOp_repeat_ref (T:="list") (U:="int") (by decide) ⟨_,e,rfl⟩ (fun s'=>typeIs_int s' k t) noFill_list_mul F.fills_int_mul F.slot_int_rmul repeat_list F.slot_int_index.lookup
   (call_meets F.slot_int_rmul (typeIs_int s k t) F.entry_int_rmul (F.args_int_rmul_2 _ _) (int___rmul___int_list k t l its.toArray n)
     ⟨e,rfl,⟨_,e,rfl⟩,call_meets F.slot_list_mul ⟨_,e,rfl⟩ F.entry_list_mul (F.args_list_mul_2 _ _) (AutoListH.list___mul___list_int_3 l its.toArray n k t hfit hcap hlong) ⟨e,?_⟩⟩)
 rw[hnew]
 exact⟨.ref _,_,I.lnew (t':=s.toks) (r.rep k.toNat) (by rw[vP,Nat.mul_comm];exact hz),rfl,q _ I.fresh⟩

/-! ### del xs[i] -/
end

/-! ### xs[a:b]=ys -/
section
variable {prog:Program}{w:World}{A:Around}{E:Value→Shared→Prop}{s:Shared}
set_option maxRecDepth 100000 in
end

section
variable {X:Cx}
end
end L2

namespace L2
open PySem PySem.Spec PyProof.Rows

/-! ### lists of pairs as tables -/
section
variable {κ:Type} [DecidableEq κ]
def bP (kvs:List (κ×V))(k:κ):Option V:=(kvs.find? fun kv=>decide (kv.1=k)).map (·.2)
def fr (kvs:List (κ×V))(k:κ) (v:V):List (κ×V) :=
 if(kvs.any fun kv=>decide (kv.1=k))=true then kvs.map (fun kv=>if kv.1=k then(kv.1,v) else kv) else kvs++[(k,v)]
theorem dG {p:κ×V}{r:List (κ×V)}{k:κ}(e:p.1=k):bP (p::r) k=some p.2:=by simp[bP,List.find?_cons,e]
theorem cW {p:κ×V}{r:List (κ×V)}{k:κ}(e:¬p.1=k):bP (p::r) k=bP r k:=by simp[bP,List.find?_cons,e]
theorem kZ (k:κ):∀ kvs:List (κ×V),(kvs.any fun kv=>decide (kv.1=k))=(bP kvs k).isSome
 | []=>rfl
 | p::r=>by
   rw[List.any_cons]
   by_cases e:p.1=k
   · simp only[dG e,decide_eq_true e,Bool.true_or,Option.isSome_some]
   · rw[cW e,decide_eq_false e,Bool.false_or];exact kZ k r
theorem lP (k j:κ) (y:V):∀ kvs:List (κ×V),bP kvs k=none→bP (kvs++[(k,y)]) j=if j=k then some y else bP kvs j
 | [],_=>by
   by_cases e:k=j
   · rw[if_pos e.symm];exact dG (p:=(k,y)) e
   · rw[if_neg (fun z=>e z.symm)];exact cW (p:=(k,y)) e
 | p::r,hn=>by
   rw[List.cons_append]
   have hk:¬p.1=k:=fun z=>by rw[dG z] at hn;cases hn
   rw[cW hk] at hn
   have ih:=lP k j y r hn
   by_cases e:p.1=j
   · rw[dG e,dG e,if_neg (fun z=>hk (e.trans z))]
   · rw[cW e,cW e,ih]
theorem f7 (kvs:List (κ×V))(k:κ) (v:V):(fr kvs k v).length≤kvs.length+1:=by
 unfold fr
 split
 · rw[List.length_map];omega
 · rw[List.length_append,List.length_cons,List.length_nil];omega
theorem eA {kvs:List (κ×V)}{k:κ} (v:V)(h:bP kvs k=none):fr kvs k v=kvs++[(k,v)]:=by
 unfold fr
 rw[kZ,h]
 exact if_neg (by decide)

theorem gK.isSome_eq {o:Option V}{u:Option Value}(r:gK o u):o.isSome=u.isSome:=by
 cases o with
 | none=>cases u with
   | none=>rfl
   | some _=>exact(show False from r).elim
 | some _=>cases u with
   | none=>exact(show False from r).elim
   | some _=>rfl
theorem KV.val {kvs:List (κ×V)}{vs:List (κ×Value)}(r:KV kvs vs)(k:κ):gK (bP kvs k) (valueAt vs k):=by
 unfold KV at r
 induction r with
 | nil=>exact True.intro
 | @cons p q ps qs h t ih =>
   obtain⟨h1,h2⟩:=h
   by_cases e:p.1=k
   · have e':q.1=k:=h1.symm.trans e
     have b:valueAt (q::qs) k=some q.2:=by simp[valueAt,List.find?_cons,e']
     rw[dG e,b];exact h2
   · have e':¬q.1=k:=fun z=>e (h1.trans z)
     have b:valueAt (q::qs) k=valueAt qs k:=by simp[valueAt,List.find?_cons,e']
     rw[cW e,b];exact ih
theorem KV.any {kvs:List (κ×V)}{vs:List (κ×Value)}(r:KV kvs vs)(k:κ):(kvs.any fun kv=>decide (kv.1=k))=vs.any fun kv=>decide (kv.1=k):=by
 unfold KV at r
 induction r with
 | nil=>rfl
 | cons h t ih=>rw[List.any_cons,List.any_cons,ih,h.1]
theorem KV.repl {kvs:List (κ×V)}{vs:List (κ×Value)}(r:KV kvs vs)(k:κ){y:V}{u:Value}(ry:a8 y u) :
   KV (kvs.map fun kv=>if kv.1=k then(kv.1,y) else kv) (vs.map fun kv=>if kv.1=k then(kv.1,u) else kv):=by
 unfold KV at r ⊢
 induction r with
 | nil=>exact .nil
 | @cons p q ps qs h t ih =>
   rw[List.map_cons,List.map_cons]
   refine .cons ?_ ih
   obtain⟨h1,h2⟩:=h
   by_cases e:p.1=k
   · rw[if_pos e,if_pos (h1.symm.trans e)];exact⟨h1,ry⟩
   · rw[if_neg e,if_neg (fun z=>e (h1.trans z))];exact⟨h1,h2⟩
theorem KV.put {kvs:List (κ×V)}{vs:List (κ×Value)}(r:KV kvs vs)(k:κ){y:V}{u:Value}(ry:a8 y u):KV (fr kvs k y) (stored vs k u):=by
 unfold fr stored
 rw[r.any k]
 by_cases e:(vs.any fun kv=>decide (kv.1=k))=true
 · rw[if_pos e,if_pos e];exact r.repl k ry
 · rw[if_neg e,if_neg e];exact Paired.snoc r ⟨rfl,ry⟩
theorem KV.keys {kvs:List (κ×V)}{vs:List (κ×Value)}(r:KV kvs vs):kvs.map (·.1)=vs.map (·.1):=by
 unfold KV at r
 induction r with
 | nil=>rfl
 | cons h t ih=>rw[List.map_cons,List.map_cons,ih,h.1]
theorem KV.length {kvs:List (κ×V)}{vs:List (κ×Value)}(r:KV kvs vs):kvs.length=vs.length:=Paired.length r
end

/-! ### a tracked dict,its keys ints and texts or tuples of these -/
theorem lE {P:Program}{w:World}{k:Key}{u:Value}(r:a8 (kV k) u):(bJ P w).is k u=true:=by
 cases k with
 | inl i=>obtain⟨t,e⟩:=(show ∃ t,u=Value.int i t from r);subst e;exact oY P w i t
 | inr x=>obtain⟨t,e⟩:=(show ∃ t,u=Value.str x t from r);subst e;exact jq P w x t
theorem l8 {P:Program}{w:World}:∀ {ks:List Key}{us:List Value},Vals (ks.map kV) us→ItemsAre (bJ P w) ks us
 | [],_,r=>by rw[List.map_nil] at r;cases r;exact .nil
 | k::ks,_,r=>by
   rw[List.map_cons] at r
   cases r with
   | cons h t=>exact .cons (lE h) (l8 t)

abbrev KT (H:Hp):List (List Key×V)→List (List Key×Addr×Value)→Prop:=Paired fun p q=>p.1=q.1∧H q.2.1=some (.tup (p.1.map kV))∧a8 p.2 q.2.2
theorem KT.val {H:Hp}{kvs:List (List Key×V)}{xs:List (List Key×Addr×Value)}(r:KT H kvs xs)(k:List Key):gK (bP kvs k) ((atKey xs k).map (·.2)):=by
 induction r with
 | nil=>exact True.intro
 | @cons p q ps qs h t ih =>
   obtain⟨h1,_,h2⟩:=h
   by_cases e:p.1=k
   · have e':q.1=k:=h1.symm.trans e
     have b:atKey (q::qs) k=some q.2:=by simp[atKey,List.find?_cons,e']
     rw[dG e,b];exact h2
   · have e':¬q.1=k:=fun z=>e (h1.trans z)
     have b:atKey (q::qs) k=atKey qs k:=by simp[atKey,List.find?_cons,e']
     rw[cW e,b];exact ih
theorem KT.repl {H:Hp}{kvs:List (List Key×V)}{xs:List (List Key×Addr×Value)}(r:KT H kvs xs)(k:List Key){y:V}{u:Value}(ry:a8 y u) :
   KT H (kvs.map fun kv=>if kv.1=k then(kv.1,y) else kv) (xs.map (putAt k u)):=by
 induction r with
 | nil=>exact .nil
 | @cons p q ps qs h t ih =>
   rw[List.map_cons,List.map_cons]
   refine .cons ?_ ih
   obtain⟨h1,h2,h3⟩:=h
   unfold putAt
   by_cases e:p.1=k
   · rw[if_pos e,if_pos (h1.symm.trans e)];exact⟨h1,h2,ry⟩
   · rw[if_neg e,if_neg (fun z=>e (h1.trans z))];exact⟨h1,h2,h3⟩
theorem KT.put {H:Hp}{kvs:List (List Key×V)}{xs:List (List Key×Addr×Value)}(r:KT H kvs xs)(k:List Key){b:Addr}{y:V}{u:Value}(hb:H b=some (.tup (k.map kV)))(ry:a8 y u) :
   KT H (fr kvs k y) (storedH xs k b u):=by
 have e:(kvs.any fun kv=>decide (kv.1=k))=(atKey xs k).isSome:=by
   rw[kZ,(r.val k).isSome_eq,Option.isSome_map]
 unfold fr storedH
 rw[e]
 by_cases q:(atKey xs k).isSome=true
 · rw[if_pos q,if_pos q];exact r.repl k ry
 · rw[if_neg q,if_neg q];exact Paired.snoc r ⟨rfl,hb,ry⟩
theorem KT.keeps {H H':Hp}{kvs:List (List Key×V)}{xs:List (List Key×Addr×Value)}(r:KT H kvs xs)(ht:∀ b ys,H b=some (.tup ys)→H' b=some (.tup ys)):KT H' kvs xs :=
 Paired.mapP r fun _ _ z=>⟨z.1,ht _ _ z.2.1,z.2.2⟩

section
variable {P:Program}{w:World}{H:Hp}{h:Heap}{a:Addr}
theorem w8 {u:HO}(ok:HOk P w H h)(e:Rd H a u):bE P w H h a u:=e.ok ok
theorem jX {kvs:List (Key×V)}(ok:HOk P w H h)(e:Rd H a (.dK kvs)):kvs.length≤sizeLine∧(a==sysModules)=false∧∃ vs,KV kvs vs∧h.DictOf (bJ P w) a vs :=
 show bE P w H h a (.dK kvs) from w8 ok e
theorem xk {kvs:List (Key×V)}(ok:HOk P w H h)(e:H a=some (.dK kvs)):kvs.length≤sizeLine∧(a==sysModules)=false∧∃ vs,KV kvs vs∧h.DictOf (bJ P w) a vs:=jX ok (.inl e)
theorem kQ {ks:List Key}(ok:HOk P w H h)(e:H a=some (.tup (ks.map kV))):(tupleKind (bJ P w)).is h ks a:=by
 obtain⟨_,its,r,o,h1,h2,n,h3⟩:=(show bE P w H h a (.tup (ks.map kV)) from ok a _ e)
 exact⟨o,its.toArray,n,h1,h2,h3,by simpa using l8 r⟩
theorem nN {kvs:List (List Key×V)}(ok:HOk P w H h)(e:Rd H a (.dT kvs)):kvs.length≤sizeLine∧(a==sysModules)=false ∧
   ∃ xs,KT H kvs xs∧h.DictOfH (tupleKind (bJ P w)) a xs:=by
 obtain⟨z,y,xs,r,o,es,ep,h1,h2,h3,h4,h5⟩:=(show bE P w H h a (.dT kvs) from w8 ok e)
 refine⟨z,y,xs,r,o,es,ep,h1,h2,h3,h4,fun x hx=>?_,h5⟩
 have all:∀ {l:List (List Key×V)}{m:List (List Key×Addr×Value)},KT H l m→∀ x∈m,(tupleKind (bJ P w)).is h x.1 x.2.1:=by
   intro l m q
   induction q with
   | nil=>intro x hx;exact nomatch hx
   | @cons p q ps qs hq t ih =>
     intro x hx
     rcases List.mem_cons.mp hx with e | hx
     · subst e
       exact kQ ok (by rw[←hq.1];exact hq.2.1)
     · exact ih x hx
 exact all r x hx
theorem yO {kvs:List (List Key×V)}(ok:HOk P w H h)(e:H a=some (.dT kvs)):kvs.length≤sizeLine∧(a==sysModules)=false ∧
 ∃ xs,KT H kvs xs∧h.DictOfH (tupleKind (bJ P w)) a xs:=nN ok (.inl e)
end

def eJ (H:Hp)(a:Addr) (y:V)(r:Option V):Prop :=
 (∃ kvs k,Rd H a (.dK kvs)∧y=kV k∧r=bP kvs k)∨∃ kvs k b,Rd H a (.dT kvs)∧y=.ref b∧H b=some (.tup (k.map kV))∧r=bP kvs k
def pL (H:Hp)(a:Addr) (y v:V)(H':Hp):Prop :=
 (∃ kvs k,H a=some (.dK kvs)∧y=kV k∧kvs.length < sizeLine∧H'=upd H a (.dK (fr kvs k v))) ∨
 ∃ kvs k b,H a=some (.dT kvs)∧y=.ref b∧H b=some (.tup (k.map kV))∧kvs.length < sizeLine∧H'=upd H a (.dT (fr kvs k v))
theorem eJ.t {H:Hp}{a b:Addr}{kvs:List (List Key×V)}{k:List Key}(e:H a=some (.dT kvs))(eb:H b=some (.tup (k.map kV))):eJ H a (.ref b) (bP kvs k):=.inr ⟨kvs,k,b,.inl e,rfl,eb,rfl⟩
theorem pL.t {H:Hp}{a b:Addr}{kvs:List (List Key×V)}{k:List Key}{v:V}(e:H a=some (.dT kvs))(eb:H b=some (.tup (k.map kV)))(hl:kvs.length < sizeLine) :
 pL H a (.ref b) v (upd H a (.dT (fr kvs k v))):=.inr ⟨kvs,k,b,e,rfl,eb,hl,rfl⟩

section
variable {X:Cx}{pins:List (Addr×Obj)}{σ:St}{H:Hp}{s:Shared}{a:Addr}{y v:V}{u r:Value}{o:Option V}{A:Around}{E:Value→Shared→Prop}

theorem Inv.big (I:Inv X pins σ H s):sysModules < s.heap.objs.size:=by
 have h:mainGlobals < s.heap.objs.size:=(I.mod.glob.keeps I.bk).lt
 exact Nat.lt_trans (by decide) h

theorem rO {Q:Value→Shared→Prop}(hu:A.units+1 < cLine)(I:Inv X pins σ H s)(g:eJ H a y (some v))(ry:a8 y u)(h:∀ w' s',Inv X pins σ H s'→a8 v w'→Q w' s') :
   wpAny (model X.prog X.w) A (getItem (.ref a) u) Q E s:=by
 rcases g with ⟨kvs,k,e,ey,l⟩ | ⟨kvs,k,b,e,ey,eb,l⟩
 · subst ey
   obtain⟨z,hd,vs,rel,dd⟩:=jX I.hok e
   obtain⟨w',hw,rw'⟩:=gK.some_of (v:=v) (o:=valueAt vs k) (by rw[l];exact rel.val k)
   exact wpAny_getItem_of (lE ry) dd.mapOf hw (h w' _ (I.tok _) rw')
 · subst ey
   cases (show u=Value.ref b from ry)
   obtain⟨z,hd,xs,rel,dd⟩:=nN I.hok e
   obtain⟨w',hw,rw'⟩:=gK.some_of (v:=v) (o:=(atKey xs k).map (·.2)) (by rw[l];exact rel.val k)
   obtain⟨p,hp,hp2⟩:=Option.map_eq_some_iff.mp hw
   refine wpAny_getItem_heap (tupleKind_room_in1 hu) (kQ I.hok eb) dd hp ?_
   rw[hp2]
   exact h w' _ (I.tok _) rw'
theorem y2 {Q:Value→Shared→Prop}(hu:A.units+1 < cLine)(I:Inv X pins σ H s)(g:eJ H a y o)(ry:a8 y u)(h:∀ s',Inv X pins σ H s'→Q (.bool o.isSome) s') :
   wpAny (model X.prog X.w) A (compareOp .In u (.ref a)) Q E s:=by
 rcases g with ⟨kvs,k,e,ey,l⟩ | ⟨kvs,k,b,e,ey,eb,l⟩
 · subst ey
   obtain⟨z,hd,vs,rel,dd⟩:=jX I.hok e
   refine wpAny_in_of (lE ry) hd dd.mapOf ?_
   rw[←(rel.val k).isSome_eq,←l]
   exact h _ (I.tok _)
 · subst ey
   cases (show u=Value.ref b from ry)
   obtain⟨z,hd,xs,rel,dd⟩:=nN I.hok e
   refine wpAny_in_heap (tupleKind_room_in1 hu) (kQ I.hok eb) hd dd ?_
   have q:=(rel.val k).isSome_eq
   rw[Option.isSome_map] at q
   rw[←q,←l]
   exact h _ (I.tok _)
theorem v9 {Q:Value→Shared→Prop}(hu:A.units+1 < cLine)(I:Inv X pins σ H s)(g:eJ H a y o)(ry:a8 y u)(h:∀ s',Inv X pins σ H s'→Q (.bool (!o.isSome)) s') :
   wpAny (model X.prog X.w) A (compareOp .NotIn u (.ref a)) Q E s:=by
 rcases g with ⟨kvs,k,e,ey,l⟩ | ⟨kvs,k,b,e,ey,eb,l⟩
 · subst ey
   obtain⟨z,hd,vs,rel,dd⟩:=jX I.hok e
   refine wpAny_notIn_of (lE ry) hd dd.mapOf ?_
   rw[←(rel.val k).isSome_eq,←l]
   exact h _ (I.tok _)
 · subst ey
   cases (show u=Value.ref b from ry)
   obtain⟨z,hd,xs,rel,dd⟩:=nN I.hok e
   refine wpAny_notIn_heap (tupleKind_room_in1 hu) (kQ I.hok eb) hd dd ?_
   have q:=(rel.val k).isSome_eq
   rw[Option.isSome_map] at q
   rw[←q,←l]
   exact h _ (I.tok _)
theorem mQ {h':Heap}{t':Nat}{ob:HO}(I:Inv X pins σ H s)(mu:Mut (H a))(hs:Heap.SameBut a s.heap h')(he:∃ q,h'.get? a=some q)(new:bE X.prog X.w (upd H a ob) h' a ob) :
   Inv X pins σ (upd H a ob) { s with heap:=h',toks:=t' } :=
 I.write (x:=a) (e:=a) mu (.inl rfl) (fun b q hb z=>(hs.2 b hb).trans z) he new
theorem pB {P:Program}{w:World}{H':Hp}{h':Heap}{kvs:List (Key×V)}{vs:List (Key×Value)}(z:kvs.length≤sizeLine)(hd:(a==sysModules)=false)(rel:KV kvs vs)(dd:h'.DictOf (bJ P w) a vs) :
 bE P w H' h' a (.dK kvs):=⟨z,hd,vs,rel,dd⟩
theorem tp {H':Hp}{Q:Unit→Shared→Prop}(hu:A.units+1 < cLine)(I:Inv X pins σ H s)(g:pL H a y v H')(ry:a8 y u)(rv:a8 v r)(h:∀ s',Inv X pins σ H' s'→Q () s') :
   wpAny (model X.prog X.w) A (setItem (.ref a) u r) Q E s:=by
 rcases g with ⟨kvs,k,e,ey,l,eH⟩ | ⟨kvs,k,b,e,ey,eb,l,eH⟩
 · subst ey eH
   obtain⟨z,hd,vs,rel,dd⟩:=xk I.hok e
   have hz:vs.length≤sizeLine:=by rw[←rel.length];exact z
   have hl:(fr kvs k v).length≤sizeLine:=by have:=f7 kvs k v;omega
   refine wpAny_setItem_pairs (hsz:=hz) (lE ry) dd fun h' dd' hs=>h _ ?_
   have he:∃ q,h'.get? a=some q:=let ⟨q,_,_,hq,_⟩:=dd';⟨q,hq⟩
   exact mQ I (by rw[e];exact True.intro) hs he (pB hl hd (rel.put k rv) dd')
 · subst ey eH
   cases (show u=Value.ref b from ry)
   obtain⟨z,hd,xs,rel,dd⟩:=yO I.hok e
   have hz:xs.length≤sizeLine:=by rw[←Paired.length rel];exact z
   have hl:(fr kvs k v).length≤sizeLine:=by have:=f7 kvs k v;omega
   refine wpAny_setItem_heap (hsz:=hz) (tupleKind_room_in1 hu) (kQ I.hok eb) dd fun h' dd' hs=>h _ ?_
   obtain⟨q,es,ep,hq,h2,h3,h4,_,h5⟩:=dd'
   refine mQ I (by rw[e];exact True.intro) hs ⟨q,hq⟩ ⟨hl,hd,_,(rel.put k eb rv).keeps fun c ys ec=>?_,q,es,ep,hq,h2,h3,h4,h5⟩
   rw[ai (yG ec e (fun z=>nomatch z))]
   exact ec
end

section
variable {X:Cx}{pins:List (Addr×Obj)}{σ:St}{H:Hp}{s:Shared}{a:Addr}{kvs:List (Key×V)}{k:Key}{u:Value}{A:Around}{E:Value→Shared→Prop}
theorem yy {Q:Value→Shared→Prop}(I:Inv X pins σ H s)(e:Rd H a (.dK kvs))(h:∀ t s',Inv X pins σ H s'→Q (.int kvs.length t) s'):wpAny (model X.prog X.w) A (call (.builtin "len") [.ref a]) Q E s:=by
 obtain⟨z,hd,vs,rel,dd⟩:=jX I.hok e
 refine call_len_dict hd dd (by rw[←rel.length];rw[sizeLine_eq] at z;omega) ?_
 rw[←rel.length]
 exact h _ _ (I.tok _)
end

/-! ### readings and rules -/
def yL (i:Expr):Prop:=∀ ov iv,subscripted i false ov iv=operate [ov,iv] (getItem ov iv)
theorem vV {prog:Program}{w:World}{A:Around}{E:Value→Shared→Prop}{s:Shared}{env:Env}{value slice:Expr}{pos:Pos}{T id:String}{Q:Value→Shared→Prop}
   (hl:typeLookup (.type T) "__getitem__"=pure (some (.builtin id)))(hs:yL slice)
   (h:wpAny (model prog w) A (eval value env) (fun o s₁=>wpAny (model prog w) A (eval slice env) (fun i s₂=>s₂.TypeIs o T∧wpAny (model prog w) A (getItem o i) Q E s₂) E s₁) E s) :
   wpAny (model prog w) A (eval (.Subscript value slice pos) env) Q E s:=by
 refine Subscript_ (wpAny_mono h (fun o s₁ h₁=>wpAny_mono h₁ (fun i s₂ h₂=>?_) fun _ _ x=>x) fun _ _ x=>x)
 obtain⟨hT,h₂⟩:=h₂
 unfold subscriptTail
 refine wpAny_bind ?_
 rw[getitemInPython_of_ne hT.not_modules]
 refine wpAny_bind (wpAny_specialOf hT hl ?_)
 have fin:wpAny (model prog w) A (subscripted slice false o i) (fun r s₃=>wpAny (model prog w) A (letTemporaryGo value o r >>= fun _=>pure r) Q E s₃) E s₂:=by
   rw[hs o i]
   exact wpAny_operating (wpAny_mono h₂ (fun r s₃ h₃=>wpAny_bind (wpAny_letTemporaryGo (wpAny_pure h₃))) fun _ _ x=>x)
 first
   | exact wpAny_pure (wpAny_bind fin)
   | exact wpAny_bind (wpAny_pure (wpAny_bind fin))
   | exact wpAny_bind fin

theorem oq {X:Cx}{pins:List (Addr×Obj)}{σ:St}{H:Hp}{s:Shared}{a:Addr}{y:V}{o:Option V}(I:Inv X pins σ H s)(g:eJ H a y o):s.TypeIs (.ref a) "dict":=by
 rcases g with ⟨kvs,k,e,_,_⟩ | ⟨kvs,k,b,e,_,_,_⟩
 · obtain⟨_,_,vs,_,dd⟩:=jX I.hok e
   exact dd.typeIs
 · obtain⟨_,_,xs,_,dd⟩:=nN I.hok e
   exact dd.typeIs
def wS (td ty:TE):TE:=fun σ H Q=>td σ H fun x H1=>ty σ H1 fun y H2=>∃ a v,x=.ref a∧eJ H2 a y (some v)∧Q v H2
def yP (ty td:TE):TE:=fun σ H Q=>ty σ H fun y H1=>td σ H1 fun x H2=>∃ a o,x=.ref a∧eJ H2 a y o∧Q (.bl o.isSome) H2
def qP (ty td:TE):TE:=fun σ H Q=>ty σ H fun y H1=>td σ H1 fun x H2=>∃ a o,x=.ref a∧eJ H2 a y o∧Q (.bl (!o.isSome)) H2
def xc (td ty tv:TE):TS:=fun D σ H=>tv σ H fun v H1=>td σ H1 fun x H2=>ty σ H2 fun y H3=>∃ a H4,x=.ref a∧pL H3 a y v H4∧D.nx σ H4
section
variable {X:Cx}{o i e value:Expr}{pos pos' tpos:Pos}{td ty tv:TE}
theorem ca (hu:X.A.units+1 < cLine)(ho:PE X o td)(hi:PE X i ty)(hs:yL i):PE X (.Subscript o i pos) (wS td ty):=by
 intro pins s σ H Q I h
 refine vV PySem.F.slot_dict_getitem.lookup hs (thn (ho s σ H _ I h) fun u s1 ⟨x,H1,I1,rx,q1⟩=>thn (hi s1 σ H1 _ I1 q1) fun iv s2 ⟨y,H2,I2,ry,a,v,ex,g,q2⟩=>?_)
 subst ex
 obtain rfl:u=Value.ref a:=rx
 exact⟨oq I2 g,rO hu I2 g ry fun w' s3 I3 rw'=>⟨v,H2,I3,rw',q2⟩⟩
theorem pT (hu:X.A.units+1 < cLine)(hi:PE X i ty)(ho:PE X o td):PC X .In i o (yP ty td):=by
 intro pins s σ H Q I h
 refine thn (hi s σ H _ I h) fun iv s1 ⟨y,H1,I1,ry,q1⟩=>thn (ho s1 σ H1 _ I1 q1) fun u s2 ⟨x,H2,I2,rx,a,ov,ex,g,q2⟩=>?_
 subst ex
 obtain rfl:u=Value.ref a:=rx
 exact y2 hu I2 g ry fun s3 I3=>⟨.bl ov.isSome,H2,I3,rfl,q2⟩
theorem dz (hu:X.A.units+1 < cLine)(hi:PE X i ty)(ho:PE X o td):PC X .NotIn i o (qP ty td):=by
 intro pins s σ H Q I h
 refine thn (hi s σ H _ I h) fun iv s1 ⟨y,H1,I1,ry,q1⟩=>thn (ho s1 σ H1 _ I1 q1) fun u s2 ⟨x,H2,I2,rx,a,ov,ex,g,q2⟩=>?_
 subst ex
 obtain rfl:u=Value.ref a:=rx
 exact v9 hu I2 g ry fun s3 I3=>⟨.bl (!ov.isSome),H2,I3,rfl,q2⟩
theorem gu (hu:X.A.units+1 < cLine)(ho:PE X o td)(hi:PE X i ty)(hv:PE X value tv)(hs:swapsWith value (some (.Subscript o i pos')) pos.line X.env=pure false) :
   PS X (.Assign [.Subscript o i pos'] value pos) (xc td ty tv):=by
 intro pins s σ H D I h
 refine wpAny_Assign_Subscript (thn (hv s σ H _ I h) fun r s1 ⟨v,H1,I1,rv,q1⟩=>thn (ho s1 σ H1 _ I1 q1) fun u s2 ⟨x,H2,I2,rx,q2⟩=>thn (hi s2 σ H2 _ I2 q2) fun iv s3 ⟨y,H3,I3,ry,a,H4,ex,g,q3⟩=>?_) hs
 subst ex
 obtain rfl:u=Value.ref a:=rx
 exact tp hu I3 g ry rv fun s4 I4=>⟨σ,H4,I4,q3⟩
end

/-! ### displays -/
theorem ot {P:Program}{w:World}{H:Hp}(h:Heap)(hb:sysModules < h.objs.size):bE P w H (h.push { cls:=.type "dict",data:=.dict #[] }) h.objs.size (.dK []) :=
 ⟨Nat.zero_le _,beq_eq_false_iff_ne.mpr (Ne.symm (Nat.ne_of_lt hb)),[],.nil,Heap.DictOf.new h⟩
theorem ux {P:Program}{w:World}{H:Hp}(h:Heap)(hb:sysModules < h.objs.size):bE P w H (h.push { cls:=.type "dict",data:=.dict #[] }) h.objs.size (.dT []) :=
 ⟨Nat.zero_le _,beq_eq_false_iff_ne.mpr (Ne.symm (Nat.ne_of_lt hb)),[],.nil,_,#[],0,Heap.get?_push_size _ rfl,⟨rfl,rfl,rfl⟩,rfl,rfl,List.nodup_nil⟩
def uQ:TE:=fun _ H Q=>∀ p,H p=none→Q (.ref p) (upd H p (.dK []))
def vt:TE:=fun _ H Q=>∀ p,H p=none→Q (.ref p) (upd H p (.dT []))
section
variable {X:Cx}{pos:Pos}
theorem iz:PE X (.Dict [] [] pos) uQ:=fun pins s σ H Q I h =>
 wpAny_Dict_empty ⟨.ref s.heap.objs.size,_,I.laid (a:=s.heap.objs.size) (o:=.dK []) (t':=s.toks) (fun _ _ q=>Heap.get?_push_of_some _ q) (Nat.le_refl _) (ot s.heap I.big),rfl,h _ (I.hok.fresh (Nat.le_refl _))⟩
theorem nF:PE X (.Dict [] [] pos) vt:=fun pins s σ H Q I h =>
 wpAny_Dict_empty ⟨.ref s.heap.objs.size,_,I.laid (a:=s.heap.objs.size) (o:=.dT []) (t':=s.toks) (fun _ _ q=>Heap.get?_push_of_some _ q) (Nat.le_refl _) (ux s.heap I.big),rfl,h _ (I.hok.fresh (Nat.le_refl _))⟩
end

def mF:List (TE×TE)→St→Hp→(List (V×V)→Hp→Prop)→Prop
 | [],_,H,Q=>Q [] H
 | (tk,tv)::r,σ,H,Q=>tk σ H fun x H1=>tv σ H1 fun y H2=>mF r σ H2 fun ps H3=>Q ((x,y)::ps) H3
abbrev VV:List (V×V)→List (Value×Value)→Prop:=Paired fun p q=>a8 p.1 q.1∧a8 p.2 q.2
def PPs (X:Cx)(pos:Pos)(keys:List (Option Expr))(values:List Expr)(trs:List (TE×TE)):Prop :=
 ∀ (pins:List (Addr×Obj))(s:Shared) (σ:St)(H:Hp)(Q:List (V×V)→Hp→Prop),Inv X pins σ H s→mF trs σ H Q →
   wpAny (model X.prog X.w) X.A (evalPairs (pairTrees keys values X.env pos)) (fun vs s'=>∃ ps H',Inv X pins σ H' s'∧VV ps vs∧Q ps H') X.xe s
theorem we {X:Cx}{pos:Pos}:PPs X pos [] [] []:=fun pins s σ H Q I h=>pairTrees_nil_walk ⟨[],H,I,.nil,h⟩
theorem uz {X:Cx}{pos:Pos}{k v:Expr}{ks:List (Option Expr)}{vs:List Expr}{tk tv:TE}{trs:List (TE×TE)}(hk:PE X k tk)(hv:PE X v tv)(hr:PPs X pos ks vs trs) :
   PPs X pos (some k::ks) (v::vs) ((tk,tv)::trs):=fun pins s σ H Q I h =>
 pairTrees_cons_walk (thn (hk s σ H _ I h) fun u s1 ⟨x,H1,I1,rx,q1⟩=>thn (hv s1 σ H1 _ I1 q1) fun w2 s2 ⟨y,H2,I2,ry,q2⟩ =>
   thn (hr pins s2 σ H2 _ I2 q2) fun ws s3 ⟨ps,H3,I3,rel,q3⟩=>⟨(x,y)::ps,H3,I3,.cons ⟨rx,ry⟩ rel,q3⟩)

def cQ (kvs more:List (Key×V)):List (Key×V):=more.foldl (fun acc kv=>fr acc kv.1 kv.2) kvs
theorem KV.merge:∀ {more:List (Key×V)}{rs:List (Key×Value)}{kvs:List (Key×V)}{vs:List (Key×Value)},KV more rs→KV kvs vs→KV (cQ kvs more) (merged vs rs):=by
 intro more rs kvs vs r
 unfold KV at r
 induction r generalizing kvs vs with
 | nil=>intro q;exact q
 | @cons p q ps qs h t ih =>
   intro r0
   have e:KV (fr kvs p.1 p.2) (stored vs q.1 q.2):=by
     have:=r0.put p.1 h.2
     rw[←h.1];exact this
   exact ih e
theorem eW:∀ (more kvs:List (Key×V)),(cQ kvs more).length≤kvs.length+more.length
 | [],kvs=>by show kvs.length≤kvs.length+0;omega
 | p::r,kvs=>by
   have h1:=eW r (fr kvs p.1 p.2)
   have h2:=f7 kvs p.1 p.2
   show(cQ (fr kvs p.1 p.2) r).length≤_
   rw[List.length_cons];omega
theorem kP {P:Program}{w:World}:∀ {kvs:List (Key×V)}{ws:List (Value×Value)},VV (kvs.map fun kv=>(kV kv.1,kv.2)) ws→∃ rs,Carries (bJ P w) ws rs∧KV kvs rs
 | [],_,r=>by rw[List.map_nil] at r;cases r;exact⟨[],True.intro,.nil⟩
 | p::kvs,_,r=>by
   rw[List.map_cons] at r
   cases r with
   | @cons a b as bs h t =>
     obtain⟨rs,c,q⟩:=kP (P:=P) (w:=w) t
     obtain⟨b1,b2⟩:=b
     exact⟨(p.1,b2)::rs,⟨lE h.1,rfl,c⟩,.cons ⟨rfl,h.2⟩ q⟩
def wM (trs:List (TE×TE)):TE:=fun σ H Q=>∀ p,H p=none→mF trs σ (upd H p (.dK [])) fun ps H2=>H2 p=some (.dK [])∧∃ kvs:List (Key×V),ps=kvs.map (fun kv=>(kV kv.1,kv.2))∧kvs.length≤15∧Q (.ref p) (upd H2 p (.dK (cQ [] kvs)))
theorem vI {X:Cx}{pos:Pos}{keys:List (Option Expr)}{values:List Expr}{trs:List (TE×TE)}(h:PPs X pos keys values trs)(hall:keys.all (·.isSome)=true)(hl:keys.length=values.length)(h0:keys≠[])
   (h15:keys.length≤15):PE X (.Dict keys values pos) (wM trs):=by
 intro pins s σ H Q I q
 have hn:=I.hok.fresh (Nat.le_refl s.heap.objs.size)
 have I1:=I.laid (a:=s.heap.objs.size) (o:=.dK []) (h':=s.heap.push { cls:=.type "dict",data:=.dict #[] }) (t':=s.toks) (fun _ _ q=>Heap.get?_push_of_some _ q) (Nat.le_refl _) (ot s.heap I.big)
 refine wpAny_Dict_walk (knd:=bJ X.prog X.w) hall hl h0 h15 (thn (h pins _ σ _ _ I1 (q _ hn)) fun ws s2 ⟨ps,H2,I2,rel,e,kvs,ep,lk,q2⟩=>?_)
 subst ep
 obtain⟨rs,c,rk⟩:=kP (P:=X.prog) (w:=X.w) rel
 obtain⟨z,hd,vs0,r0,dd⟩:=xk I2.hok e
 cases r0
 refine⟨rs,c,dd,fun h' dd' hs=>⟨.ref s.heap.objs.size,_,?_,rfl,q2⟩⟩
 have hz:(cQ [] kvs).length≤sizeLine:=by
   have h1:=eW kvs []
   rw[List.length_nil] at h1
   rw[sizeLine_eq];omega
 have he:∃ q,h'.get? s.heap.objs.size=some q:=let ⟨q,_,_,hq,_⟩:=dd';⟨q,hq⟩
 exact mQ I2 (by rw[e];exact True.intro) hs he (pB hz hd (rk.merge .nil) dd')

/-! ### methods -/
section
variable {X:Cx}{pins:List (Addr×Obj)}{σ:St}{H:Hp}{s:Shared}{a:Addr}{y d:V}{u r:Value}{o:Option V}{A:Around}{E:Value→Shared→Prop}
end

section
variable {X:Cx}{o e f:Expr}{apos cpos:Pos}{td ty tx:TE}
end

/-! ### dict(d): a copy -/
section
variable {X:Cx}{pins:List (Addr×Obj)}{σ:St}{H:Hp}{s:Shared}{a:Addr}{kvs:List (Key×V)}{A:Around}{E:Value→Shared→Prop}
end

section
variable {X:Cx}{pins:List (Addr×Obj)}{σ:St}{H:Hp}{s:Shared}{a:Addr}{y:V}{u:Value}{A:Around}{E:Value→Shared→Prop}
end
end L2

namespace Att
open PySem PySem.W PySem.Calls PyProof.Rows

/-! ### the script -/
theorem jx {P:Params}{h:Heap}:∀ (ns:List Int)(vs:List Value),WellAll P h vs (ns.map WData.int)→IntsAre vs ns:=by
 intro ns
 induction ns with
 | nil =>
   intro vs w
   rw[List.map_nil] at w
   cases w
   exact .nil
 | cons n ns ih =>
   intro vs w
   rw[List.map_cons] at w
   cases w with
   | cons a b =>
     cases a
     exact .cons _ _ (ih _ b)

theorem rN {l:OpenLaw}{n:Nat}(hn:l.most=some n){P:Params}{h:Heap}{args:List WData}{vals:List Value}
   (hpre:l.row.toRowW.claim.pre args=true)(hwl:WellAll P h vals args) :
   ∃ a vs ns,vals=[Value.ref a]∧args=[WData.list (ns.map WData.int)]∧h.get? a=some { cls:=.type "list",data:=.seq vs.toArray }∧IntsAre vs ns∧ns.length≤n:=by
 have hsh:WShape.hasAll [] args [.list .int]=true:=(pre_splitW hpre).1
 have hc:l.pre.holds [] { args:=args }=true:=(pre_splitW hpre).2
 obtain⟨d,r,rfl,h1,h2⟩:=hasAllW_cons hsh
 obtain rfl:=hasAllW_nil h2
 obtain⟨xs,rfl,h3⟩:=hasW_list h1
 obtain⟨ns,rfl⟩:=items_int h3
 have hlen:ns.length≤n:=by
   unfold OpenLaw.pre at hc
   have h4:(WTm.not (.lt (.lit (.int (n:Int))) (.len (.arg 0)))).holds [] { args:=[.list (ns.map .int)] }=true:=by
     have h4:=(holds_andW hc).1
     rw[hn] at h4
     exact h4
   have h5:=condW_of h4 (w_not (w_lt w_lit (w_len_list (w_arg rfl))))
   rw[List.length_map] at h5
   refine Nat.le_of_not_lt fun q=>?_
   have q':(n:Int) < ((ns.length:Nat):Int):=by omega
   first
     | (rw[decide_eq_true q'] at h5;exact absurd h5 (by decide))
     | (simp at h5;omega)
 cases hwl with
 | cons w1 w2 =>
   cases w2
   cases w1 with
   | list ho hall=>exact⟨_,_,ns,rfl,rfl,ho,jx ns _ hall,hlen⟩

theorem sG (l:OpenLaw)(args:List WData):l.row.toRowW.claim.post args (.bool true) args=true :=
 postW_of (r:=l.row.toRowW) (X:=(true==true))
   (show WShape.has [] (.bool true) .bool=true by first | rfl | decide | simp[WShape.has,WShape.arms,WShape.armsAll])
   (show(WTm.eq .res (.lit (.bool true))).value [] { args:=args,res:=some (.bool true),after:=args }=some (.bool (true==true)) from w_eq_bool (w_res rfl) w_lit) rfl

/-! ### the attachment: holds_open's last premise (the goal 'hc' behind k_head) from a wpAny of the law's body -/
theorem attach_call {l:OpenLaw}{n:Nat}{q:Program}{loose:List Str}{XP:(Str→Option Value)→Heap→Prop}{YP:World→Heap→Prop}{d:DefRec}
   (hn:l.most=some n)(hdf:d.params.defaults=[])
   (call:∀ (w:World)(s₀ s₁:Shared)(mg mb:Str→Option Value)(fa:Addr)(o:Obj) (pm cd doc:Value)(a:Addr)(vs:List Value)(ns:List Int),
     Ground q loose [] XP w s₀ mg mb s₁.heap→YP w s₁.heap →
     s₁.heap.get? fa=some o→o.data=.func (docDef d.name d.params d.body d.scope pm cd doc)→s₁.heap.CodeRec cd d.name→mg d.name=some (.ref fa) →
     s₁.heap.get? a=some { cls:=.type "list",data:=.seq vs.toArray }→IntsAre vs ns→ns.length≤n→s₁.gens=#[] →
     codeAny (model l.prog w) callerA (.call (.ref fa) ⟨[.ref a],[]⟩) (fun r s'=>r=.ok (.ret (.bool true))∧OldK s₁.heap s'.heap∧s'.os=s₁.os∧AllBare s'.gens) s₁) :
   WalkO q loose XP YP l.row.toRowW d [] (fun f vs=>PySem.call f vs):=by
 intro w s₀ s₁ mg mb G Y fa o pm cd doc dV kV ho hd hcd hD hmg hg args vals as hpre hlay hrd hwl hlo
 obtain rfl:dV=.none:=Dflts.none hD hdf
 obtain rfl:kV=.none:=Dflts.noKw hD
 obtain⟨a,vs,ns,rfl,rfl,hobj,hints,hlen⟩:=rN hn hpre hwl
 refine enter_call (codeAny_mono (call w s₀ s₁ mg mb fa o pm cd doc a vs ns G Y ho (fd_plain hd) hcd hmg hobj hints hlen hg) fun r s' hq=>?_)
 obtain⟨rfl,h2,h3,h4⟩:=hq
 exact⟨.inl ⟨.bool true,.bool true,[],rfl,fun _=>rfl,.bool true,sG l _,fun _=>⟨List.Pairwise.nil,fun _ hm=>(nomatch hm)⟩⟩,h2,h3,h4⟩

/-! ### rules over ANY heap (no ledger) from facts about the written part K: the library's own take a ledger (News) for what they write -/
section
variable {prog:Program}{w:World}{A:Around}{E:Value→Shared→Prop}{s:Shared}{K:Frag}

/-! the whole heap as the ledger: makes every rule that writes through a ledger a rule over any heap -/
def ledger (h:Heap)(L d:Addr):List (Addr×Obj):=(List.range h.objs.size).filterMap fun a=>if a=L∨a=d then none else(h.get? a).map fun o=>(a,o)
end
end Att

namespace L2
open PySem PySem.Spec PyProof.Rows

theorem mi:∀ {vs:List Value}{ns:List Int},IntsAre vs ns→Vals (ns.map V.int) vs
 | _,_,.nil=>.nil
 | _,_,.cons n t h=>.cons ⟨t,rfl⟩ (mi h)

def xZ (H:Hp):Prop:=∀ b,H b=none∨∃ o xs,H b=some (.frz o (.lst xs))

theorem vy {P:Program}{w:World}{K:PySem.W.Frag}{mg mb:Str→Option Value}{CX:CXT}{k:Nat}{fa a:Addr}{fd:FuncData}{x:Str}{sp:Sp}{s₁:Shared}{vs:List Value}{ns:List Int}
   (KX:K.In s₁.heap)(hns:s₁.heap.Ns mainGlobals mg)(hb:s₁.heap.Ns builtinsNs mb)(hbb:∀ x:Str,x≠"__name__"→mb x=bootBuiltins x)(hlim:s₁.heap.NoLimit)(hg:s₁.gens=#[])
   (ha:s₁.heap.get? a=some { cls:=.type "list",data:=.seq vs.toArray })(hi:IntsAre vs ns)(hl:ns.length≤sizeLine)(hr:dN k callerA)
   (F:∀ base:Heap,K.In base→base.Ns mainGlobals mg→aw P w K mg base CX k fa fd [x] sp)(hbind:∀ (s:Shared) (u:Value),BindsTo s fd ⟨[u],[]⟩ [(x,u)])
   (hsp:∀ H:Hp,xZ H→SqL K H a (ns.map V.int)→sp [.ref a] H (fun v _=>v=.bl true) fun _ _ _=>False)
   (hCX:∀ H e s',CX [] H s₁ (fun _ _ _=>False) e s'→False) :
   codeAny (model P w) callerA (.call (.ref fa) ⟨[.ref a],[]⟩) (fun r s'=>r=.ok (.ret (.bool true))∧OldK s₁.heap s'.heap∧s'.os=s₁.os∧AllBare s'.gens) s₁:=by
 have rv:=mi hi
 have lenV:=hi.length
 have core:∀ H:Hp,xZ H→SqL K H a (ns.map V.int)→HOk P w H s₁.heap→(∀ b,H b≠none→b=a)→(H a≠none→K.lookup a=none) →
     codeAny (model P w) callerA (.call (.ref fa) ⟨[.ref a],[]⟩) (fun r s'=>r=.ok (.ret (.bool true))∧OldK s₁.heap s'.heap∧s'.os=s₁.os∧AllBare s'.gens) s₁:=by
   intro H hO hS hok hA hK
   have base_of:∀ {b:Addr}{o:Obj},s₁.heap.get? b=some o→H b=none→(nz s₁.heap H).get? b=some o:=fun e n=>ub e n
   have noA:∀ {b:Addr}{o:Obj}{es:Array DictEntry}{ep:Nat},s₁.heap.get? b=some o→o.data=.dict es ep→H b=none:=fun {b o es ep} e d=>by
     cases q:H b with
     | none=>rfl
     | some u =>
       have e':b=a:=hA b (by rw[q];simp)
       subst e'
       rw[ha] at e;cases e
       have d':Data.seq vs.toArray _=Data.dict es ep:=d
       cases d'
   have nsK:∀ {b:Addr}{m:Str→Option Value},s₁.heap.Ns b m→(nz s₁.heap H).Ns b m:=fun {b m} ⟨o,es,ep,e,d,r⟩=>⟨o,es,ep,base_of e (noA e d),d,r⟩
   have hKb:K.In (nz s₁.heap H):=fun b o e=>base_of (KX b o e) (by
     cases q:H b with
     | none=>rfl
     | some u =>
       have e':b=a:=hA b (by rw[q];simp)
       subst e'
       rw[hK (by rw[q];simp)] at e;cases e)
   have hM:Mod K mg (nz s₁.heap H):=⟨hKb,nsK hns,⟨mb,nsK hb,hbb⟩,let ⟨mc,h1,h2⟩:=hlim;⟨mc,nsK h1,h2⟩⟩
   have e0:qE P w K mg (nz s₁.heap H) callerA [] s₁ H:=⟨rfl,hM,fun b o e=>wb e,Nat.le_of_eq (sd _ _),trivial,fun b hb=>absurd (show b∈([]:List Addr) from hb) (by simp),hok,.of_eq hg⟩
   refine codeAny_mono ((F _ hKb (nsK hns)).run callerA [] s₁ H ⟨[.ref a],[]⟩ [.ref a] [.ref a] _ _ hr e0 (hbind s₁ (.ref a)) (.cons rfl .nil) (hsp H hO hS)) fun r s' h=>?_
   cases r with
   | error e=>exact(hCX H e s' h).elim
   | ok fl =>
     cases fl with
     | next=>exact False.elim h
     | brk=>exact False.elim h
     | cont=>exact False.elim h
     | ret u =>
       obtain⟨v,H',os,bare,un,hok',r',q⟩:=h
       have q':v=.bl true:=q
       subst q'
       obtain rfl:u=Value.bool true:=r'
       refine⟨rfl,OldK.of_keep fun b o e=>?_,os,bare⟩
       cases q:H b with
       | none=>exact un.keep b o e q (by intro z;exact absurd (show b∈([]:List Addr) from z) (by simp)) (by simp)
       | some u =>
         rcases hO b with z | ⟨ob,xs,z⟩
         · rw[q] at z;cases z
         · have z2:=un.frzs b ob _ z
           obtain⟨e1,_⟩:=hok b _ z
           obtain⟨e2,_⟩:=hok' b _ z2
           rw[e] at e1;cases e1
           exact e2
 cases hk:K.lookup a with
 | some o =>
   have e:=KX a o hk
   rw[ha] at e
   cases e
   refine core (fun _=>none) (fun _=>.inl rfl) (.inr ⟨_,vs.toArray,_,hk,rfl,rfl,rfl,by rw[List.size_toArray,lenV];exact hl,by simpa using rv⟩) (fun b u z=>by have z':(none:Option HO)=some u:=z;cases z') (fun b z=>absurd rfl z) fun z=>absurd rfl z
 | none =>
   refine core (fun b=>if b=a then some (.frz { cls:=.type "list",data:=.seq vs.toArray } (.lst (ns.map V.int))) else none) (fun b=>?_) (.inl (.inr ⟨{ cls:=.type "list",data:=.seq vs.toArray },if_pos rfl⟩)) (fun b u z=>?_) (fun b z=>?_) fun _=>hk
   · by_cases hb:b=a
     · exact .inr ⟨_,_,if_pos hb⟩
     · exact .inl (if_neg hb)
   · by_cases hb:b=a
     · have z':=(if_pos hb).symm.trans z
       cases z'
       subst hb
       exact⟨ha,by rw[List.length_map];exact hl,vs,_,rv,ha⟩
     · have z':=(if_neg hb).symm.trans z
       cases z'
   · by_cases hb:b=a
     · exact hb
     · exact absurd (if_neg hb) z
end L2

namespace L2
open PySem PySem.Spec PyProof.Rows

theorem walk_of {l:PySem.W.OpenLaw}{n k:Nat}{q:Program}{loose:List Str}{XP:(Str→Option Value)→Heap→Prop}{YP:World→Heap→Prop}{d:DefRec}{K:Params→PySem.W.Frag}{CX:World→CXT}{sp:World→Sp}{x:Str}
   (hn:l.most=some n)(hn2:n≤sizeLine)(hdf:d.params.defaults=[])(hr:dN k callerA)
   (hY:∀ (w:World)(h:Heap),YP w h→(K w.params).In h)
   (F:∀ (w:World)(mg:Str→Option Value)(fa:Addr)(h:Heap),(K w.params).In h→h.Ns mainGlobals mg→mg d.name=some (.ref fa) →
     ∃ fd:FuncData,(∀ (s:Shared) (u:Value),BindsTo s fd ⟨[u],[]⟩ [(x,u)]) ∧
       ∀ base:Heap,(K w.params).In base→base.Ns mainGlobals mg→aw l.prog w (K w.params) mg base (CX w) k fa fd [x] (sp w))
   (hsp:∀ (w:World)(H:Hp)(a:Addr)(ns:List Int),ns.length≤n→xZ H→SqL (K w.params) H a (ns.map V.int)→sp w [.ref a] H (fun v _=>v=.bl true) fun _ _ _=>False)
   (hCX:∀ (w:World)(H:Hp)(s:Shared) (e:Value)(s':Shared),CX w [] H s (fun _ _ _=>False) e s'→False) :
   PySem.W.WalkO q loose XP YP l.row.toRowW d [] (fun f vs=>PySem.call f vs):=by
 refine Att.attach_call hn hdf fun w s₀ s₁ mg mb fa o pm cd doc a vs ns G Y ho hd hcd hmg hobj hints hlen hg=>?_
 have KX:=hY w _ Y
 obtain⟨fd,hb,hF⟩:=F w mg fa _ KX G.T.g hmg
 exact vy KX G.T.g G.T.b G.T.builtins G.T.nolimit hg hobj hints (Nat.le_trans hlen hn2) hr hF hb (fun H hO hS=>hsp w H a ns hlen hO hS) fun H e s'=>hCX w H s₁ e s'
end L2

/- THE LAST THEOREM (shape;LID,My.* are yours):
 My.Adr: a structure of the addresses that your layer names (classes,functions);My.Txt K t: a structure (Prop) of the equations over K;
 My.txt_mk:{K} {implicit addresses ..}(e1:nsIn K mainGlobals "law"=some (some (.ref f)))(e2:K.lookup f=some ⟨oc,od,.func (fnOf "law" "law" params body scope dV kV doc pm an cdv ct),sl⟩)(e3:codeIn K cdv "law"=true) ..:∃ t,My.Txt K t

set_option maxRecDepth 100000 in
set_option maxHeartbeats 0 in
(the tactic k_is has no namespace: write k_is) -/

/-! SHORT WORDS over the layer: a def of the text,its body,what a loop and a test want. -/
namespace L2
open PySem PySem.Spec PyProof.Rows

/-! ### the text by places -/
def cg (s:Stmt) (j:Nat):Stmt:=match s with
 | .ClassDef _ _ _ body _ _ _ _ _ _ _=>body.getD j (.Pass ⟨0,0,0,0⟩)
 | _=>.Pass ⟨0,0,0,0⟩
def av (s:Stmt):Arguments:=match s with
 | .FunctionDef _ a _ _ _ _ _ _ _ _=>a
 | _=>{ posonlyargs:=[],args:=[],vararg:=none,kwonlyargs:=[],kw_defaults:=[],kwarg:=none,defaults:=[] }
def ap (s:Stmt):List Stmt:=match s with
 | .FunctionDef _ _ b _ _ _ _ _ _ _=>b
 | _=>[]
def ae (s:Stmt):Scope:=match s with
 | .FunctionDef _ _ _ _ _ _ sc _ _ _=>sc
 | _=>{ kind:=.function,names:=[],isGenerator:=false,isCoroutine:=false }

/-! ### no exception leaves a def -/
abbrev CX0:CXT:=fun _ _ _ _ _ _=>False
abbrev E0:XK:=fun _ _ _=>False
theorem aH {X:Cx}:fQ CX0 X E0:=fun _ _ _ _ _ _ _ h=>h.elim

/-! ### a def (or method) of the text as it stands behind the top -/
structure Fun (K:PySem.W.Frag) (x qual:Str)(st:Stmt)(f:Addr)(fd:FuncData):Prop where
 ex:∃ (oc:Value)(od:Option Addr) (kV doc pm:Value)(an:Option Addr) (cdv ct:Value)(osl:Array (Option Value)),
   fd=PySem.W.fnOf x qual (av st) (ap st) (ae st) .none kV doc pm an cdv ct∧K.lookup f=some ⟨oc,od,.func fd,osl⟩∧PySem.W.codeIn K cdv qual=true
 kp:PySem.W.keepIn K (.ref f)=true
section
variable {P:Program}{w:World}{K:PySem.W.Frag}{mg:Str→Option Value}{base:Heap}
theorem Fun.ok {x qual:Str}{st:Stmt}{f:Addr}{fd:FuncData}{N ps:List Str}{k:Nat}{sp:Sp}(F:Fun K x qual st f fd)(S:au N ps (ae st))(len:∀ vs H Q E,sp vs H Q E→vs.length=ps.length)
   (hbody:∀ (cdv:Value)(A:Around)(outer:List Env)(s:Shared)(H:Hp)(vs:List V)(Q:VK)(E:XK),dN k (A.deeper (envOfC qual (ae st) s.heap.objs.size f cdv))→sp vs H Q E →
     ∃ t,PSs (cr CX0 P w K mg base N qual (ae st) f cdv A outer s H E).nox (ap st) t∧t { nx:=fun _ H'=>Q .non H',rt:=Q } (start N vs) H):aw P w K mg base CX0 (k+1) f fd ps sp:=by
 obtain⟨oc,od,kV,doc,pm,an,cdv,ct,osl,rfl,lk,hcd⟩:=F.ex
 refine wX lk hcd S len fun A outer s H vs Q E hr hsp=>?_
 obtain⟨t,h,q⟩:=hbody cdv A outer s H vs Q E hr hsp
 exact⟨t,h.nox,q⟩
theorem Fun.binds {x qual:Str}{st:Stmt}{f:Addr}{fd:FuncData}{ps:List Str}(F:Fun K x qual st f fd)
   (h:∀ (kV doc pm:Value)(an:Option Addr) (cdv ct:Value)(us:List Value),us.length=ps.length→bindArgs (PySem.W.fnOf x qual (av st) (ap st) (ae st) .none kV doc pm an cdv ct) ⟨us,[]⟩=pure (ps.zip us)):az K fd ps []:=by
 obtain⟨oc,od,kV,doc,pm,an,cdv,ct,osl,rfl,lk,hcd⟩:=F.ex
 exact .all (h kV doc pm an cdv ct)
theorem aJ {x qual:Str}{st:Stmt}{f:Addr}{oc:Value}{od an:Option Addr}{osl:Array (Option Value)}{kV doc pm cdv ct:Value}(l:K.lookup f=some ⟨oc,od,.func (PySem.W.fnOf x qual (av st) (ap st) (ae st) .none kV doc pm an cdv ct),osl⟩)
 (c:PySem.W.codeIn K cdv qual=true)(k:PySem.W.keepIn K (.ref f)=true):Fun K x qual st f (PySem.W.fnOf x qual (av st) (ap st) (ae st) .none kV doc pm an cdv ct):=⟨⟨oc,od,kV,doc,pm,an,cdv,ct,osl,rfl,l,c⟩,k⟩
end
/-! ### expressions in short: the name that stands in the i-th slot -/
section
variable {X:Cx}
theorem pv (i:Nat){x:Str}{pos:Pos}(hN:X.N[i]?=some x:=by rfl)(hv:Vis X.env.scope x:=by first | exact Or.inl rfl | exact Or.inr (Or.inl rfl) | exact Or.inr (Or.inr rfl))(hd:(x==("__debug__":Str))=false:=by decide)
 (hcd:(x==("__classdict__":Str))=false:=by decide):PE X (.Name x pos) (tw i):=xr hN hv hd hcd
theorem sy:cx X (.builtin "len") (fun xs H Q=>∃ a kvs,xs=[V.ref a]∧H a=some (.dK kvs)∧Q (.int kvs.length) H):=by
 intro pins s σ H xs us Q I r h
 obtain⟨a,kvs,rfl,ha,q⟩:=h
 obtain⟨u,rfl,ru⟩:=dq r
 cases ru
 exact yy I (.inl ha) fun t s' I'=>⟨.int kvs.length,H,I',⟨t,rfl⟩,q⟩
end

/-! ### tests -/
theorem aV {c A B:Prop} [Decidable c](h1:c→A)(h2:¬c→B):if c then A else B:=by
 by_cases h:c
 · rw[if_pos h]
   exact h1 h
 · rw[if_neg h]
   exact h2 h
/-! ### heaps -/
def af (H H':Hp):Prop:=∀ b o,H b=some o→H' b=some o
theorem af.refl (H:Hp):af H H:=fun _ _ h=>h
theorem af.trans {H H1 H2:Hp}(a:af H H1)(b:af H1 H2):af H H2:=fun c o h=>b c o (a c o h)
theorem af.free {H H':Hp}(e:af H H'){l:Addr}(h:H' l=Option.none):H l=Option.none:=by
 cases q:H l with
 | none=>rfl
 | some o =>
   rw[e l o q] at h
   cases h
theorem af.seq {K:PySem.W.Frag}{H H':Hp}{a:Addr}{xs:List V}(e:af H H')(h:SqL K H a xs):SqL K H' a xs:=by
 rcases h with (h | ⟨o,h⟩) | h
 · exact .inl (.inl (e _ _ h))
 · exact .inl (.inr ⟨o,e _ _ h⟩)
 · exact .inr h

/-! ### a dict's pairs: keys that differ -/
section
variable {κ:Type} [DecidableEq κ]
theorem mK:∀ {l:List κ}{k:κ},l.Nodup→¬k∈l→(l++[k]).Nodup
 | [],k,_,_=>by simp
 | a::r,k,h,hk=>by
   obtain⟨h1,h2⟩:=List.nodup_cons.mp h
   show(a::(r++[k])).Nodup
   refine List.nodup_cons.mpr ⟨fun m=>?_,mK h2 fun m=>hk (List.mem_cons.mpr (Or.inr m))⟩
   rcases List.mem_append.mp m with q | q
   · exact h1 q
   · exact hk (List.mem_cons.mpr (Or.inl (List.mem_singleton.mp q).symm))
end
end L2

set_option Elab.async false
set_option linter.all false
set_option maxRecDepth 100000
set_option maxHeartbeats 4000000
namespace L2
open PySem PySem.Spec PyProof.Rows

/-! ### list comprehensions of one clause without a test -/
def jv (cells:List (Str×Addr)):List (Str×NameKind)→List (Str×Addr)→List (Str×Addr)
 | [],acc=>acc
 | (n,k)::r,acc=>jv cells r (if(k==.free)=true then(n,(cells.lookup n).getD 0)::acc else acc)
def ju (scope:Scope)(env:Env):List (Str×Addr):=jv env.cells scope.names []
theorem gZ {env:Env}:∀ (names:List (Str×NameKind))(acc:List (Str×Addr)),(∀ y∈names,y.2=.free→∃ c,env.cells.lookup y.1=some c) →
   (forIn names acc (fun(x:Str×NameKind)(r:List (Str×Addr))=>if(x.2==.free)=true then(do let c ←cellOf env x.1;pure (ForInStep.yield ((x.1,c)::r))) else pure (ForInStep.yield r)):Sem (List (Str×Addr)))=pure (jv env.cells names acc)
 | [],acc,_=>by simp[jv]
 | (n,k)::r,acc,h=>by
   have hr:∀ y∈r,y.2=.free→∃ c,env.cells.lookup y.1=some c:=fun y hy=>h y (List.mem_cons_of_mem _ hy)
   by_cases hk:(k==NameKind.free)=true
   · obtain⟨c,hc⟩:=h (n,k) List.mem_cons_self (by simpa using hk)
     have e:cellOf env n=pure c:=by unfold cellOf;rw[show env.cells.lookup n=some c from hc]
     simp only[List.forIn_cons,hk,if_true,e,pure_bind,jv,hc,Option.getD_some]
     exact gZ r _ hr
   · simp only[List.forIn_cons,hk,Bool.false_eq_true,if_false,pure_bind,jv]
     exact gZ r _ hr
theorem fH {env:Env}{scope:Scope}(h:∀ y∈scope.names,y.2=.free→∃ c,env.cells.lookup y.1=some c):closureFor scope env=pure (ju scope env):=by
 unfold closureFor ju
 have:=gZ scope.names [] h
 simpa using this
end L2

set_option Elab.async false
set_option linter.all false
set_option maxRecDepth 100000
set_option maxHeartbeats 4000000
namespace L2
open PySem PySem.Spec PyProof.Rows

theorem jU {cells:List (Str×Addr)}{n:Str}{c:Addr}:∀ (names:List (Str×NameKind))(acc:List (Str×Addr)),(n,c)∈jv cells names acc→(n,c)∈acc∨((n,NameKind.free)∈names∧c=(cells.lookup n).getD 0)
 | [],acc,h=>.inl h
 | (y,k)::r,acc,h=>by
   have h':(n,c)∈jv cells r (if(k==.free)=true then(y,(cells.lookup y).getD 0)::acc else acc):=h
   rcases jU r _ h' with q | ⟨q1,q2⟩
   · by_cases hk:(k==NameKind.free)=true
     · rw[if_pos hk] at q
       rcases List.mem_cons.mp q with e | q
       · injection e with e1 e2
         subst e1
         have hk':k=.free:=by simpa using hk
         subst hk'
         exact .inr ⟨List.mem_cons_self,e2⟩
       · exact .inl q
     · rw[if_neg hk] at q
       exact .inl q
   · exact .inr ⟨List.mem_cons_of_mem _ q1,q2⟩
theorem my {cells:List (Str×Addr)}{p:Str×Addr}:∀ (names:List (Str×NameKind))(acc:List (Str×Addr)),p∈acc→p∈jv cells names acc
 | [],acc,h=>h
 | (y,k)::r,acc,h=>by
   show p∈jv cells r (if(k==.free)=true then(y,(cells.lookup y).getD 0)::acc else acc)
   refine my r _ ?_
   split
   · exact List.mem_cons_of_mem _ h
   · exact h
theorem nL {cells:List (Str×Addr)}{n:Str}:∀ (names:List (Str×NameKind))(acc:List (Str×Addr)),(n,NameKind.free)∈names→(n,(cells.lookup n).getD 0)∈jv cells names acc
 | (y,k)::r,acc,h=>by
   show _∈jv cells r (if(k==.free)=true then(y,(cells.lookup y).getD 0)::acc else acc)
   rcases List.mem_cons.mp h with e | h
   · injection e with e1 e2
     subst e1 e2
     exact my r _ (by rw[if_pos (by rfl)];exact List.mem_cons_self)
   · exact nL r _ h
theorem eO {n:Str}{c:Addr}:∀ {l:List (Str×Addr)},(n,c)∈l→(∀ d,(n,d)∈l→d=c)→l.lookup n=some c
 | (y,d)::r,h,ha=>by
   by_cases e:n=y
   · subst e
     have hd:d=c:=ha d List.mem_cons_self
     simp[List.lookup_cons,hd]
   · have e':(n==y)=false:=by simpa using e
     rw[List.lookup_cons,e']
     refine eO ?_ fun d hd=>ha d (List.mem_cons_of_mem _ hd)
     rcases List.mem_cons.mp h with z | z
     · injection z with z1 _
       exact absurd z1 e
     · exact z
theorem jt {env:Env}{scope:Scope}{n:Str}{c:Addr}(h:(n,NameKind.free)∈scope.names)(hc:env.cells.lookup n=some c):(ju scope env).lookup n=some c:=by
 unfold ju
 have h1:=nL (cells:=env.cells) scope.names [] h
 rw[hc] at h1
 refine eO h1 fun d hd=>?_
 rcases jU _ _ hd with q | ⟨_,q⟩
 · cases q
 · rw[hc] at q;exact q
theorem wJ {env:Env}{scope:Scope}{n:Str}{c:Addr}(hf:∀ y∈scope.names,y.2=.free→∃ c,env.cells.lookup y.1=some c)(h:(ju scope env).lookup n=some c):(n,NameKind.free)∈scope.names∧env.cells.lookup n=some c:=by
 have hm:=PySem.mem_of_lookup h
 unfold ju at hm
 rcases jU _ _ hm with q | ⟨q1,q2⟩
 · cases q
 · obtain⟨d,hd⟩:=hf _ q1 rfl
   have hd:env.cells.lookup n=some d:=hd
   rw[hd] at q2
   have e:c=d:=q2
   subst e
   exact⟨q1,hd⟩

def cxB (X:Cx)(N:List Str)(scope:Scope)(s:Shared)(H:Hp)(ex:List Addr):Cx where
 prog:=X.prog
 w:=X.w
 K:=X.K
 mg:=X.mg
 base:=X.base
 A:=X.A
 N:=N
 s₀:=s
 H₀:=H
 env:=compEnvC scope (ju scope X.env) s.heap.objs.size X.env
 outer:=X.stack
 stack:=X.stack
 ex:=ex
 calm:=X.calm
 fn:=fun _=>false
 pn:=[]
 xe:=fun _ _=>False

def gP (pk:List (Option Nat)) (σ:St):St:=pk.map fun o=>o.bind fun j=>(σ[j]?).bind id

structure cc (N:List Str)(env:Env)(scope:Scope)(N':List Str)(pk:List (Option Nat)):Prop where
 kind:scope.kind=.function
 nocell:∀ y∈scope.names,y.2≠.cell
 names:∀ y∈scope.names,y.2=.local→scope.names.lookup y.1=some .local
 free:∀ y∈scope.names,y.2=.free→(env.scope.names.lookup y.1=some .cell∨env.scope.names.lookup y.1=some .free)
 len:pk.length=N'.length
 cap:∀ (i:Nat) (x:Str),N'[i]?=some x→∀ (j:Nat),pk[i]?=some (some j)→N[j]?=some x∧scope.names.lookup x=some .free

theorem jb {env:Env}{x:Str}{k:NameKind}:∀ {names:List (Str×NameKind)},(names.map fun(n,k)=>if(k==NameKind.free&&env.scope.kind==.function&&env.kindOf n==some .cell) then(n,NameKind.cell) else(n,k)).lookup x=some k→k=.cell∨k=.free →
   (∀ y∈names,y.2≠.cell)→(x,NameKind.free)∈names
 | [],h,_,_=>by simp at h
 | (n,k')::r,h,hk,hc=>by
   have hc':∀ y∈r,y.2≠.cell:=fun y hy=>hc y (List.mem_cons_of_mem _ hy)
   have h':List.lookup x ((if(k'==NameKind.free&&env.scope.kind==.function&&env.kindOf n==some .cell)=true then(n,NameKind.cell) else(n,k'))::(r.map fun(n,k)=>if(k==NameKind.free&&env.scope.kind==.function&&env.kindOf n==some .cell) then(n,NameKind.cell) else(n,k)))=some k:=h
   by_cases e:x=n
   · subst e
     by_cases hq:(k'==NameKind.free&&env.scope.kind==.function&&env.kindOf x==some .cell)=true
     · have:k'=.free:=by
         rw[Bool.and_eq_true,Bool.and_eq_true] at hq
         simpa using hq.1.1
       rw[←this];exact List.mem_cons_self
     · rw[if_neg hq] at h'
       simp[List.lookup_cons] at h'
       subst h'
       rcases hk with hk | hk
       · exact absurd hk (hc _ List.mem_cons_self)
       · rw[←hk];exact List.mem_cons_self
   · have e':(x==n)=false:=by simpa using e
     have h2:List.lookup x (r.map fun(n,k)=>if(k==NameKind.free&&env.scope.kind==.function&&env.kindOf n==some .cell) then(n,NameKind.cell) else(n,k))=some k:=by
       split at h'<;>(rw[List.lookup_cons,e'] at h';exact h')
     exact List.mem_cons_of_mem _ (jb h2 hk hc')
theorem kt {env:Env}{x:Str}:∀ {names:List (Str×NameKind)},names.lookup x=some .free →
   (names.map fun(n,k)=>if(k==NameKind.free&&env.scope.kind==.function&&env.kindOf n==some .cell) then(n,NameKind.cell) else(n,k)).lookup x=some .cell ∨
   (names.map fun(n,k)=>if(k==NameKind.free&&env.scope.kind==.function&&env.kindOf n==some .cell) then(n,NameKind.cell) else(n,k)).lookup x=some .free
 | [],h=>by simp at h
 | (n,k')::r,h=>by
   show List.lookup x ((if(k'==NameKind.free&&env.scope.kind==.function&&env.kindOf n==some .cell)=true then(n,NameKind.cell) else(n,k'))::(r.map fun(n,k)=>if(k==NameKind.free&&env.scope.kind==.function&&env.kindOf n==some .cell) then(n,NameKind.cell) else(n,k)))=_ ∨
     List.lookup x ((if(k'==NameKind.free&&env.scope.kind==.function&&env.kindOf n==some .cell)=true then(n,NameKind.cell) else(n,k'))::(r.map fun(n,k)=>if(k==NameKind.free&&env.scope.kind==.function&&env.kindOf n==some .cell) then(n,NameKind.cell) else(n,k)))=_
   by_cases e:x=n
   · subst e
     have hk:k'=.free:=by simpa [List.lookup_cons] using h
     subst hk
     split
     · left;simp[List.lookup_cons]
     · right;simp[List.lookup_cons]
   · have e':(x==n)=false:=by simpa using e
     rw[List.lookup_cons,e'] at h
     have ih:=kt (env:=env) (x:=x) (names:=r) h
     split<;>(simp only[List.lookup_cons,e'];exact ih)
section
variable {X:Cx}{pins:List (Addr×Obj)}{σ:St}{H:Hp}{s:Shared}{scope:Scope}{N':List Str}{pk:List (Option Nat)}{fp:List Addr}

theorem iy (I:Inv X pins σ H s)(B:cc X.N X.env scope N' pk):∀ y∈scope.names,y.2=.free→∃ c,X.env.cells.lookup y.1=some c:=fun y hy hf=>I.ok.has y.1 (B.free y hy hf)

theorem rD {h₁:Heap}{t:Nat}(I:Inv X pins σ H s)(B:cc X.N X.env scope N' pk)(hf:∀ b∈fp,e5 X pins H b)(ho:∀ b∈fp,∃ o,s.heap.get? b=some o)
   (hn:h₁.Ns s.heap.objs.size (fun _=>none))(hs:∀ b o,s.heap.get? b=some o→h₁.get? b=some o) :
   Inv (cxB X N' scope s H fp) [] (gP pk σ) H { s with heap:=h₁,toks:=t }:=by
 have bh:=iy I B
 have clx:∀ x c,(ju scope X.env).lookup x=some c→(x,NameKind.free)∈scope.names∧X.env.cells.lookup x=some c:=fun x c h=>wJ bh h
 refine⟨⟨I.ok.mod,?_,I.ok.glob,I.ok.blt,Nat.le_refl _,fun x y c h1 h2=>?_,fun x hx=>?_,fun x c h _=>?_,I.ok.hd,I.ok.frames,.inl rfl,fun b hb=>⟨?_,fun x c h=>?_⟩,I.bs,Nat.le_trans I.ok.bsz I.sz,fun b o e hb=>?_,fun b hb hfs=>?_,I.stack,I.stkFree⟩,
   rfl,I.bare,Un.kept hs,⟨_,hn,fun i x v h1 h2 h3=>?_⟩,fun x c h=>?_,I.hok.fresh (Nat.le_refl _),fun x c h=>?_,fun p hp=>absurd (show p∈([]:List (Addr×Obj)) from hp) (by simp),I.hok.kept hs,?_⟩
 · exact B.kind
 · exact I.ok.inj x y c (clx x c h1).2 (clx y c h2).2
 · have hx':(relabel scope X.env).names.lookup x=some .cell∨(relabel scope X.env).names.lookup x=some .free:=hx
   have hm:(x,NameKind.free)∈scope.names:=by
     rcases hx' with z | z
     · exact jb z (.inl rfl) B.nocell
     · exact jb z (.inr rfl) B.nocell
   obtain⟨c,hc⟩:=bh _ hm rfl
   exact⟨c,jt hm hc⟩
 · exact absurd (show false=true from h) Bool.false_ne_true
 · obtain⟨o,e⟩:=ho b hb
   exact Nat.ne_of_lt (Heap.lt_size e)
 · exact(hf b hb).2.2.2.2.1 x c (clx x c h).2
 · have:=(hf b hb)
   obtain⟨_,_,_,h4,_⟩:=this
   rcases h4 with q | q
   · exact I.ok.noex b o e q
   · exact absurd (Nat.lt_of_lt_of_le (Heap.lt_size e) (Nat.le_trans I.ok.bsz q)) (Nat.lt_irrefl _)
 · obtain⟨_,h2,h3,_⟩:=hf b hb
   rcases List.mem_cons.mp (I.stkSub b hfs) with q | q
   · exact h2 q
   · exact h3 q
 · -- a captured name
   have h2':(pk.map fun o=>o.bind fun j=>(σ[j]?).bind id)[i]?=some (some v):=h2
   rw[List.getElem?_map] at h2'
   cases ep:pk[i]? with
   | none=>rw[ep] at h2';cases h2'
   | some o =>
     rw[ep] at h2'
     have h2':o.bind (fun j=>(σ[j]?).bind id)=some v:=Option.some.inj h2'
     cases o with
     | none=>cases h2'
     | some j =>
       have h2':(σ[j]?).bind id=some v:=h2'
       have hj:σ[j]?=some (some v):=by
         cases q:σ[j]? with
         | none=>rw[q] at h2';cases h2'
         | some w=>rw[q] at h2';exact congrArg some h2'
       obtain⟨hN,hlk⟩:=B.cap i x h1 j ep
       have hm:=PySem.mem_of_lookup hlk
       obtain⟨m,_,hl⟩:=I.loc
       have hv:Vis X.env.scope x:=by
         rcases B.free _ hm rfl with z | z
         · exact .inr (.inl z)
         · exact .inr (.inr z)
       obtain⟨u,r,l⟩:=hl j x v hN hj hv
       refine⟨u,r,?_⟩
       rcases l with ⟨k,_⟩ | ⟨k,c,hc,hcell⟩
       · have k':X.env.scope.names.lookup x=some .local:=k
         rcases B.free _ hm rfl with z | z
         · rw[show X.env.scope.names.lookup x=some .cell from z] at k';cases k'
         · rw[show X.env.scope.names.lookup x=some .free from z] at k';cases k'
       · refine .inr ⟨?_,c,jt hm hc,?_⟩
         · rcases h3 with z | z
           · have z':(relabel scope X.env).names.lookup x=some .local:=z
             rcases kt (env:=X.env) hlk with y | y
             · have y':(relabel scope X.env).names.lookup x=some .cell:=y
               rw[y'] at z';cases z'
             · have y':(relabel scope X.env).names.lookup x=some .free:=y
               rw[y'] at z';cases z'
           · exact z
         · obtain⟨o,ho,hd⟩:=hcell
           exact⟨o,hs _ _ ho,hd⟩
 · obtain⟨v,o,ho,hd⟩:=I.cell x c (clx x c h).2
   exact⟨v,o,hs _ _ ho,hd⟩
 · exact I.freeC x c (clx x c h).2
 · show(gP pk σ).length=N'.length
   unfold gP
   rw[List.length_map]
   exact B.len
end
end L2

set_option Elab.async false
set_option linter.all false
set_option maxRecDepth 100000
set_option maxHeartbeats 4000000
namespace L2
open PySem PySem.Spec PyProof.Rows

theorem mX {prog:Program}{w:World}{A:Around}{R:Result→Shared→Prop}{s:Shared}{elt target iter:Expr}{scope:Scope}{pos:Pos}{it acc:Value}{env:Env}(I:Nat→Shared→Prop)
   (turn:∀ n s,I n s→∀ E:Value→Shared→Prop,wpAny (model prog w) A (pyNext it) (fun r s₁=>match r with
     | none=>R (.ok .next) s₁
     | some v=>wpAny (model prog w) A (letOwnedTupleGo target it v) (fun _ s₁'=>wpAny (model prog w) A (assign target env v) (fun _ s₂=>wpAny (model prog w) A (eval elt env) (fun x s₃ =>
         wpAny (model prog w) A (call (.builtin "list.append") [acc,x]) (fun _ s₄=>∃ m,m < n∧I m s₄) E s₃) E s₂) E s₁') E s₁) E s)
   (n:Nat)(h:I n s) :
   codeAny (model prog w) A (.compLoop (.ListComp elt [⟨target,iter,[],0⟩] scope pos) 0 it acc env) R s:=by
 refine codeAny_loop rfl I (fun n s hI=>?_) n h
 show wpAny _ _ ((compTurn (.ListComp elt [⟨target,iter,[],0⟩] scope pos) 0 it acc env).onRaise (fun x=>do noteFrame x env;theTreesLotGoes x)) _ _ s
 refine wpAny_noted ?_
 rw[compTurn_list1]
 refine wpAny_bind (wpAny_standAt (wpAny_bind (wpAny_mono (turn n s hI _) (fun r s₁ h₁=>?_) fun _ _ h'=>h')))
 cases r with
 | none=>exact wpAny_pure h₁
 | some v =>
   refine wpAny_bind (wpAny_mono h₁ (fun _ s₁' h₁=>?_) fun _ _ h'=>h')
   exact wpAny_bind (wpAny_mono h₁ (fun _ s₂ h₂=>wpAny_bind (wpAny_bind (wpAny_mono h₂ (fun x s₃ h₃=>wpAny_bind (wpAny_mono h₃
     (fun _ s₄ h₄=>wpAny_pure (wpAny_pure ⟨rfl,h₄⟩)) fun _ _ h'=>h')) fun _ _ h'=>h'))) fun _ _ h'=>h')

def l9 (J:It)(g:TG)(te:TE)(D:Addr)(Q:Hp→Prop) (σ:St)(H:Hp):Prop :=
 ∃ W:Nat→Nat→St→Hp→Prop,(∃ m,W 0 m σ H)∧∀ i m σ' H',W i m σ' H' →
   (J.stop i H'∧Q H')∨(J.go i H'∧∃ N:St→Hp→Prop,(∀ σ'' H'',N σ'' H''→∃ m',m' < m∧W (i+1) m' σ'' H'') ∧
     ∀ x H2,J.yld i H' x H2→g x σ' H2 fun σ2 H3=>te σ2 H3 fun v H4=>∃ xs,H4 D=some (.lst xs)∧xs.length < sizeLine∧N σ2 (upd H4 D (.lst (xs++[v]))))

section
variable {X:Cx}{pins:List (Addr×Obj)}{σ:St}{H:Hp}{s:Shared}{scope:Scope}{N':List Str}{pk:List (Option Nat)}{fp:List Addr}

theorem oC {elt tg iter:Expr}{g:TG}{te:TE}{J:It}{it:Addr}{tn:Nat→Heap→Prop}{pos:Pos}{QD:Addr→Hp→Prop}{E:Value→Shared→Prop}{RR:Value→Addr→Result→Shared→Prop}
   (I:Inv X pins σ H s)(B:cc X.N X.env scope N' pk)(hc:X.calm=true)(T:mY X.prog X.w X.K tg J fp it tn)(st:tn 0 s.heap)(hf:∀ b∈fp,e5 X pins H b)
   (hg:∀ s H ex,PG (cxB X N' scope s H ex) tg g)(he:∀ s H ex,PE (cxB X N' scope s H ex) elt te)
   (hW:∀ D,H D=none→l9 J g te D (QD D) (gP pk σ) (upd H D (.lst [])))
   (fin:∀ D C s' H' m,Inv X pins σ H' s'→e5 X pins H' C→s'.heap.Ns C m→QD D H'→RR (.ref D) C (.ok .next) s') :
   wpAny (model X.prog X.w) X.A (newList []) (fun acc s₃=>wpAny (model X.prog X.w) X.A (newFunctionEnv scope X.env.globals (ju scope X.env) [] X.env.qual none .none (some X.env)) (fun cenv s₄ =>
     codeAny (model X.prog X.w) X.A (.compStart (.ListComp elt [⟨tg,iter,[],0⟩] scope pos) 0 (.ref it) acc { cenv with scope:=relabel scope X.env }) (RR acc cenv.locals) s₄) E s₃) E s:=by
 have hD0:H s.heap.objs.size=none:=I.hok.fresh (Nat.le_refl _)
 refine wpAny_newObj_type (wpAny_newFunctionEnv B.nocell (by intro y hy;simp at hy) (fun h₁ hns₁ hsb₁=>?_) B.kind)
 dsimp only at hns₁ hsb₁ ⊢
 have I3:Inv X pins σ (upd H s.heap.objs.size (.lst [])) { s with heap:=s.heap.push { cls:=.type "list",dict:=none,data:=.seq ([]:List Value).toArray } }:=I.lnew (t':=s.toks) .nil (Nat.zero_le _)
 obtain⟨W,⟨m0,w0⟩,turn⟩:=hW _ hD0
 generalize hs3:({ s with heap:=s.heap.push { cls:=.type "list",dict:=none,data:=.seq ([]:List Value).toArray } }:Shared)=s3 at I3
 have eh:s.heap.push { cls:=.type "list",dict:=none,data:=.seq ([]:List Value).toArray }=s3.heap:=by rw[←hs3]
 have hold:∀ b o,s.heap.get? b=some o→s3.heap.get? b=some o:=fun b o e=>by rw[←eh];exact Heap.get?_push_of_some _ e
 rw[eh] at hns₁ hsb₁
 have hs:∀ b o,s3.heap.get? b=some o→h₁.get? b=some o:=fun b o e=>hsb₁.extBut b o (Nat.ne_of_lt (Heap.lt_size e)) (Heap.get?_push_of_some _ e)
 have hf3:∀ b∈fp,e5 X pins (upd H s.heap.objs.size (.lst [])) b:=fun b hb=>by
   refine⟨?_,(hf b hb).2⟩
   obtain⟨o,e,_⟩:=T.obj 0 _ st b hb
   rw[ai (Nat.ne_of_lt (Heap.lt_size e))]
   exact(hf b hb).1
 have ho3:∀ b∈fp,∃ o,s3.heap.get? b=some o:=fun b hb=>by
   obtain⟨o,e,_⟩:=T.obj 0 _ st b hb
   exact⟨o,hold _ _ e⟩
 have st1:tn 0 h₁:=T.keep 0 _ _ st fun b hb o e=>hs b o (hold b o e)
 have esh:∀ t,({ s with heap:=h₁,toks:=t }:Shared)={ s3 with heap:=h₁,toks:=t }:=fun t=>by rw[←hs3]
 have loop:∀ t,codeAny (model X.prog X.w) X.A (.compLoop (.ListComp elt [⟨tg,iter,[],0⟩] scope pos) 0 (.ref it) (.ref s.heap.objs.size) (compEnvC scope (ju scope X.env) s3.heap.objs.size X.env))
     (RR (.ref s.heap.objs.size) s3.heap.objs.size) { s with heap:=h₁,toks:=t }:=fun t=>by
   rw[esh t]
   have IB:Inv (cxB X N' scope s3 (upd H s.heap.objs.size (.lst [])) fp) [] (gP pk σ) (upd H s.heap.objs.size (.lst [])) { s3 with heap:=h₁,toks:=t }:=rD I3 B hf3 ho3 hns₁ hs
   have f2:∀ b∈fp,e5 (cxB X N' scope s3 (upd H s.heap.objs.size (.lst [])) fp) [] (upd H s.heap.objs.size (.lst [])) b:=fun b hb =>
     ⟨(hf3 b hb).1,(IB.ok.exf b hb).1,IB.ok.exfs b hb,.inl hb,(IB.ok.exf b hb).2,fun p hp=>absurd (show p∈([]:List (Addr×Obj)) from hp) (by simp)⟩
   have stat:∀ {H':Hp},(∀ b∈fp,H' b=none)→∀ b∈fp,e5 (cxB X N' scope s3 (upd H s.heap.objs.size (.lst [])) fp) [] H' b:=fun hn b hb=>⟨hn b hb,(f2 b hb).2⟩
   refine mX (fun n s'=>∃ i σ' H',Inv (cxB X N' scope s3 (upd H s.heap.objs.size (.lst [])) fp) [] σ' H' s'∧tn i s'.heap∧(∀ b∈fp,H' b=none)∧W i n σ' H') ?_ m0 ⟨0,_,_,IB,st1,fun b hb=>(f2 b hb).1,w0⟩
   rintro n s4 ⟨i,σ4,H4,I4,st4,fr4,w4⟩ E'
   rcases turn i n σ4 H4 w4 with ⟨stop,qn⟩ | ⟨go,N,hN,step⟩
   · refine thn (T.done (cxB X N' scope s3 (upd H s.heap.objs.size (.lst [])) fp) rfl rfl rfl hc i [] s4 σ4 H4 E' I4 (stat fr4) st4 stop) fun r s5 ⟨hr,I5⟩=>?_
     subst hr
     obtain⟨m5,hn5,_⟩:=I5.loc
     have IX:Inv X pins σ H4 s5:=I3.call' (ch:=fp) I5.os I5.base I5.hok I5.bare fun b hb=>⟨(hf3 b hb).2.2.2.1,(hf3 b hb).2.1,(hf3 b hb).2.2.2.2.1,(hf3 b hb).2.2.2.2.2⟩
     exact fin _ _ s5 H4 m5 IX (I3.fpOk (Nat.le_refl _) I5.free) hn5 qn
   · refine thn (T.item (cxB X N' scope s3 (upd H s.heap.objs.size (.lst [])) fp) rfl rfl rfl hc i [] s4 σ4 H4 E' I4 (stat fr4) st4 go) fun r s5 ⟨u,hr,h5⟩=>?_
     subst hr
     refine thn h5 fun _ s6 ⟨x,H6,I6,r6,y6,st6,fr6⟩=>?_
     have I6':=I6.pinned (stat fr6) (T.obj _ _ st6)
     refine wpAny_mono (hg _ _ _ s6 σ4 H6 x u _ I6' r6 (step x H6 y6)) (fun _ s7 ⟨σ7,H7,I7,q7⟩=>?_) fun _ _ z=>False.elim z
     refine wpAny_mono (he _ _ _ s7 σ7 H7 _ I7 q7) (fun w s8 ⟨v,H8,I8,r8,xs,hx8,hl8,n8⟩=>?_) fun _ _ z=>False.elim z
     refine wpAny_mono (cj (X:=cxB X N' scope s3 (upd H s.heap.objs.size (.lst [])) fp) _ s8 σ7 H8 (.ref s.heap.objs.size) [v] (.ref s.heap.objs.size) [w] (fun _ H9=>N σ7 H9) I8 rfl (.cons r8 .nil) ⟨_,xs,v,rfl,rfl,hx8,hl8,n8⟩) (fun _ s9 ⟨_,H9,I9,_,n9⟩=>?_) fun _ _ z=>False.elim z
     obtain⟨m',hm,w9⟩:=hN σ7 H9 n9
     refine⟨m',hm,i+1,σ7,H9,I9.unpinned,T.keep _ _ _ st6 fun b hb o e=>(I9.pin (b,o) (List.mem_append_right _ (List.mem_append_right _ (du hb e)))).1,fun b hb=>?_,w9⟩
     obtain⟨o,e,d⟩:=T.obj _ _ st6 b hb
     exact(I9.pin (b,o) (List.mem_append_right _ (List.mem_append_right _ (du hb e)))).2.1
 rw[←eh] at loop
 exact codeAny_compStart_list (loop _) (T.self _ _ _ _ _ st1 (loop _))

theorem Inv.gone {h':Heap}{C:Addr}(I:Inv X pins σ H s)(f:e5 X pins H C)(hs:Heap.SameBut C s.heap h'):Inv X pins σ H { s with heap:=h' } :=
 I.turned (t':=s.toks) (it:=C) (fun b o hb e=>hs.extBut b o hb e) f.1 f.2.1 f.2.2.2.1 f.2.2.2.2.1 f.2.2.2.2.2

def vj (pk:List (Option Nat))(wi:TI)(g:TG)(te:TE):TE:=fun σ H Q=>wi σ H fun J H1=>∀ D,H1 D=none→l9 J g te D (fun H'=>Q (.ref D) H') (gP pk σ) (upd H1 D (.lst []))

theorem cM {elt tg iter:Expr}{wi:TI}{g:TG}{te:TE}{pos:Pos}(hc:X.calm=true)(B:cc X.N X.env scope N' pk)(hi:PI X tg iter wi)
   (hg:∀ s H ex,PG (cxB X N' scope s H ex) tg g)(he:∀ s H ex,PE (cxB X N' scope s H ex) elt te)(hs:∀ x,foldedSetIterable iter X.env x=pure x:=by intro _;rfl) :
   PE X (.ListComp elt [⟨tg,iter,[],0⟩] scope pos) (vj pk wi g te):=by
 intro pins s σ H Q I h
 rw[eval_ListComp]
 have hclos:=fH (iy I B)
 refine wpAny_comprehension_free (use:=none) rfl hs hclos B.kind B.names (thn (hi s σ H _ I h) fun v s1 h1=>thn h1 fun itv s2 h2=>?_)
 obtain⟨it,fp,tn,J,H2,e,I2,T,st2,f2,hW⟩:=h2
 subst e
 refine oC (QD:=fun D H'=>Q (.ref D) H') (RR:=fun acc C=>compPost (model X.prog X.w) X.A X.xe none (EP X pins σ Q) acc C) I2 B hc T st2 f2 hg he hW fun D C s' H' m I' f' hn q=>?_
 exact⟨m,hn,fun h' hs'=>⟨.ref D,H',I'.gone f' hs',rfl,q⟩⟩

theorem rH {i:Nat}{y:Str}{elt tg iter:Expr}{wi:TI}{g:TG}{te:TE}{pos spos py:Pos}(hN:X.N.Nodup)(hiy:X.N[i]?=some y)(hy:Loc X.env.scope y)(hc:X.calm=true)(B:cc X.N X.env scope N' pk)(hi:PI X tg iter wi)
   (hg:∀ s H ex,PG (cxB X N' scope s H ex) tg g)(he:∀ s H ex,PE (cxB X N' scope s H ex) elt te)
   (hsw:swapsWith (.ListComp elt [⟨tg,iter,[],0⟩] scope pos) (some (.Name y py)) spos.line X.env=pure true:=by rfl)
   (hs:∀ x,foldedSetIterable iter X.env x=pure x:=by intro _;rfl)(hf:X.fn y=true∨X.env.scope.names.lookup y=some .local:=by first | exact .inl rfl | exact .inr rfl | assumption) :
   PS X (.Assign [.Name y py] (.ListComp elt [⟨tg,iter,[],0⟩] scope pos) spos) (uB (vj pk wi g te) (cT i)):=by
 intro pins s σ H D0 I h
 rw[exec_Assign_Name_used _ _ _ _ hsw]
 have hclos:=fH (iy I B)
 refine wpAny_bind (wpAny_standAt (wpAny_bind ?_))
 show wpAny _ X.A (do let _ ←comprehension (.ListComp elt [⟨tg,iter,[],0⟩] scope pos) scope X.env _ (newList []) false (eval iter X.env) (some (assign (.Name y py) X.env))) _ _ s
 refine wpAny_bind (wpAny_mono (wpAny_comprehension_free (use:=some (assign (.Name y py) X.env)) (Q:=fun _ s'=>SP X pins D0 .next s') rfl hs hclos B.kind B.names
   (thn (hi s σ H _ I h) fun v s1 h1=>thn h1 fun itv s2 h2=>?_)) (fun _ s' hq=>wpAny_pure (wpAny_pure hq)) fun _ _ e=>e)
 obtain⟨it,fp,tn,J,H2,e,I2,T,st2,f2,hW⟩:=h2
 subst e
 refine oC (QD:=fun D H'=>D0.nx (σ.set i (some (.ref D))) H') (RR:=fun acc C=>compPost (model X.prog X.w) X.A X.xe (some (assign (.Name y py) X.env)) (fun _ s'=>SP X pins D0 .next s') acc C) I2 B hc T st2 f2 hg he hW fun D C s' H' m I' f' hn q=>?_
 show wpAny _ X.A (assign (.Name y py) X.env (.ref D)) _ _ _
 refine wpAny_assign_Name (iX (v:=.ref D) I' hN hiy hy rfl (fun s3 I3 ⟨a,hsa,ha⟩=>?_) hf)
 have hCa:C≠a:=by
   rcases ha with z | z
   · rw[z];exact f'.2.1
   · exact fun e=>f'.2.2.2.2.1 _ _ z e.symm
 exact⟨m,hn.sameBut hsa hCa,fun h' hs'=>⟨_,H',I3.gone f' hs',q⟩⟩
end
end L2

set_option Elab.async false
set_option linter.all false
set_option maxRecDepth 100000
set_option maxHeartbeats 4000000
namespace L2
open PySem PySem.Spec PyProof.Rows

/-! ### iterators by the library's Walks: n values,given by what stands at each place -/
def Itw (n:Nat)(vs:Nat→V→Prop):It:=⟨fun i _=>i < n,fun i H x H'=>H'=H∧vs i x,fun i _=>i=n⟩
theorem lB {P:Program}{w:World}{K:PySem.W.Frag}{tg:Expr}{it:Addr}{n:Nat}{PV:Nat→Value→Prop}{St:Nat→Heap→Prop}{vs:Nat→V→Prop}
   (W:∀ A':Around,A'.handled=none→Walks P w A' it [it] [it] n PV St)
   (hobj:∀ i h,St i h→∃ o nm fv,h.get? it=some o∧o.cls=.type nm∧o.data=.fields fv∧["enumerate", "zip", "dict_itemiterator", "dict_reverseitemiterator", "odict_iterator", "itertools.zip_longest", "itertools.pairwise"].contains nm=false)
   (hv:∀ i v,PV i v→∃ x,vs i x∧a8 x v)(hself:∀ (A:Around) (i:Nat)(s:Shared)(Q:Value→Shared→Prop)(E:Value→Shared→Prop),St i s.heap→Q (.ref it) s→wpAny (model P w) A (pyIter (.ref it)) Q E s):mY P w K tg (Itw n vs) [it] it St where
 mem:=by simp
 obj:=fun i h st b hb=>by
   have e:b=it:=by simpa using hb
   subst e
   obtain⟨o,nm,fv,e,_,hd,_⟩:=hobj i h st
   exact⟨o,e,fun v z=>by rw[hd] at z;cases z⟩
 keep:=fun i h h' st k=>(W { depth:=0,units:=0,handled:=none,frames:=none } rfl).frame i h h' st k
 item:=by
   intro X hP hw hK hc i pins s σ H E I hf st hg
   subst hP hw hK
   obtain⟨f0,f1,f2,f3,f4,f5⟩:=hf it (by simp)
   refine(W X.A (I.ok.hd hc)).item i s _ _ hg st fun v h' tk hv' st' kk=>?_
   have I1:Inv X pins σ H { s with heap:=h',toks:=tk }:=I.turned (fun b o hb e=>kk b o (by simpa using hb) e) f0 f1 f3 f4 f5
   obtain⟨o,nm,fv,e,hcl,hd,hnm⟩:=hobj _ _ st'
   obtain⟨x,hx,rx⟩:=hv i v hv'
   exact⟨_,rfl,oJ (s:={ s with heap:=h',toks:=tk }) e hcl hd hnm ⟨x,H,I1,rx,⟨rfl,hx⟩,st',fun b hb=>(hf b hb).1⟩⟩
 done:=by
   intro X hP hw hK hc i pins s σ H E I hf st hg
   subst hP hw hK
   obtain⟨f0,f1,f2,f3,f4,f5⟩:=hf it (by simp)
   have e:i=n:=hg
   subst e
   exact(W X.A (I.ok.hd hc)).done s _ _ st fun h' tk kk=>⟨rfl,I.turned (fun b o hb e=>kk b o (by simpa using hb) e) f0 f1 f3 f4 f5⟩
 self:=hself

/-! ### for c in text -/
def sgn (c:Nat):V:=.str ⟨#[c]⟩
def yQ (tl:TE):TI:=fun σ H R=>tl σ H fun x H1=>∃ z:Str,x=.str z∧R (Itw z.cps.size fun i v=>∃ c,z.cps[i]?=some c∧v=sgn c) H1
theorem xY {X:Cx}{tg l:Expr}{tl:TE}(hl:PE X l tl):PI X tg l (yQ tl):=by
 intro pins s σ H R I h
 refine thn (hl s σ H _ I h) fun v s1 ⟨x,H1,I1,r1,q1⟩=>?_
 obtain⟨z,e,q⟩:=q1
 subst e
 obtain⟨t,rfl⟩:=r1
 have fp:∀ o:Obj,∀ b∈[s1.heap.objs.size],e5 X pins H1 b:=fun o b hb=>by
   have e:b=s1.heap.objs.size:=by simpa using hb
   subst e
   exact I1.fpOk (Nat.le_refl _) (I1.hok.fresh (Nat.le_refl _))
 cases ha:z.cps.all (· < 128)
 · refine wpAny_pyIter_wide ha ?_
   refine⟨s1.heap.objs.size,[s1.heap.objs.size],_,_,H1,rfl,I1.kept (t':=s1.toks) fun b o e=>Heap.get?_push_of_some _ e,lB (fun A' hA=>Walks.strWide hA _ z t) ?_ ?_ ?_,⟨_,Heap.get?_push_size _ rfl,rfl,rfl⟩,fp default,q⟩
   · rintro i h ⟨o,e,hc,hd⟩
     exact⟨o,_,_,e,hc,hd,by decide⟩
   · rintro i v ⟨c,u,hc,rfl⟩
     exact⟨sgn c,⟨c,hc,rfl⟩,⟨u,rfl⟩⟩
   · exact fun A i s Q E st hq=>wpAny_pyIter_striter_wide st hq
 · refine wpAny_pyIter_ascii ha ?_
   refine⟨s1.heap.objs.size,[s1.heap.objs.size],_,_,H1,rfl,I1.kept (t':=s1.toks) fun b o e=>Heap.get?_push_of_some _ e,lB (fun A' hA=>Walks.strAscii hA _ z t) ?_ ?_ ?_,⟨_,Heap.get?_push_size _ rfl,rfl,rfl⟩,fp default,q⟩
   · rintro i h ⟨o,e,hc,hd⟩
     exact⟨o,_,_,e,hc,hd,by decide⟩
   · rintro i v ⟨c,u,hc,rfl⟩
     exact⟨sgn c,⟨c,hc,rfl⟩,⟨u,rfl⟩⟩
   · exact fun A i s Q E st hq=>wpAny_pyIter_striter_ascii st hq

/-! ### texts and bools in lists -/
theorem ib {ss:List Str}:∀ {us:List Value},Vals (ss.map V.str) us→StrsAre us ss:=by
 induction ss with
 | nil=>intro us r;rw[List.map_nil] at r;cases r;exact .nil
 | cons n ns ih =>
   intro us r
   rw[List.map_cons] at r
   cases r with
   | cons r1 r2 =>
     obtain⟨t,e⟩:=r1
     subst e
     exact .cons n t (ih r2)
theorem gA {ss:List Str}{us:List Value}(h:StrsAre us ss):Vals (ss.map V.str) us:=by
 induction h with
 | nil=>exact .nil
 | cons y t r ih=>exact .cons ⟨t,rfl⟩ ih
theorem jJ {X:Cx}:MtR X "str.join" (fun x vs H Q=>∃ (z:Str)(a:Addr)(ss:List Str),x=.str z∧vs=[.ref a]∧SqL X.K H a (ss.map V.str)∧(ss.map (·.length)).sum+ss.length*z.length≤16777216∧Q (.str (Txt.join z ss)) H):=by
 intro pins s σ H x xs v us Q I rx rs h
 obtain⟨z,a,ss,rfl,rfl,ha,hz,q⟩:=h
 obtain⟨t,rfl⟩:=rx
 obtain⟨u,rfl,ru⟩:=rs.one
 cases ru
 obtain⟨its,r,pl,_⟩:=I.list ha
 exact join_list pl.isList (by simpa using ib r) hz fun t' k=>⟨.str _,H,I.tok _,⟨t',rfl⟩,q⟩
theorem wz {bs:List Bool}:∀ {us:List Value}{i:Nat}{v:Value},Vals (bs.map V.bl) us→us[i]?=some v→∃ b,bs[i]?=some b∧v=.bool b:=by
 induction bs with
 | nil=>intro us i v r h;rw[List.map_nil] at r;cases r;simp at h
 | cons b bs ih =>
   intro us i v r h
   rw[List.map_cons] at r
   cases r with
   | cons r1 r2 =>
     cases i with
     | zero=>simp at h;subst h;exact⟨b,rfl,r1⟩
     | succ i=>obtain⟨c,h1,h2⟩:=ih r2 (by simpa using h);exact⟨c,by simpa using h1,h2⟩
theorem vv {X:Cx}(hc:X.calm=true):cx X (.builtin "all") (fun xs H Q=>∃ (a:Addr)(bs:List Bool),xs=[.ref a]∧SqL X.K H a (bs.map V.bl)∧Q (.bl (bs.all id)) H):=by
 intro pins s σ H xs us Q I r h
 obtain⟨a,bs,rfl,ha,q⟩:=h
 obtain⟨u,rfl,ru⟩:=dq r
 cases ru
 obtain⟨its,rv,pl,_⟩:=I.list ha
 have hl:=pl.isList
 have hlt:a < s.heap.objs.size:=by obtain⟨_,e,_⟩:=hl;exact Heap.lt_size e
 refine call_all_walk (wpAny_pyIter_list hl ?_)
 refine⟨s.heap.objs.size,[s.heap.objs.size,a],[s.heap.objs.size],its.toArray.size,_,_,fun i=>(bs[i]?).getD true,rfl,Walks.list (A:=X.A.in1) (I.ok.hd hc) _ a (Nat.ne_of_lt hlt) its.toArray,
   ⟨⟨_,Heap.get?_push_size _ rfl,rfl,rfl⟩,hl.push _⟩,fun i v s' Q' E' hP hQ=>?_,fun h' tk hk=>?_⟩
 · obtain⟨b,e,rfl⟩:=wz rv (by simpa using hP)
   simp only[e,Option.getD_some] at hQ
   exact wpAny_truthy_bool hQ
 · have hn:=rv.length
   rw[List.length_map] at hn
   have e:((List.range its.toArray.size).all fun i=>(bs[i]?).getD true)=bs.all id:=by
     rw[List.size_toArray,←hn];exact LSm.range_all bs
   rw[e]
   exact⟨.bl _,H,I.kept (LSm.kept_iter hk),rfl,q⟩
theorem cJ {X:Cx}:cx X (.builtin "isinstance") (fun xs H Q=>∃ x c t b,xs=[x,.ty c]∧e6 X.K H x t∧PySem.W.kitOne X.K t (.type c)=some b∧Q (.bl b) H):=by
 intro pins s σ H xs us Q I r h
 obtain⟨x,c,t,b,rfl,ty,e,q⟩:=h
 obtain⟨u,w',rfl,r1,r2⟩:=vn r
 cases r2
 exact tG I r1 ty e fun tk=>⟨.bl b,H,I.tok _,rfl,q⟩
theorem cq {X:Cx}:OpR X (binaryOp .FloorDiv) (rI (fun _ j=>0 < j∧j < 2 ^ 64) fun i j=>.int (i / j)):=opI fun i j _ _ _ _ _ hc q=>by
 obtain⟨h1,h2⟩:=hc
 refine floordiv_int (by omega) (by rw[Int.fdiv_eq_ediv_of_nonneg i (by omega)];exact q) (.inl (PyProof.noPylong_of_log2 ?_))
 have h0:j.natAbs≠0:=by omega
 have:j.natAbs.log2 < 64:=(Nat.log2_lt h0).mpr (by omega)
 omega
end L2

set_option Elab.async false
set_option linter.all false
set_option maxRecDepth 100000
set_option maxHeartbeats 4000000
namespace L2
open PySem PySem.Spec PyProof.Rows

/-! ### what yields n values and leaves the heap as it is -/
structure dM (J:It)(H1:Hp) (n:Nat)(vs:Nat→V→Prop):Prop where
 go:∀ i H',i < n→af H1 H'→J.go i H'
 yld:∀ i H' x H2,i < n→af H1 H'→J.yld i H' x H2→H2=H'∧vs i x
 stop:∀ H',af H1 H'→J.stop n H'
theorem nV {H1:Hp}{n:Nat}{vs:Nat→V→Prop}:dM (Itw n vs) H1 n vs:=⟨fun _ _ h _=>h,fun _ _ _ _ _ _ h=>h,fun _ _=>rfl⟩
theorem bM {H1:Hp}{lo:Int}{n:Nat}:dM (Itr lo n) H1 n (fun i x=>x=.int (lo+i)):=⟨fun _ _ h _=>h,fun _ _ _ _ _ _ h=>h,fun _ _=>Nat.le_refl _⟩
theorem ax {K:PySem.W.Frag}{H1:Hp}{a:Addr}{xs:List V}(h:SqL K H1 a xs):dM (Itl K a) H1 xs.length (fun i x=>xs[i]?=some x) :=
 ⟨fun i H' hi s=>⟨xs,xs[i],s.seq h,by simp[hi]⟩,fun i H' x H2 hi s y=>⟨y.1,y.2 xs (s.seq h)⟩,fun H' s=>⟨xs,s.seq h,Nat.le_refl _⟩⟩
theorem af.sqT {K:PySem.W.Frag}{H H':Hp}{a:Addr}{xs:List V}(e:af H H')(h:SqT K H a xs):SqT K H' a xs:=by
 rcases h with (h | ⟨o,h⟩) | h
 · exact .inl (.inl (e _ _ h))
 · exact .inl (.inr ⟨o,e _ _ h⟩)
 · exact .inr h
theorem j9 {K:PySem.W.Frag}{H1:Hp}{a:Addr}{xs:List V}(h:SqT K H1 a xs):dM (Itt K a) H1 xs.length (fun i x=>xs[i]?=some x) :=
 ⟨fun i H' hi s=>⟨xs,xs[i],s.sqT h,by simp[hi]⟩,fun i H' x H2 hi s y=>⟨y.1,y.2 xs (s.sqT h)⟩,fun H' s=>⟨xs,s.sqT h,Nat.le_refl _⟩⟩
theorem af.updN {H:Hp}{D:Addr}{o:HO}(h:H D=none):af H (upd H D o):=fun b u e=>by rw[ai (ak e h)];exact e
theorem af.step {H0 H:Hp}{D:Addr}{o:HO}(s:af H0 H)(h:H0 D=none):af H0 (upd H D o):=fun b u e=>by rw[ai (ak e h)];exact s b u e

theorem nw {J:It}{n:Nat}{vs:Nat→V→Prop}{g:TG}{te:TE}{D:Addr}{Q:Hp→Prop}{σ:St}{H0 H:Hp}(S:dM J H0 n vs)(hn:n≤sizeLine)(Pv:Nat→List V→St→Hp→Prop)
   (h0:Pv 0 [] σ H)(hsame:∀ i xs σ' H',Pv i xs σ' H'→af H0 H'∧xs.length=i)
   (step:∀ i xs σ' H' x,i < n→vs i x→Pv i xs σ' H'→∀ R:V→St→Hp→Prop,(∀ v σ2 H4,H4 D=some (.lst xs)→Pv (i+1) (xs++[v]) σ2 (upd H4 D (.lst (xs++[v])))→R v σ2 H4)→g x σ' H' fun σ2 H3=>te σ2 H3 fun v H4=>R v σ2 H4)
   (fin:∀ xs σ' H',Pv n xs σ' H'→Q H'):l9 J g te D Q σ H:=by
 refine⟨fun i m σ' H'=>m=n - i∧i≤n∧∃ xs,Pv i xs σ' H',⟨n,by simp,Nat.zero_le _,[],h0⟩,?_⟩
 rintro i m σ' H' ⟨rfl,hi,xs,p⟩
 obtain⟨sm,hl⟩:=hsame _ _ _ _ p
 by_cases hlt:i < n
 · refine .inr ⟨S.go i H' hlt sm,fun σ2 H2=>∃ ys,Pv (i+1) ys σ2 H2,fun σ2 H2 ⟨ys,p'⟩=>⟨n - (i+1),by omega,rfl,hlt,ys,p'⟩,fun x H2 y=>?_⟩
   obtain⟨e,hv⟩:=S.yld i H' x H2 hlt sm y
   subst e
   exact step i xs σ' _ x hlt hv p (fun v σ2 H4=>∃ xs,H4 D=some (.lst xs)∧xs.length < sizeLine∧∃ ys,Pv (i+1) ys σ2 (upd H4 D (.lst (xs++[v])))) fun v σ2 H4 a b=>⟨xs,a,by omega,_,b⟩
 · have e:i=n:=by omega
   subst e
   exact .inl ⟨S.stop H' sm,fin xs σ' H' p⟩
theorem cz {J:It}{n:Nat}{vs:Nat→V→Prop}{g:TG}{te:TE}{D:Addr}{Q:Hp→Prop}{σ:St}{H:Hp}(S:dM J H n vs)(hn:n≤sizeLine)(hD:H D=none)(Pσ:St→Prop)(out:Nat→V)
   (h0:Pσ σ)(step:∀ i x σ' H',i < n→vs i x→Pσ σ'→af H H'→∀ R:V→St→Hp→Prop,(∀ σ2,Pσ σ2→R (out i) σ2 H')→g x σ' H' fun σ2 H3=>te σ2 H3 fun v H4=>R v σ2 H4)
   (fin:Q (upd H D (.lst ((List.range n).map out)))):l9 J g te D Q σ (upd H D (.lst [])):=by
 refine⟨fun i m σ' H'=>m=n - i∧i≤n∧Pσ σ'∧H'=upd H D (.lst ((List.range i).map out)),⟨n,by simp,Nat.zero_le _,h0,rfl⟩,?_⟩
 rintro i m σ' H' ⟨rfl,hi,p,rfl⟩
 have sm:af H (upd H D (.lst ((List.range i).map out))):=af.updN hD
 by_cases hlt:i < n
 · refine .inr ⟨S.go i _ hlt sm,fun σ2 H2=>Pσ σ2∧H2=upd H D (.lst ((List.range (i+1)).map out)),fun σ2 H2 ⟨p',e⟩=>⟨n - (i+1),by omega,rfl,hlt,p',e⟩,fun x H2 y=>?_⟩
   obtain⟨e,hv⟩:=S.yld i _ x H2 hlt sm y
   subst e
   refine step i x σ' _ hlt hv p sm (fun v σ2 H4=>∃ xs,H4 D=some (.lst xs)∧xs.length < sizeLine∧Pσ σ2∧upd H4 D (.lst (xs++[v]))=upd H D (.lst ((List.range (i+1)).map out))) fun σ2 p2=>?_
   refine⟨(List.range i).map out,ac,by rw[List.length_map,List.length_range];omega,p2,?_⟩
   rw[jC,List.range_succ,List.map_append,List.map_singleton]
 · have e:i=n:=by omega
   subst e
   exact .inl ⟨S.stop _ sm,fin⟩
def uK (J:It)(g:TG)(tb:TS)(D:iY) (σ:St)(H:Hp):Prop :=
 ∃ W:Nat→Nat→St→Hp→Prop,(∃ m,W 0 m σ H)∧∀ i m σ H,W i m σ H →
   (J.stop i H∧D.nx σ H)∨(J.go i H∧∃ N:St→Hp→Prop,(∀ σ' H',N σ' H'→∃ m',m' < m∧W (i+1) m' σ' H')∧∀ x H',J.yld i H x H'→g x σ H' fun σ2 H2=>tb { D with nx:=N,ct:=N,bk:=D.nx } σ2 H2)
theorem wE (wi:TI)(g:TG)(tb:TS)(D:iY) (σ:St)(H:Hp):yB wi g tb D σ H=wi σ H fun J H1=>uK J g tb D σ H1:=rfl
theorem a9 {J:It}{H0:Hp}{n:Nat}{vs:Nat→V→Prop}{g:TG}{tb:TS}{D:iY}{σ:St}{H:Hp}(S:dM J H0 n vs)(Pv:Nat→St→Hp→Prop)(h0:Pv 0 σ H)(hsame:∀ i σ H,i≤n→Pv i σ H→af H0 H)
   (hs:∀ i x σ H,i < n→vs i x→Pv i σ H→g x σ H fun σ2 H2=>tb { D with nx:=Pv (i+1),ct:=Pv (i+1),bk:=D.nx } σ2 H2)(hd:∀ σ H,Pv n σ H→D.nx σ H):uK J g tb D σ H:=by
 refine⟨fun i m σ H=>m=n - i∧i≤n∧Pv i σ H,⟨n,by simp,Nat.zero_le _,h0⟩,?_⟩
 rintro i m σ H ⟨rfl,hi,p⟩
 have sm:=hsame i σ H hi p
 by_cases hlt:i < n
 · refine .inr ⟨S.go i H hlt sm,Pv (i+1),fun σ' H' p'=>⟨n - (i+1),by omega,rfl,hlt,p'⟩,fun x H' y=>?_⟩
   obtain⟨e,hv⟩:=S.yld i H x H' hlt sm y
   subst e
   exact hs i x σ _ hlt hv p
 · have e:i=n:=by omega
   subst e
   exact .inl ⟨S.stop H sm,hd σ H p⟩

/-! ### a cut between two statements -/
def x4 (t u:TS):TS:=fun D σ H=>∃ Pv:St→Hp→Prop,t { D with nx:=Pv } σ H∧∀ σ' H',Pv σ' H'→u D σ' H'
theorem aj {X:Cx}{st:Stmt}{cf:List Stmt}{t u:TS}(h1:PS X st t)(h2:PSs X cf u):PSs X (st::cf) (x4 t u):=by
 intro pins s σ H D I h
 obtain⟨Pv,h,k⟩:=h
 refine wpAny_execs_cons (thn (h1 s σ H { D with nx:=Pv } I h) fun f s1 q=>?_)
 cases f with
 | next =>
   obtain⟨σ',H',I',q⟩:=q
   exact h2 s1 σ' H' D I' (k _ _ q)
 | ret v=>exact q
 | brk=>exact q
 | cont=>exact q
theorem cut {t u:TS}{D:iY}{σ:St}{H:Hp}(Pv:St→Hp→Prop)(h:t { D with nx:=Pv } σ H)(k:∀ σ' H',Pv σ' H'→u D σ' H'):x4 t u D σ H:=⟨Pv,h,k⟩

/-! ### what must be seen of a block's scope,by computation -/
def yD (N:List Str)(on:List (Str×NameKind))(sc:Scope)(N':List Str)(pk:List (Option Nat)):Bool :=
 (sc.kind==.function)&&(sc.names.all fun y=>!(y.2==.cell))&&(sc.names.all fun y=>!(y.2==.local)||(sc.names.lookup y.1==some .local)) &&
 (sc.names.all fun y=>!(y.2==.free)||(on.lookup y.1==some .cell)||(on.lookup y.1==some .free))&&(pk.length==N'.length) &&
 ((List.range pk.length).all fun i=>match pk[i]? with
   | some (some j)=>(match N'[i]? with | some x=>(N[j]?==some x)&&(sc.names.lookup x==some .free) | none=>false)
   | _=>true)
theorem cc.of {N:List Str}{env:Env}{sc:Scope}{N':List Str}{pk:List (Option Nat)}(h:yD N env.scope.names sc N' pk=true):cc N env sc N' pk:=by
 unfold yD at h
 simp only[Bool.and_eq_true] at h
 obtain⟨⟨⟨⟨⟨h1,h2⟩,h3⟩,h4⟩,h5⟩,h6⟩:=h
 refine⟨by simpa using h1,fun y hy e=>?_,fun y hy e=>?_,fun y hy e=>?_,by simpa using h5,fun i x hx j hj=>?_⟩
 · have:=List.all_eq_true.mp h2 y hy
   rw[e] at this
   exact absurd this (by decide)
 · have:=List.all_eq_true.mp h3 y hy
   rw[e] at this
   simpa using this
 · have:=List.all_eq_true.mp h4 y hy
   rw[e] at this
   simpa [Bool.or_eq_true] using this
 · have hi:i < pk.length:=(List.getElem?_eq_some_iff.mp hj).1
   have:=List.all_eq_true.mp h6 i (List.mem_range.mpr hi)
   rw[hj,hx] at this
   simpa [Bool.and_eq_true] using this
theorem xt {CX:CXT}{P:Program}{w:World}{K:PySem.W.Frag}{mg:Str→Option Value}{base:Heap}{N:List Str}{qual:Str}{scope:Scope}{f:Addr}{cd:Value}{A:Around}{outer:List Env}{s:Shared}{H:Hp}{E:XK}:(cr CX P w K mg base N qual scope f cd A outer s H E).K=K:=rfl
theorem yM {X:Cx}{N:List Str}{scope:Scope}{s:Shared}{H:Hp}{ex:List Addr}:(cxB X N scope s H ex).K=X.K:=rfl
theorem tZ (N:List Str)(vs:List V):L2.start N vs=vs.map some++List.replicate (N.length - vs.length) none:=rfl
theorem xR (c:Nat):sgn c=.str ⟨#[c]⟩:=rfl
end L2

set_option Elab.async false
set_option linter.all false
set_option maxRecDepth 100000
set_option maxHeartbeats 8000000
namespace L2
open PySem PySem.Spec PyProof.Rows

/-! ### set(list of texts) -/
def jz (acc:List Str) (x:Str):List Str:=if x∈acc then acc else acc++[x]
def eK (l:List Str):List Str:=l.foldl jz []
theorem mx (l:List Str) (x:Str):eK (l++[x])=jz (eK l) x:=by unfold eK;rw[List.foldl_append];rfl
theorem uA (acc:List Str) (x:Str):(jz acc x).length≤acc.length+1:=by unfold jz;split<;>simp
theorem gQ (l:List Str):∀ i,(eK (l.take i)).length≤i
 | 0=>by simp[eK]
 | i+1=>by
   have ih:=gQ l i
   cases h:l[i]? with
   | none =>
     have:l.length≤i:=List.getElem?_eq_none_iff.mp h
     rw[List.take_of_length_le (by omega)]
     rw[List.take_of_length_le this] at ih
     omega
   | some x =>
     rw[List.take_succ,h]
     show(eK (l.take i++[x])).length≤i+1
     rw[mx]
     have:=uA (eK (l.take i)) x
     omega

section
variable {prog:Program}{w:World}
theorem vo {h:Heap}{S:Addr}{acc:List Str}{x:Str}(hs:h.SetOf (strKind prog w) S (fun k=>decide (k∈acc)||decide (k=x)) (if decide (x∈acc)=true then acc.length else acc.length+1)) :
   h.SetOf (strKind prog w) S (fun k=>decide (k∈jz acc x)) (jz acc x).length:=by
 refine SetOf_congr hs (fun k=>?_) ?_
 · unfold jz
   by_cases hx:x∈acc
   · rw[if_pos hx]
     by_cases hk:k=x
     · subst hk;simp[hx]
     · simp[hk]
   · rw[if_neg hx]
     rw[Bool.eq_iff_iff]
     simp
 · unfold jz
   by_cases hx:x∈acc
   · rw[if_pos hx,if_pos (by simpa using hx)]
   · rw[if_neg hx,if_neg (by simpa using hx),List.length_append];rfl

theorem vp {A:Around}{R:Result→Shared→Prop}{I S l:Addr}{items:Array Value}{ss:List Str}(hh:A.in1.handled=none)(hIl:l≠I)(hSI:S≠I)(hSl:S≠l)(hss:StrsAre items.toList ss)(hb:items.size+1 < scanBound) :
   ∀ (k i:Nat)(s:Shared),items.size - i=k→i≤items.size→s.heap.IsListIter I l i→s.heap.IsList l items→s.heap.SetOf (strKind prog w) S (fun x=>decide (x∈eK (ss.take i))) (eK (ss.take i)).length →
     (∀ h' tk,(∀ b o,b≠S→b≠I→s.heap.get? b=some o→h'.get? b=some o)→h'.SetOf (strKind prog w) S (fun x=>decide (x∈eK ss)) (eK ss).length→R (.ok (.ret .none)) { s with heap:=h',toks:=tk }) →
     codeAny (model prog w) A (.builtin "set.update.loop" ⟨[.ref S,.ref I],[]⟩) R s:=by
 have hlen:items.size=ss.length:=by rw[←hss.length];simp
 intro k
 induction k with
 | zero =>
   intro i s hk hi hit hl hS hR
   have e:i=items.size:=by omega
   subst e
   refine codeAny_builtin PyProof.Rows.F.entry_set_update_loop ?_
   rw[Around.under_plainId PyProof.Rows.F.plain_set_update_loop _]
   refine wpAny_bind (wpAny_pyNext_list_end hh hit hl (by simp) fun h' eb=>?_)
   rw[hlen,List.take_length] at hS
   refine wpAny_pure (hR h' s.toks (fun b o _ hb e=>eb b o hb e) ?_)
   obtain⟨o,es,ep,t,ho,cf⟩:=hS
   exact⟨o,es,ep,t,eb S o hSI ho,cf⟩
 | succ k ih =>
   intro i s hk hi hit hl hS hR
   have hlt:i < items.size:=by omega
   obtain⟨x,hx⟩:∃ x,ss[i]?=some x:=⟨ss[i]'(by omega),List.getElem?_eq_getElem (by omega)⟩
   obtain⟨t,ht⟩:∃ t,items[i]?=some (.str x t):=by
     obtain⟨u,hu,r⟩:=(gA hss).get (i:=i) (x:=V.str x) (by rw[List.getElem?_map,hx];rfl)
     obtain⟨t,rfl⟩:=r
     exact⟨t,by simpa using hu⟩
   refine codeAny_builtin PyProof.Rows.F.entry_set_update_loop ?_
   rw[Around.under_plainId PyProof.Rows.F.plain_set_update_loop _]
   refine wpAny_bind (wpAny_pyNext_list_item hit hl ht fun h' hit' sb=>?_)
   have hS':h'.SetOf (strKind prog w) S (fun x=>decide (x∈eK (ss.take i))) (eK (ss.take i)).length:=by
     obtain⟨o,es,ep,tb,ho,cf⟩:=hS
     exact⟨o,es,ep,tb,(sb.2 S hSI).trans ho,cf⟩
   show wpAny _ A.in1 (holding [Value.str x t] (setAdd S (.str x t)) >>= _) _ _ _
   refine wpAny_bind (wpAny_holding ?_)
   unfold setAdd
   refine wpAny_holding (wpAny_bind ((strKind prog w).pyHash (k:=x) (strKind_is _ _ _ _) ?_))
   have hroom:(eK (ss.take i)).length+1 < scanBound:=by have:=gQ ss i;omega
   refine wpAny_setAddHashed_of (knd:=strKind prog w) (strKind_is _ _ _ _) rfl hS' hroom fun h2 hsb hS2=>?_
   have hS3:=vo hS2
   have et:eK (ss.take (i+1))=jz (eK (ss.take i)) x:=by rw[List.take_succ,hx];exact mx _ _
   rw[←et] at hS3
   refine wpAny_pure ⟨plainId_quiet PyProof.Rows.F.plain_set_update_loop _,ih (i+1) _ (by omega) hlt ?_ ?_ hS3 fun h3 tk kk hS4=>?_⟩
   · exact hit'.at fun o e=>(hsb.2 I (Ne.symm hSI)).trans e
   · exact hl.at fun o e=>(hsb.2 l (Ne.symm hSl)).trans ((sb.2 l hIl).trans e)
   · exact hR h3 tk (fun b o h1 h2' e=>kk b o h1 h2' ((hsb.2 b h1).trans ((sb.2 b h2').trans e))) hS4
end
end L2

set_option Elab.async false
set_option linter.all false
set_option maxRecDepth 100000
set_option maxHeartbeats 8000000
namespace L2
open PySem PySem.Spec PyProof.Rows
section
variable {prog:Program}{w:World}{A:Around}{E:Value→Shared→Prop}{s:Shared}
theorem lM {T newId initId:String}{Bi:Builtin}{args:List Value}{Q Q1:Value→Shared→Prop}(ft:TypeCalled T newId initId)(hct:checkTypeCall T ⟨args,[]⟩=pure ())(hI:entryFor table initId=some Bi)
   (hnew:codeAny (model prog w) A.in1 (.call (.builtin newId) ⟨.type T::args,[]⟩) (wants Q1 E) s)
   (hinit:∀ obj s1,Q1 obj s1→s1.TypeIs obj T∧∀ E':Value→Shared→Prop,wpAny (model prog w) A.in1.in1 (checkBuiltinCall initId ⟨obj::args,[]⟩) (fun _ s2=>s2=s1) E' s1)
   (hbody:∀ obj s1,Q1 obj s1→wpAny (model prog w) A.in1.in1 (Bi ⟨obj::args,[]⟩)
       (fun fin s'=>match fin with | .done f=>wants (fun r s2=>r=.none∧Q obj s2) E (.ok f) s' | .again c'=>c'.quiet=true∧codeAny (model prog w) A.in1 c' (wants (fun r s2=>r=.none∧Q obj s2) E) s')
       (fun e s'=>wants (fun r s2=>r=.none∧Q obj s2) E (.error e) s') s1):wpAny (model prog w) A (call (.type T) args) Q E s:=by
 have hmade:=ft.made;have hsub:=ft.sub;obtain⟨c,tl,hmro⟩:=ft.mro;have h1:=ft.notType;have h2:=ft.canCreate
 refine wpAny_call (codeAny_of_tree (show wpAny _ _ (callAny (.type T) _) _ _ _ from wpAny_pure ⟨Code.quiet_builtin _ (by decide +kernel),codeAny_builtin F.entry_type_call ?_⟩))
 rw[Around.under_plain (weight_type_call_type T args []) rfl]
 repeat (any_goals (first | assumption | wp_step))
 refine codeAny_mono hnew fun r s1 hr=>?_
 rcases r with e | fl
 · exact hr
 cases fl with
 | ret obj =>
   obtain⟨hT,hck⟩:=hinit _ _ hr
   have hli:=ft.init.lookup;have hbi:=ft.init.bind obj
   repeat (any_goals (first | assumption | wp_step))
   refine codeAny_mono (codeAny_call_builtin (R:=wants (fun r s2=>r=.none∧Q obj s2) E) ft.init.plain hI (wpAny_mono (hck _) (fun _ s2 e=>by subst e;exact hbody _ _ hr) fun _ _ h'=>h')) fun r2 s2 hr2=>?_
   rcases r2 with e | f2
   · exact hr2
   cases f2 with
   | ret r =>
     obtain⟨rfl,hq⟩:=hr2
     repeat (any_goals (first | assumption | wp_step))
   | _=>exact hr2.elim
 | _=>exact hr.elim

theorem tT {l:Addr}{items:Array Value}{ss:List Str}{Q:Value→Shared→Prop}(hh:A.handled=none)(hl:s.heap.IsList l items)(hss:StrsAre items.toList ss)(hb:items.size+1 < scanBound)
   (h:∀ h' tk,(∀ b o,s.heap.get? b=some o→h'.get? b=some o)→h'.SetOf (strKind prog w) s.heap.objs.size (fun x=>decide (x∈eK ss)) (eK ss).length→Q (.ref s.heap.objs.size) { s with heap:=h',toks:=tk }) :
   wpAny (model prog w) A (call (.type "set") [.ref l]) Q E s:=by
 refine lM (Q1:=fun obj s1=>∃ led:Bool,obj=.ref s.heap.objs.size∧s1={ s with heap:=s.heap.push { cls:=.type "set",dict:=none,data:=.set #[] 0 (.fresh 0 0 led) } }) F.called_set (F.typeCall_set_1 _) F.entry_set_init (code_set_new_1 (.ref l) fun led=>⟨led,rfl,rfl⟩) ?_ ?_
 · rintro obj s1 ⟨led,rfl,rfl⟩
   have hT:Shared.TypeIs { s with heap:=s.heap.push { cls:=.type "set",dict:=none,data:=.set #[] 0 (.fresh 0 0 led) } } (.ref s.heap.objs.size) "set":=⟨_,Heap.get?_push_size _ rfl,rfl⟩
   exact⟨hT,fun E'=>check_set_init_1 hT rfl⟩
 · rintro obj s1 ⟨led,rfl,rfl⟩
   have hlt:l < s.heap.objs.size:=by obtain⟨_,e,_⟩:=hl;exact Heap.lt_size e
   obtain⟨⟨oc,od,odt,osl⟩,hol,hcl,nl,hdl⟩:=id hl
   simp only at hcl hdl
   subst hcl;subst hdl
   have hol':(s.heap.push { cls:=.type "set",dict:=none,data:=.set #[] 0 (.fresh 0 0 led) }).get? l=some { cls:=.type "list",dict:=od,data:=.seq items nl,slots:=osl }:=Heap.get?_push_of_some _ hol
   have hS:(s.heap.push { cls:=.type "set",dict:=none,data:=.set #[] 0 (.fresh 0 0 led) }).get? s.heap.objs.size=some { cls:=.type "set",dict:=none,data:=.set #[] 0 (.fresh 0 0 led) }:=Heap.get?_push_size _ rfl
   have hl1:(s.heap.push { cls:=.type "set",dict:=none,data:=.set #[] 0 (.fresh 0 0 led) }).IsList l items:=⟨_,hol',rfl,nl,rfl⟩
   have hsls:=F.sub_list_set;have hslf:=F.sub_list_frozenset
   have hne:(Value.type "list"==Value.type "dict")=false:=by decide
   unfold Builtin.«set.__init__» noKeywords Builtin.Frozenset.updateFrom
   generalize hPI:pyIter=PI
   wp_walk
   subst hPI
   refine wpAny_pyIter_list hl1 (wpAny_bind (wpAny_runValue ?_))
   have hz:(s.heap.push { cls:=.type "set",dict:=none,data:=.set #[] 0 (.fresh 0 0 led) }).objs.size=s.heap.objs.size+1:=Heap.size_push ..
   refine vp (l:=l) (items:=items) (ss:=ss) (by simp[hh]) (by rw[hz];exact Nat.ne_of_lt (Nat.lt_succ_of_lt hlt)) (by rw[hz];exact Nat.ne_of_lt (Nat.lt_succ_self _)) (Nat.ne_of_gt hlt) hss hb (items.size - 0) 0 _ (by omega) (Nat.zero_le _) ⟨_,Heap.get?_push_size _ rfl,rfl,rfl⟩ (hl1.push _) ?_ ?_
   · exact SetOf_congr ((setObjOf_fresh (knd:=strKind prog w) led).setOf (Heap.get?_push_of_some _ hS) (by unfold scanBound;omega)) (fun _=>rfl) rfl
   · intro h' tk kk hS'
     refine wpAny_pure (wpAny_pure ⟨rfl,h h' tk (fun b o e=>?_) hS'⟩)
     have hlb:=Heap.lt_size e
     exact kk b o (Nat.ne_of_lt hlb) (by rw[hz];exact Nat.ne_of_lt (Nat.lt_succ_of_lt hlb)) (Heap.get?_push_of_some _ (Heap.get?_push_of_some _ e))
end
end L2

set_option Elab.async false
set_option linter.all false
set_option maxRecDepth 100000
set_option maxHeartbeats 8000000
namespace L2
open PySem PySem.Spec PyProof.Rows
section
variable {prog:Program}{w:World}{A:Around}{E:Value→Shared→Prop}{s:Shared}
theorem xq {a:Addr}{Q:Option Obj→Shared→Prop}(h:Q (s.heap.get? a) s):wpAny (model prog w) A (loadIfAlive a) Q E s:=fun Γ p _=>by
 show Sem.wp _ _ (.loadIfAlive a .pure) _ _ _ _
 rw[Sem.wp_loadIfAlive]
 exact h
abbrev mM (h:Heap)(z TI TO T0:Addr)(f1:Bool):Prop :=
 h.get? z=some { cls:=.type "zip",dict:=none,data:=.fields #[rawInt T0,.bool f1,.bool false,.ref TI,.ref TO],slots:=#[] }
theorem qY {z TI TO T0:Addr}{f1:Bool}{Q:Bool→Shared→Prop}(hz:mM s.heap z TI TO T0 f1)(hT:∃ o,s.heap.get? T0=some o)
   (h:∀ h',mM h' z TI TO T0 true→(∀ b o,b≠z→s.heap.get? b=some o→h'.get? b=some o)→h'.objs.size=s.heap.objs.size→Q false { s with heap:=h' }) :
   wpAny (model prog w) A (Builtin.SmallTypes.ownedTupleIsFree (.ref z)) Q E s:=by
 obtain⟨o,ho⟩:=hT
 unfold Builtin.SmallTypes.ownedTupleIsFree
 refine wpAny_bind (wpAny_field hz rfl (x:=rawInt T0) rfl ?_)
 show wpAny _ _ (loadIfAlive ((T0:Int)).toNat >>= _) _ _ _
 rw[Int.toNat_natCast]
 refine wpAny_bind (xq ?_)
 rw[ho]
 show wpAny _ _ (if(false:Bool)=true then _ else _) _ _ _
 rw[if_neg Bool.false_ne_true]
 refine wpAny_bind (wpAny_field hz rfl (x:=.bool f1) rfl ?_)
 cases f1 with
 | true=>exact wpAny_pure (h s.heap hz (fun _ _ _ e=>e) rfl)
 | false =>
   refine wpAny_bind (wpAny_setField_rec hz (by simp) fun h' hz' hs'=>wpAny_pure (h h' hz' (fun b o hb e=>hs'.extBut _ _ hb e) hs'.1))
end
end L2

set_option Elab.async false
set_option linter.all false
set_option maxRecDepth 100000
set_option maxHeartbeats 8000000
namespace L2
open PySem PySem.Spec PyProof.Rows
section
variable {prog:Program}{w:World}{A:Around}{E:Value→Shared→Prop}{s:Shared}
theorem tI {z TI TO T0 i1 i2 l1 l2:Addr}{f1:Bool}{k1 k2:Nat}{xs ys:Array Value}{x y:Value}{Q:Value→Shared→Prop}(D:ZipApart z TI TO i1 i2 l1 l2)
   (hz:mM s.heap z TI TO T0 f1)(hT:∃ o,s.heap.get? T0=some o)(hTI:IsPair s.heap TI (.ref i1) (.ref i2))
   (h1:s.heap.IsListIter i1 l1 k1)(h2:s.heap.IsListIter i2 l2 k2)(hl1:s.heap.IsList l1 xs)(hl2:s.heap.IsList l2 ys)(hx:xs[k1]?=some x)(hy:ys[k2]?=some y)
   (hQ:∀ h',mM h' z TI TO T0 true→h'.IsListIter i1 l1 (k1+1)→h'.IsListIter i2 l2 (k2+1)→IsPair h' s.heap.objs.size x y→h'.objs.size=s.heap.objs.size+1 →
     (∀ c o,c≠z→c≠i1→c≠i2→s.heap.get? c=some o→h'.get? c=some o)→Q (.ref s.heap.objs.size) { s with heap:=h' }) :
   wpAny (model prog w) A (Builtin.«zip.__next__» ⟨[.ref z],[]⟩) (fun fin s'=>∃ v,fin=.done (.ret v)∧Q v s') E s:=by
 show wpAny _ _ (field (.ref z) 2 >>= _) _ _ _
 refine wpAny_bind (wpAny_field hz rfl (x:=.bool false) rfl (show wpAny _ _ (field (.ref z) 3 >>= _) _ _ _ from wpAny_bind (wpAny_field hz rfl (x:=.ref TI) rfl (wpAny_bind (wpAny_seqItems hTI rfl ?_)))))
 show wpAny _ _ (Builtin.SmallTypes.ownedTupleIsFree (.ref z) >>= _) _ _ _
 refine wpAny_bind (qY hz hT fun ha hza ka hsa=>?_)
 simp only[Bool.false_eq_true,if_false,List.forIn_toArray,List.forIn_cons,List.forIn_nil]
 refine wpAny_bind (wpAny_bind (wpAny_bind (wpAny_holding ?_)))
 have ea:ha.objs.size=s.heap.objs.size:=hsa
 show wpAny _ _ (Builtin.SmallTypes.nextOf (.ref i1) >>= _) _ _ _
 refine wpAny_bind (wpAny_nextOf_list_item (h1.at fun o e=>ka _ o D.i1z e) (hl1.at fun o e=>ka _ o D.l1z e) hx fun hb hib sb=>wpAny_pure (wpAny_pure ?_))
 refine wpAny_bind (wpAny_bind (wpAny_holding ?_))
 show wpAny _ _ (Builtin.SmallTypes.nextOf (.ref i2) >>= _) _ _ _
 refine wpAny_bind (wpAny_nextOf_list_item ((h2.at fun o e=>ka _ o D.i2z e).extBut sb.extBut D.i12.symm) ((hl2.at fun o e=>ka _ o D.l2z e).extBut sb.extBut D.l2i1) hy fun hc hic sc=>wpAny_pure (wpAny_pure (wpAny_pure ?_)))
 refine wpAny_bind (wpAny_newTuple (wpAny_pure ⟨_,rfl,?_⟩) (by show 2≤sizeLine;rw[sizeLine_eq];decide))
 have ec:hc.objs.size=s.heap.objs.size:=by rw[sc.1,sb.1];exact ea
 have kc:∀ c o,c≠z→c≠i1→c≠i2→s.heap.get? c=some o→hc.get? c=some o:=fun c o c1 c2 c3 e=>sc.extBut _ _ c3 (sb.extBut _ _ c2 (ka c o c1 e))
 show Q (.ref hc.objs.size) { s with heap:=hc.push { cls:=.type "tuple",data:=.seq #[x,y] } }
 rw[ec]
 have up:∀ b o,hc.get? b=some o→(hc.push { cls:=.type "tuple",data:=.seq #[x,y] }).get? b=some o:=fun b o e=>Heap.get?_push_of_some _ e
 refine hQ _ (up _ _ (sc.extBut _ _ D.i2z.symm (sb.extBut _ _ D.i1z.symm hza))) ((hib.extBut sc.extBut D.i12).at fun o e=>up _ o e) (hic.at fun o e=>up _ o e) ?_ (by rw[Heap.size_push,ec]) fun c o c1 c2 c3 e=>up _ _ (kc c o c1 c2 c3 e)
 have:=Heap.get?_push_size hc (o:={ cls:=.type "tuple",data:=.seq #[x,y] }) rfl
 rwa [ec] at this
theorem ue {z TI TO T0 i1 i2 l1 l2:Addr}{f1:Bool}{k1 k2:Nat}{xs ys:Array Value}{Q:Fin→Shared→Prop}(hh:A.handled=none)(D:ZipApart z TI TO i1 i2 l1 l2)
   (hz:mM s.heap z TI TO T0 f1)(hT:∃ o,s.heap.get? T0=some o)(hTI:IsPair s.heap TI (.ref i1) (.ref i2))
   (h1:s.heap.IsListIter i1 l1 k1)(hl1:s.heap.IsList l1 xs)(hx:xs[k1]?=none)
   (hE:∀ h' e,(∀ c o,c≠z→c≠i1→s.heap.get? c=some o→h'.get? c=some o)→(∃ o,h'.get? e=some o∧o.cls=.type "StopIteration")→E (.ref e) { s with heap:=h' }) :
   wpAny (model prog w) A (Builtin.«zip.__next__» ⟨[.ref z],[]⟩) Q E s:=by
 show wpAny _ _ (field (.ref z) 2 >>= _) _ _ _
 refine wpAny_bind (wpAny_field hz rfl (x:=.bool false) rfl (show wpAny _ _ (field (.ref z) 3 >>= _) _ _ _ from wpAny_bind (wpAny_field hz rfl (x:=.ref TI) rfl (wpAny_bind (wpAny_seqItems hTI rfl ?_)))))
 show wpAny _ _ (Builtin.SmallTypes.ownedTupleIsFree (.ref z) >>= _) _ _ _
 refine wpAny_bind (qY hz hT fun ha hza ka hsa=>?_)
 simp only[Bool.false_eq_true,if_false,List.forIn_toArray,List.forIn_cons,List.forIn_nil]
 refine wpAny_bind (wpAny_bind (wpAny_bind (wpAny_holding ?_)))
 show wpAny _ _ (Builtin.SmallTypes.nextOf (.ref i1) >>= _) _ _ _
 refine wpAny_bind (wpAny_nextOf_list_end hh (h1.at fun o e=>ka _ o D.i1z e) (hl1.at fun o e=>ka _ o D.l1z e) hx fun hb e kb he=>?_)
 exact hE hb e (fun c o c1 c2 x=>kb _ _ c2 (ka c o c1 x)) he
theorem pF {z TI TO T0 i1 i2 l1 l2:Addr}{f1:Bool}{k1 k2:Nat}{xs ys:Array Value}{x y:Value}{Q:Option Value→Shared→Prop}(D:ZipApart z TI TO i1 i2 l1 l2)
   (hz:mM s.heap z TI TO T0 f1)(hT:∃ o,s.heap.get? T0=some o)(hTI:IsPair s.heap TI (.ref i1) (.ref i2))
   (h1:s.heap.IsListIter i1 l1 k1)(h2:s.heap.IsListIter i2 l2 k2)(hl1:s.heap.IsList l1 xs)(hl2:s.heap.IsList l2 ys)(hx:xs[k1]?=some x)(hy:ys[k2]?=some y)
   (hQ:∀ h',mM h' z TI TO T0 true→h'.IsListIter i1 l1 (k1+1)→h'.IsListIter i2 l2 (k2+1)→IsPair h' s.heap.objs.size x y→h'.objs.size=s.heap.objs.size+1 →
     (∀ c o,c≠z→c≠i1→c≠i2→s.heap.get? c=some o→h'.get? c=some o)→Q (some (.ref s.heap.objs.size)) { s with heap:=h' }) :
   wpAny (model prog w) A (pyNext (.ref z)) Q E s:=by
 have hTy:s.TypeIs (.ref z) "zip":=⟨_,hz,rfl⟩
 unfold pyNext
 exact wpAny_bind (wpAny_attempt (wpAny_callSpecial?_slot (name:=Str.ofString "__next__") hTy F.slot_zip_next (wpAny_call_entry F.slot_zip_next hTy F.entry_zip_next
     (tI D hz hT hTI h1 h2 hl1 hl2 hx hy fun h' a1 a2 a3 a4 a5 a6=>wpAny_pure (hQ h' a1 a2 a3 a4 a5 a6)) (F.args_zip_next_1 _))))
theorem sY {z TI TO T0 i1 i2 l1 l2:Addr}{f1:Bool}{k1:Nat}{xs:Array Value}{Q:Option Value→Shared→Prop}(hh:A.handled=none)(D:ZipApart z TI TO i1 i2 l1 l2)
   (hz:mM s.heap z TI TO T0 f1)(hT:∃ o,s.heap.get? T0=some o)(hTI:IsPair s.heap TI (.ref i1) (.ref i2))(h1:s.heap.IsListIter i1 l1 k1)(hl1:s.heap.IsList l1 xs)(hx:xs[k1]?=none)
   (hQ:∀ h',(∀ c o,c≠z→c≠i1→s.heap.get? c=some o→h'.get? c=some o)→Q none { s with heap:=h' }):wpAny (model prog w) A (pyNext (.ref z)) Q E s:=by
 have hTy:s.TypeIs (.ref z) "zip":=⟨_,hz,rfl⟩
 unfold pyNext
 refine wpAny_bind (wpAny_attempt (wpAny_callSpecial?_slot (name:=Str.ofString "__next__") hTy F.slot_zip_next (wpAny_call_entry F.slot_zip_next hTy F.entry_zip_next
   (ue (k2:=0) (ys:=#[]) hh D hz hT hTI h1 hl1 hx fun h' e hk he=>?_) (F.args_zip_next_1 _))))
 obtain⟨o,ho,hc⟩:=he
 exact wpAny_bind (wpAny_isInstance (T:="StopIteration") (b:=true) ⟨o,ho,hc⟩ isSubtype_stop (wpAny_pure (hQ _ hk)))
end
end L2

set_option Elab.async false
set_option linter.all false
set_option maxRecDepth 100000
set_option maxHeartbeats 8000000
namespace L2
open PySem PySem.Spec PyProof.Rows
theorem jA:typeLookup (.type "zip") "__getattr__"=pure none:=by rw[typeLookup_type,builtinLookup_eq_fast];kernel_rfl
theorem nq:typeLookup (.type "zip") "keys"=pure none:=by rw[typeLookup_type,builtinLookup_eq_fast];kernel_rfl
theorem gO:entryFor table "dict.update.loop"=some Builtin.«dict.update.loop»:=entryFor_of_tree (by kernel_rfl)
theorem dB:plainId "dict.update.loop"=true:=by decide +kernel
theorem oO:entryFor table "zip.__getattribute__"=some Builtin.«object.__getattribute__»:=entryFor_alias (id':="object.__getattribute__") (by kernel_rfl) (by decide +kernel) (by decide +kernel) (by kernel_rfl)
section
variable {prog:Program}{w:World}{A:Around}{E:Value→Shared→Prop}{s:Shared}
theorem pZ {z TI TO:Addr}{f0:Value}{Q:Option Value→Shared→Prop}(hh:A.handled=none)(hz:IsZip s.heap z TI TO f0)
   (h:∀ h' tk,(∀ b o,s.heap.get? b=some o→h'.get? b=some o)→Q none { s with heap:=h',toks:=tk }):wpAny (model prog w) A (getAttr? (.ref z) "keys") Q E s:=by
 have f1:=sub_AttributeError
 have f3:=F.slot_zip_getattribute.lookup
 have f4:=F.slot_zip_getattribute.bind (.ref z)
 have f5:=jA
 have f6:=nq
 obtain⟨hp,g,d,tk,os⟩:=s
 have hT:Shared.TypeIs ⟨hp,g,d,tk,os⟩ (.ref z) "zip":=⟨_,hz,rfl⟩
 unfold getAttr? getAttrBy? getAttrBy
 repeat (any_goals (first | assumption | wp_step))
 refine codeAny_call_builtin F.slot_zip_getattribute.plain oO (F.slot_zip_getattribute.check _ _ _ _ _ _ _ _ ⟨_,hz,rfl⟩ (F.args_zip_getattribute_2 _ _) ?_)
 unfold Builtin.«object.__getattribute__»
 repeat (any_goals (first | assumption | wp_step))
 refine wpAny_raiseAttrError (by simpa using hh) (fun h' tk' e hx=>?_) (attrMsg_fits (by decide +kernel) (by rw[sizeLine_eq];decide +kernel))
 obtain⟨t',u',he⟩:=hx.there
 show wpAny _ _ (getattributeRaised _ _ _ _ _ _ _) _ _ _
 unfold getattributeRaised
 repeat (any_goals (first | assumption | wp_step))
 exact h h' tk' hx.keeps
theorem pX {T:Addr}{x y:Value}{Q:List Value→Shared→Prop}(hT:IsPair s.heap T x y)(h:Q [x,y] s):wpAny (model prog w) A (Builtin.Dict.pairItems (.ref T)) Q E s:=by
 unfold Builtin.Dict.pairItems
 refine wpAny_bind (wpAny_typeOf (T:="tuple") ⟨_,hT,rfl⟩ ?_)
 rw[if_pos (by decide)]
 exact wpAny_bind (wpAny_seqItems hT rfl (wpAny_pure h))

def kh (h:Heap)(z TI TO:Addr):Prop:=IsZip h z TI TO .none∨∃ T0 f1,mM h z TI TO T0 f1∧(∃ o,h.get? T0=some o)∧T0≠z
theorem wC {z TI TO i1 i2 l1 l2:Addr}{k1 k2:Nat}{xs ys:Array Value}{x y:Value}{Q:Option Value→Shared→Prop}(D:ZipApart z TI TO i1 i2 l1 l2)
   (hz:kh s.heap z TI TO)(hTI:IsPair s.heap TI (.ref i1) (.ref i2))(hTO:∃ a b,IsPair s.heap TO a b)
   (h1:s.heap.IsListIter i1 l1 k1)(h2:s.heap.IsListIter i2 l2 k2)(hl1:s.heap.IsList l1 xs)(hl2:s.heap.IsList l2 ys)(hx:xs[k1]?=some x)(hy:ys[k2]?=some y)
   (hQ:∀ h' T,kh h' z TI TO→(∃ a b,IsPair h' TO a b)→h'.IsListIter i1 l1 (k1+1)→h'.IsListIter i2 l2 (k2+1)→IsPair h' T x y →
     (∀ c o,c≠z→c≠TO→c≠i1→c≠i2→s.heap.get? c=some o→h'.get? c=some o)→s.heap.objs.size≤T→Q (some (.ref T)) { s with heap:=h' }) :
   wpAny (model prog w) A (pyNext (.ref z)) Q E s:=by
 obtain⟨a,b,hTO⟩:=hTO
 rcases hz with hz | ⟨T0,f1,hz,hT0,hne⟩
 · refine wpAny_pyNext_zip_item D hz hTI hTO h1 h2 hl1 hl2 hx hy fun h' a1 a2 a3 a4 a5 a6 a7=>?_
   exact hQ h' _ (.inr ⟨_,_,a1,⟨_,a5⟩,Nat.ne_of_gt (Heap.lt_size hz)⟩) ⟨_,_,a2⟩ a3 a4 a5 a7 (Nat.le_refl _)
 · refine pF D hz hT0 hTI h1 h2 hl1 hl2 hx hy fun h' a1 a2 a3 a4 a5 a6=>?_
   have hTO':IsPair h' TO a b:=a6 _ _ D.TOz D.TOi1 D.TOi2 hTO
   have hT0':∃ o,h'.get? T0=some o:=by
     obtain⟨o,ho⟩:=hT0
     by_cases e1:T0=i1
     · subst e1;obtain⟨o',e',_⟩:=a2;exact⟨o',e'⟩
     · by_cases e2:T0=i2
       · subst e2;obtain⟨o',e',_⟩:=a3;exact⟨o',e'⟩
       · exact⟨o,a6 _ _ hne e1 e2 ho⟩
   exact hQ h' _ (.inr ⟨_,_,a1,hT0',hne⟩) ⟨_,_,hTO'⟩ a2 a3 a4 (fun c o c1 _ c3 c4 e=>a6 c o c1 c3 c4 e) (Nat.le_refl _)
theorem xT {z TI TO i1 i2 l1 l2:Addr}{k1 k2:Nat}{xs ys:Array Value}{Q:Option Value→Shared→Prop}(hh:A.handled=none)(D:ZipApart z TI TO i1 i2 l1 l2)
   (hz:kh s.heap z TI TO)(hTI:IsPair s.heap TI (.ref i1) (.ref i2))(hTO:∃ a b,IsPair s.heap TO a b)
   (h1:s.heap.IsListIter i1 l1 k1)(h2:s.heap.IsListIter i2 l2 k2)(hl1:s.heap.IsList l1 xs)(hl2:s.heap.IsList l2 ys)(hx:xs[k1]?=none)
   (hQ:∀ h',(∀ c o,c≠z→c≠TO→c≠i1→c≠i2→s.heap.get? c=some o→h'.get? c=some o)→Q none { s with heap:=h' }):wpAny (model prog w) A (pyNext (.ref z)) Q E s:=by
 obtain⟨a,b,hTO⟩:=hTO
 rcases hz with hz | ⟨T0,f1,hz,hT0,hne⟩
 · exact wpAny_pyNext_zip_end hh D hz hTI hTO h1 h2 hl1 hl2 (.inl hx) hQ
 · exact sY hh D hz hT0 hTI h1 hl1 hx fun h' k=>hQ h' fun c o c1 _ c3 _ e=>k c o c1 c3 e
theorem kh.keep {h h':Heap}{z TI TO d:Addr}(hz:kh h z TI TO)(hd:d≠z)(hs:Heap.SameBut d h h')(hde:∃ o,h'.get? d=some o):kh h' z TI TO:=by
 rcases hz with hz | ⟨T0,f1,hz,⟨o,ho⟩,hne⟩
 · exact .inl (hs.extBut _ _ (Ne.symm hd) hz)
 · refine .inr ⟨T0,f1,hs.extBut _ _ (Ne.symm hd) hz,?_,hne⟩
   by_cases e:T0=d
   · subst e;exact hde
   · exact⟨o,hs.extBut _ _ e ho⟩
end
end L2

set_option Elab.async false
set_option linter.all false
set_option maxRecDepth 100000
set_option maxHeartbeats 8000000
namespace L2
open PySem PySem.Spec PyProof.Rows
section
variable {prog:Program}{w:World}{κ:Type} [DecidableEq κ]{knd:KeyKind prog w κ}
theorem wI {A:Around}{R:Result→Shared→Prop}{d z TI TO i1 i2 l1 l2:Addr}{xs ys:Array Value}{ks:List κ}(hh:A.in1.handled=none)(D:ZipApart z TI TO i1 i2 l1 l2)(hdz:d≠z)(hdTI:d≠TI)(hdTO:d≠TO)(hd1:d≠i1)(hd2:d≠i2)(hdl1:d≠l1)(hdl2:d≠l2)
   (hks:∀ (i:Nat) x,xs[i]?=some x→∃ k,ks[i]?=some k∧knd.is k x=true)(hxy:xs.size=ys.size)(hkl:ks.length=xs.size)(hsz:xs.size≤1000) :
   ∀ (n i:Nat)(s:Shared),xs.size - i=n→i≤xs.size→kh s.heap z TI TO→IsPair s.heap TI (.ref i1) (.ref i2)→(∃ a b,IsPair s.heap TO a b)→s.heap.IsListIter i1 l1 i→s.heap.IsListIter i2 l2 i→s.heap.IsList l1 xs→s.heap.IsList l2 ys →
     (∃ kvs,kvs.length≤i∧s.heap.DictOf knd d kvs∧kvs=merged [] ((ks.zip ys.toList).take i)) →
     (∀ h' tk,(∀ c o,c≠d→c≠z→c≠TO→c≠i1→c≠i2→s.heap.get? c=some o→h'.get? c=some o)→h'.DictOf knd d (merged [] (ks.zip ys.toList))→R (.ok (.ret .none)) { s with heap:=h',toks:=tk }) →
     codeAny (model prog w) A (.builtin "dict.update.loop" ⟨[.ref d,.ref z,rawInt i,.none],[]⟩) R s:=by
 intro n
 induction n with
 | zero =>
   intro i s hn hi hz hTI hTO h1 h2 hl1 hl2 hD hR
   have e:i=xs.size:=by omega
   refine codeAny_builtin gO ?_
   rw[Around.under_plainId dB _]
   show wpAny _ A.in1 (pyNext (.ref z) >>= _) _ _ s
   refine wpAny_bind (xT hh D hz hTI hTO h1 h2 hl1 hl2 (by rw[e];simp) fun h' kk=>?_)
   obtain⟨kvs,hkl',hdd,rfl⟩:=hD
   have et:(ks.zip ys.toList).take i=ks.zip ys.toList:=List.take_of_length_le (by rw[List.length_zip,hkl,e];exact Nat.min_le_left _ _)
   rw[et] at hdd
   refine wpAny_bind (wpAny_pure (wpAny_pure (hR h' s.toks (fun c o _ c1 c2 c3 c4 e=>kk c o c1 c2 c3 c4 e) ?_)))
   obtain⟨o,es,ep,ho,cf⟩:=hdd
   exact⟨o,es,ep,kk _ _ hdz hdTO hd1 hd2 ho,cf⟩
 | succ n ih =>
   intro i s hn hi hz hTI hTO h1 h2 hl1 hl2 hD hR
   have hlt:i < xs.size:=by omega
   have hlt2:i < ys.size:=by omega
   refine codeAny_builtin gO ?_
   rw[Around.under_plainId dB _]
   show wpAny _ A.in1 (pyNext (.ref z) >>= _) _ _ s
   refine wpAny_bind (wC D hz hTI hTO h1 h2 hl1 hl2 (Array.getElem?_eq_getElem hlt) (Array.getElem?_eq_getElem hlt2) fun h' T a1 a2 a3 a4 a5 a6 a7=>?_)
   obtain⟨k,hk,hkis⟩:=hks i _ (Array.getElem?_eq_getElem hlt)
   obtain⟨kvs,hkl',hdd,ekv⟩:=hD
   have hdd':h'.DictOf knd d kvs:=by
     obtain⟨o,es,ep,ho,cf⟩:=hdd
     exact⟨o,es,ep,a6 _ _ hdz hdTO hd1 hd2 ho,cf⟩
   refine wpAny_bind (wpAny_holding (wpAny_bind (wpAny_tryCatch (pX a5 ?_))))
   refine wpAny_holding (wpAny_dictSet_pairs hkis hdd' (fun h2' hdd2 sb=>?_) (by rw[sizeLine_eq];omega))
   have hde:∃ o,h2'.get? d=some o:=by obtain⟨o,es,ep,ho,_⟩:=hdd2;exact⟨o,ho⟩
   have up:∀ b o,b≠d→h'.get? b=some o→h2'.get? b=some o:=fun b o hb e=>sb.extBut _ _ hb e
   have es:(ks.zip ys.toList).take (i+1)=(ks.zip ys.toList).take i++[(k,ys[i])]:=by
     have hzi:(ks.zip ys.toList)[i]?=some (k,ys[i]):=List.getElem?_zip_eq_some.mpr ⟨hk,by simp[hlt2]⟩
     rw[List.take_succ,hzi]
     rfl
   have hst:(stored kvs k ys[i]).length≤kvs.length+1:=by
     unfold stored
     split
     · rw[List.length_map];omega
     · rw[List.length_append];simp
   refine wpAny_pure ⟨plainId_quiet dB _,?_⟩
   have ei:(i:Int)+1=((i+1:Nat):Int):=by omega
   show codeAny (model prog w) A (.builtin "dict.update.loop" ⟨[.ref d,.ref z,rawInt ((i:Int)+1),.none],[]⟩) R _
   rw[ei]
   refine ih (i+1) _ (by omega) hlt (a1.keep hdz sb hde) (up _ _ (Ne.symm hdTI) (a6 _ _ D.TIz D.TITO D.TIi1 D.TIi2 hTI)) ?_ (a3.at fun o e=>up _ o (Ne.symm hd1) e) (a4.at fun o e=>up _ o (Ne.symm hd2) e) (hl1.at fun o e=>up _ o (Ne.symm hdl1) (a6 _ o D.l1z D.l1TO D.l1i1 D.l1i2 e))
     (hl2.at fun o e=>up _ o (Ne.symm hdl2) (a6 _ o D.l2z D.l2TO D.l2i1 D.l2i2 e)) ⟨_,by omega,hdd2,?_⟩ fun h3 tk kk hd3=>?_
   · obtain⟨a,b,e⟩:=a2
     exact⟨a,b,up _ _ (Ne.symm hdTO) e⟩
   · rw[es,ekv]
     unfold merged
     rw[List.foldl_append]
     rfl
   · exact hR h3 tk (fun c o c0 c1 c2 c3 c4 e=>kk c o c0 c1 c2 c3 c4 (up _ _ c0 (a6 c o c1 c2 c3 c4 e))) hd3
theorem vb {A:Around}{E:Value→Shared→Prop}{s:Shared}{Q:Value→Shared→Prop}{z TI TO i1 i2 l1 l2:Addr}{xs ys:Array Value}{ks:List κ}(hh:A.handled=none)(D:ZipApart z TI TO i1 i2 l1 l2)(hz:IsZip s.heap z TI TO .none)
   (hTI:IsPair s.heap TI (.ref i1) (.ref i2))(hTO:∃ a b,IsPair s.heap TO a b)(h1:s.heap.IsListIter i1 l1 0)(h2:s.heap.IsListIter i2 l2 0)(hl1:s.heap.IsList l1 xs)(hl2:s.heap.IsList l2 ys)
   (hks:∀ (i:Nat) x,xs[i]?=some x→∃ k,ks[i]?=some k∧knd.is k x=true)(hxy:xs.size=ys.size)(hkl:ks.length=xs.size)(hsz:xs.size≤1000)
   (h:∀ h' tk,(∀ c o,c≠z→c≠TO→c≠i1→c≠i2→s.heap.get? c=some o→h'.get? c=some o)→h'.DictOf knd s.heap.objs.size (merged [] (ks.zip ys.toList))→Q (.ref s.heap.objs.size) { s with heap:=h',toks:=tk }) :
   wpAny (model prog w) A (call (.type "dict") [.ref z]) Q E s:=by
 refine callType_codes (Q₁:=fun obj s₁=>obj=.ref s.heap.objs.size∧s₁={ s with heap:=s.heap.push { cls:=.type "dict",data:=.dict #[] } }) F.kt_called_dict (F.kt_typeCall_dict_1 _) F.entry_dict_init (kt_code_dict_new _ ⟨rfl,rfl⟩) ?_
 rintro obj s1 ⟨rfl,rfl⟩
 have hnew:(s.heap.push { cls:=.type "dict",data:=.dict #[] }).DictOf knd s.heap.objs.size []:=Heap.DictOf.new s.heap
 have up:∀ b o,s.heap.get? b=some o→(s.heap.push { cls:=.type "dict",data:=.dict #[] }).get? b=some o:=fun b o e=>Heap.get?_push_of_some _ e
 have lt:∀ {b o},s.heap.get? b=some o→s.heap.objs.size≠b:=fun e=>Nat.ne_of_gt (Heap.lt_size e)
 refine⟨hnew.typeIs,F.args_dict_init_2 _ _,?_⟩
 unfold Builtin.«dict.__init__»
 refine wpAny_bind ?_
 unfold Builtin.Dict.selfAndRest
 refine wpAny_bind (wpAny_notOrdered_dict hnew.typeIs (show wpAny _ _ (pure (s.heap.objs.size,[Value.ref z])) _ _ _ from wpAny_pure ?_))
 show wpAny _ _ (Builtin.Dict.updateFrom "dict.__init__" s.heap.objs.size (.ref z) [] .none) _ _ _
 unfold Builtin.Dict.updateFrom
 refine wpAny_bind (wpAny_typeOf (T:="zip") ⟨_,up _ _ hz,rfl⟩ ?_)
 rw[if_pos (by decide)]
 refine wpAny_bind (pZ (by simpa using hh) (up _ _ hz) fun h' tk kk=>?_)
 have kz:IsZip h' z TI TO .none:=kk _ _ (up _ _ hz)
 rw[if_pos (by rfl)]
 refine wpAny_bind (wpAny_rule (wpAny_bind (wpAny_pyIter_zip kz (wpAny_pure ⟨plainId_quiet dB _,?_⟩))))
 obtain⟨a,b,hTO⟩:=hTO
 have e1:=h1;have e2:=h2;have e3:=hl1;have e4:=hl2
 obtain⟨o1,ho1,_⟩:=e1
 obtain⟨o2,ho2,_⟩:=e2
 obtain⟨o3,ho3,_⟩:=e3
 obtain⟨o4,ho4,_⟩:=e4
 refine wI (A:=A.in1) (knd:=knd) (ks:=ks) (by simpa using hh) D (lt hz) (lt hTI) (lt hTO) (lt ho1) (lt ho2) (lt ho3) (lt ho4) hks hxy hkl hsz (xs.size - 0) 0 _ (by omega) (Nat.zero_le _) (.inl kz) (kk _ _ (up _ _ hTI)) ⟨a,b,kk _ _ (up _ _ hTO)⟩
   (h1.at fun o e=>kk _ o (up _ o e)) (h2.at fun o e=>kk _ o (up _ o e)) (hl1.at fun o e=>kk _ o (up _ o e)) (hl2.at fun o e=>kk _ o (up _ o e)) ⟨[],Nat.le_refl _,?_,rfl⟩ fun h3 tk3 k3 hd3=>?_
 · obtain⟨o,es,ep,ho,cf⟩:=hnew
   exact⟨o,es,ep,kk _ _ ho,cf⟩
 · exact⟨rfl,h h3 tk3 (fun c o c1 c2 c3 c4 e=>k3 c o (Ne.symm (lt e)) c1 c2 c3 c4 (kk _ _ (up _ _ e))) hd3⟩
end
end L2

set_option Elab.async false
set_option linter.all false
set_option maxRecDepth 100000
set_option maxHeartbeats 8000000
namespace L2
open PySem PySem.Spec PyProof.Rows
/-! ### a set of texts -/
def x9 (P:Program)(w:World)(p:Addr) (n:Nat):HO:=.ext fun h=>∃ S,h.SetOf (strKind P w) p S n
theorem SetOf.at_ {P:Program}{w:World}{h1 h2:Heap}{p:Addr}{n:Nat}(x:∃ S,h1.SetOf (strKind P w) p S n)(k:∀ o,h1.get? p=some o→h2.get? p=some o):∃ S,h2.SetOf (strKind P w) p S n:=by
 obtain⟨S,o,es,ep,t,ho,r⟩:=x
 exact⟨S,o,es,ep,t,k _ ho,r⟩
section
variable {X:Cx}
theorem vg (hc:X.calm=true):cx X (.type "set") (fun xs H Q=>∃ (a:Addr)(ss:List Str),xs=[.ref a]∧SqL X.K H a (ss.map V.str)∧ss.length≤1000∧∀ p,H p=none→Q (.ref p) (upd H p (x9 X.prog X.w p (eK ss).length))):=by
 intro pins s σ H xs us Q I r h
 obtain⟨a,ss,rfl,ha,hn,q⟩:=h
 obtain⟨u,rfl,ru⟩:=dq r
 cases ru
 obtain⟨its,rv,pl,_⟩:=I.list ha
 have hl:=rv.length
 rw[List.length_map] at hl
 refine tT (I.ok.hd hc) pl.isList (by simpa using ib rv) (by rw[List.size_toArray];unfold scanBound;omega) fun h' tk kk hS=>?_
 have he:∃ o,h'.get? s.heap.objs.size=some o:=by obtain⟨o,_,_,_,e,_⟩:=hS;exact⟨o,e⟩
 exact⟨.ref s.heap.objs.size,_,I.laid (o:=x9 X.prog X.w s.heap.objs.size (eK ss).length) kk (Nat.le_refl _) ⟨⟨_,hS⟩,he,fun h1 h2 x k=>SetOf.at_ x k⟩,rfl,q _ (I.hok.fresh (Nat.le_refl _))⟩
theorem rW:cx X (.builtin "len") (fun xs H Q=>∃ p n,xs=[V.ref p]∧H p=some (x9 X.prog X.w p n)∧Q (.int (n:Nat)) H):=by
 intro pins s σ H xs us Q I r h
 obtain⟨p,n,rfl,hp,q⟩:=h
 obtain⟨u,rfl,ru⟩:=dq r
 cases ru
 obtain⟨⟨S,o,es,ep,t,ho,hex,hd,_,_,hb,hf,hn⟩,_⟩:=I.hok p _ hp
 have hfit:(es.size:Int) < 2 ^ 63:=by
   unfold scanBound at hb
   omega
 refine call_len_set ho hex hd hf hfit ?_
 rw[hn]
 exact⟨.int n,H,I.tok _,⟨_,rfl⟩,q⟩

/-! ### dict(zip(a,b)) -/
def cF (ks:List Str)(vs:List V):List (Key×V):=(ks.map fun k=>(Sum.inr k:Key)).zip vs
theorem uH:∀ {ks:List Key}{vs:List V}{us:List Value},Vals vs us→KV (ks.zip vs) (ks.zip us)
 | [],_,_,_=>by simp;exact .nil
 | _::_,_,_,.nil=>by simp;exact .nil
 | k::ks,_,_,.cons r t=>by
   rw[List.zip_cons_cons,List.zip_cons_cons]
   exact .cons ⟨rfl,r⟩ (uH t)
def pf (K:PySem.W.Frag)(ta:TA):TE:=fun σ H Q=>ta σ H fun xs H1=>∃ (l1 l2:Addr)(ks:List Str)(vs:List V),xs=[.ref l1,.ref l2]∧SqL K H1 l1 (ks.map V.str)∧SqL K H1 l2 vs∧ks.length=vs.length∧ks.length≤1000 ∧
 ∀ p,H1 p=none→Q (.ref p) (upd H1 p (.dK (cQ [] (cF ks vs))))
theorem pP {a b:Expr}{ta:TA}{p pos p' pos':Pos}(hc:X.calm=true)(hgd:Gl X "dict")(hmd:X.mg "dict"=none)(hgz:Gl X "zip")(hmz:X.mg "zip"=none)(ha:PA X [a,b] ta)
   (hs:starEach [a,b] X.env=(false,eval a X.env)::starEach [b] X.env:=by rfl)(hpl:(backTo pos' (starEach [b] X.env)).any (·.1)=false:=by rfl)
   (hs2:starEach [.Call (.Name "zip" p') [a,b] [] pos'] X.env=(false,eval (.Call (.Name "zip" p') [a,b] [] pos') X.env)::starEach [] X.env:=by rfl) :
   PE X (.Call (.Name "dict" p) [.Call (.Name "zip" p') [a,b] [] pos'] [] pos) (pf X.K ta):=by
 intro pins s σ H Q I h
 refine wpAny_Call_Name_kw (gR I hgd hmd (u:=.type "dict") (by decide +kernel) ?_)
 refine PyProof.Rows.callWith_type1 ?_ hs2 rfl
 rw[hs2]
 show wpAny _ _ (spliced ((false,eval (.Call (.Name "zip" p') [a,b] [] pos') X.env)::backTo pos [])) _ _ s
 refine Calls.spliced_cons ?_
 refine wpAny_Call_Name_kw (gR I hgz hmz (u:=.type "zip") (by decide +kernel) ?_)
 refine PyProof.Rows.callWith_type1 (thn (ha pos' s σ H _ I h) fun us s1 ⟨xs,H1,I1,r1,q1⟩=>?_) hs hpl
 obtain⟨l1,l2,ks,vs,rfl,h1,h2,hkv,hk,q⟩:=q1
 obtain⟨u1,u2,rfl,e1,e2⟩:=r1.two
 cases e1
 cases e2
 obtain⟨i1,v1,p1,z1⟩:=I1.list h1
 obtain⟨i2,v2,p2,z2⟩:=I1.list h2
 have n1:=v1.length
 have n2:=v2.length
 rw[List.length_map] at n1
 have lt1:l1 < s1.heap.objs.size:=by obtain⟨_,_,e,_⟩:=p1;exact Heap.lt_size e
 have lt2:l2 < s1.heap.objs.size:=by obtain⟨_,_,e,_⟩:=p2;exact Heap.lt_size e
 refine call_zip_2 p1.isList p2.isList fun h' a1 a2 a3 a4 a5 a6 kk=>?_
 refine Calls.spliced_nil ?_
 have I2:Inv X pins σ H1 { s1 with heap:=h' }:=I1.kept (t':=s1.toks) kk
 have hfr:H1 h'.objs.size=none:=I2.hok.fresh (Nat.le_refl _)
 refine vb (s:={ s1 with heap:=h' }) (knd:=bJ X.prog X.w) (ks:=ks.map fun k=>(Sum.inr k:Key)) (I1.ok.hd hc) (zipApart_new lt1 lt2) a1 a2 ⟨_,_,a3⟩ a4 a5 (p1.isList.at fun o e=>kk _ o e) (p2.isList.at fun o e=>kk _ o e) ?_ (by simp;omega) (by simp;omega) (by simp;omega) fun h3 tk k3 hd3=>?_
 · intro i x hx
   have hx':i1[i]?=some x:=by simpa using hx
   have hi:i < ks.length:=by rw[n1];exact(List.getElem?_eq_some_iff.mp hx').1
   obtain⟨u,hu,ru⟩:=v1.get (i:=i) (x:=V.str ks[i]) (by rw[List.getElem?_map,List.getElem?_eq_getElem hi];rfl)
   rw[hx'] at hu
   cases hu
   obtain⟨t,rfl⟩:=ru
   exact⟨Sum.inr ks[i],by rw[List.getElem?_map,List.getElem?_eq_getElem hi];rfl,jq _ _ _ _⟩
 · have he:∃ o,h3.get? h'.objs.size=some o:=by obtain⟨o,_,_,e,_⟩:=hd3;exact⟨o,e⟩
   have big:sysModules < h'.objs.size:=I2.big
   have rel:KV (cQ [] (cF ks vs)) (merged [] ((ks.map fun k=>(Sum.inr k:Key)).zip i2.toArray.toList)):=KV.merge (uH (by simpa using v2)) .nil
   have hz:(cQ [] (cF ks vs)).length≤sizeLine:=by
     have:=eW (cF ks vs) []
     have l:(cF ks vs).length≤ks.length:=by unfold cF;rw[List.length_zip,List.length_map];exact Nat.min_le_left _ _
     rw[List.length_nil] at this
     rw[sizeLine_eq]
     omega
   have kall:∀ b o,s1.heap.get? b=some o→h3.get? b=some o:=fun b o e=>by
     have hlt:=Heap.lt_size e
     exact k3 b o (Nat.ne_of_lt (Nat.lt_of_lt_of_le hlt (Nat.le_add_right _ _))) (Nat.ne_of_lt (Nat.lt_of_lt_of_le hlt (Nat.le_add_right _ _))) (Nat.ne_of_lt hlt) (Nat.ne_of_lt (Nat.lt_of_lt_of_le hlt (Nat.le_add_right _ _))) (kk b o e)
   have hsz:s1.heap.objs.size≤h'.objs.size:=by rw[a6];omega
   have I3:=I1.laid (a:=h'.objs.size) (o:=.dK (cQ [] (cF ks vs))) (h':=h3) (t':=tk) kall hsz (pB hz (beq_eq_false_iff_ne.mpr (Ne.symm (Nat.ne_of_lt big))) rel hd3)
   exact⟨.ref h'.objs.size,_,I3,rfl,q _ hfr⟩
end
end L2

set_option Elab.async false
set_option linter.all false
set_option maxRecDepth 100000
set_option maxHeartbeats 8000000
namespace L2
open PySem PySem.Spec PyProof.Rows
/-! ### texts in order -/
def leS (a b:Str):Prop:=ltCps b.cps.toList a.cps.toList=false
theorem dS {a b:Str}:leS a b↔¬b.cps.toList < a.cps.toList:=by unfold leS;rw[ltCps_eq];simp
theorem f8 {a b:Str}(h1:leS a b)(h2:leS b a):a=b:=by
 rw[dS] at h1 h2
 have e:a.cps.toList=b.cps.toList:=by
   have h1':a.cps.toList≤b.cps.toList:=h1
   have h2':b.cps.toList≤a.cps.toList:=h2
   exact List.le_antisymm h1' h2'
 have e2:a.cps=b.cps:=Array.toList_inj.mp e
 cases a
 cases b
 simp only at e2
 rw[e2]
theorem tJ {a b c:Str}(h1:leS a b)(h2:leS b c):leS a c:=by
 rw[dS] at h1 h2 ⊢
 have h1':a.cps.toList≤b.cps.toList:=h1
 have h2':b.cps.toList≤c.cps.toList:=h2
 exact List.le_trans h1' h2'
theorem ig:∀ (p:Str)(l:List Str),risingS p l=true→(p::l).Pairwise leS
 | p,[],_=>List.pairwise_singleton _ _
 | p,x::r,h=>by
   have h':(!ltCps x.cps.toList p.cps.toList&&risingS x r)=true:=h
   rw[Bool.and_eq_true] at h'
   have ih:=ig x r h'.2
   have hpx:leS p x:=by unfold leS;simpa using h'.1
   refine List.pairwise_cons.mpr ⟨fun y hy=>?_,ih⟩
   rcases List.mem_cons.mp hy with e | hy
   · subst e;exact hpx
   · exact tJ hpx ((List.pairwise_cons.mp ih).1 y hy)
theorem d7:∀ (l:List Str),sortedS l=true→l.Pairwise leS
 | [],_=>List.Pairwise.nil
 | x::r,h=>ig x r h
theorem eP {a b:List Str}(ha:sortedS a=true)(hb:sortedS b=true)(h:a.Perm b):a=b :=
 List.Perm.eq_of_pairwise (fun x y _ _ h1 h2=>f8 h1 h2) (d7 a ha) (d7 b hb) h
theorem gc:∀ {l:List Value}{ks:List Str},l.length=ks.length→(∀ (i:Nat) v,l[i]?=some v→∃ x t,ks[i]?=some x∧v=.str x t)→StrsAre l ks
 | [],[],_,_=>.nil
 | [],_::_,h,_=>by simp at h
 | _::_,[],h,_=>by simp at h
 | v::l,k::ks,h,hv=>by
   obtain⟨x,t,hx,e⟩:=hv 0 v rfl
   simp at hx
   subst hx e
   exact .cons _ t (gc (by simpa using h) fun i u hu=>by simpa using hv (i+1) u (by simpa using hu))
theorem oA:∀ {xs:List V}{us:List Value},xs.length=us.length→(∀ (i:Nat) u,us[i]?=some u→∃ x,xs[i]?=some x∧a8 x u)→Vals xs us
 | [],[],_,_=>.nil
 | [],_::_,h,_=>by simp at h
 | _::_,[],h,_=>by simp at h
 | x::xs,u::us,h,hv=>by
   obtain⟨y,hy,r⟩:=hv 0 u rfl
   simp at hy
   subst hy
   exact .cons r (oA (by simpa using h) fun i w hw=>by simpa using hv (i+1) w (by simpa using hw))
section
variable {X:Cx}
theorem dU:cx X (.builtin "sorted") (fun xs H Q=>∃ (a:Addr)(ss:List Str),xs=[.ref a]∧SqL X.K H a (ss.map V.str)∧ss.length < 64∧∀ p ss',H p=none→ss'.Perm ss→sortedS ss'=true→Q (.ref p) (upd H p (.lst (ss'.map V.str)))):=by
 intro pins s σ H xs us Q I r h
 obtain⟨a,ss,rfl,ha,hn,q⟩:=h
 obtain⟨u,rfl,ru⟩:=dq r
 cases ru
 obtain⟨its,rv,pl,_⟩:=I.list ha
 have hl:=rv.length
 rw[List.length_map] at hl
 refine sorted_strs pl.isList (ib rv) (by omega) fun out ss' a1 a2 a3=>?_
 obtain⟨e,he⟩:=sortedAll_at s.heap its out
 have hp:=a2.length_eq
 refine⟨.ref (s.heap.objs.size+1),_,I.laid (o:=.lst (ss'.map V.str)) (t':=s.toks) (fun b o x=>sortedAll_old x) (Nat.le_succ _) ⟨by rw[List.length_map,sizeLine_eq];omega,out.toList,e,gA a1,he⟩,rfl,q _ ss' (I.hok.fresh (Nat.le_succ _)) a2 a3⟩
theorem fV (hc:X.calm=true):cx X (.builtin "sorted") (fun xs H Q=>∃ (d:Addr)(ks:List Str)(kvs:List (Key×V)),xs=[.ref d]∧Rd H d (.dK kvs)∧kvs.map (·.1)=ks.map Sum.inr∧ks.length < 64∧∀ p ss',H p=none→ss'.Perm ks→sortedS ss'=true→Q (.ref p) (upd H p (.lst (ss'.map V.str)))):=by
 intro pins s σ H xs us Q I r h
 obtain⟨d,ks,kvs,rfl,hd,hk,hn,q⟩:=h
 obtain⟨u,rfl,ru⟩:=dq r
 cases ru
 obtain⟨z,lo,vs,rel,dd⟩:=jX I.hok hd
 obtain⟨ep,hat⟩:=dd.dictAt
 have hlv:vs.length=ks.length:=by
   have:=congrArg List.length hk
   rw[List.length_map,List.length_map] at this
   rw[←rel.length];exact this
 refine Calls.call_function_entry kind_sorted plain_sorted entry_sorted (args_sorted1 _) ?_
 unfold Builtin.«sorted»
 refine wpAny_bind (m:=checkCount "sorted" 1 1 _) (wpAny_pure ?_)
 refine wpAny_bind (PySem.W.kdu_collect (A:=X.A.in1) (PySem.W.kdl_dict (knd:=bJ X.prog X.w) (kvs:=vs) (ep:=ep) lo) (I.ok.hd hc) hat (by rw[hlv,sizeLine_eq];omega) fun h' tk acc kk hacc=>?_)
 have hal:acc.toList.length=ks.length:=by rw[Array.length_toList,hacc.1,hlv]
 have hst:StrsAre acc.toList ks:=by
   refine gc hal fun i v hv=>?_
   obtain⟨k,x,hx,his⟩:=hacc.2 i v (by rw[←Array.getElem?_toList];exact hv)
   have e1:(vs.map (·.1))[i]?=some k:=by rw[List.getElem?_map,hx];rfl
   rw[←rel.keys,hk,List.getElem?_map] at e1
   obtain⟨y,hy,e2⟩:=Option.map_eq_some_iff.mp e1
   subst e2
   rcases bH (show jp (Sum.inr y) v=true from his) with ⟨i',t,e,_⟩ | ⟨y',t,e,e'⟩
   · cases e
   · cases e;exact⟨y,t,hy,e'⟩
 refine wpAny_bind (wpAny_newList ?_ (by rw[hal,sizeLine_eq];omega))
 have hoL:(h'.push (seqObj "list" acc.toList.toArray 0)).get? h'.objs.size=some (seqObj "list" acc.toList.toArray 0):=Heap.get?_push_size _ rfl
 refine wpAny_bind (wpAny_holding (wpAny_call_entry slot_list_sort ⟨_,hoL,rfl⟩ entry_list_sort (list_sort_treeK strKind_oneLt hoL hst.keysOf (fun v1 v2 cf e=>keyKind_strs (by rw[←e];exact hst)) (by omega) fun st' a1 a2=>⟨_,rfl,?_⟩) (args_list_sort _)))
 obtain⟨ss',b1,b2,b3⟩:=sorted_out_str hst a1 a2
 have hp:=b2.length_eq
 have I1:Inv X pins σ H { s with heap:=h',toks:=tk }:=I.kept kk
 obtain⟨e,he⟩:=sortedHeap_at (out:=(arrOf st').map (·.2)) hoL
 refine wpAny_pure ⟨_,rfl,?_⟩
 refine⟨.ref h'.objs.size,_,I1.laid (o:=.lst (ss'.map V.str)) (t':=tk) (fun b o x=>?_) (Nat.le_refl _) ⟨by rw[List.length_map,sizeLine_eq];omega,_,e,gA b1,he⟩,rfl,q _ ss' (I1.hok.fresh (Nat.le_refl _)) b2 b3⟩
 have hlt:=Heap.lt_size x
 rw[sortedHeap_old (Nat.ne_of_lt hlt) (by rw[Heap.size_push];exact Nat.lt_succ_of_lt hlt)]
 exact Heap.get?_push_of_some _ x

/-! ### for k in d: the dict is known while it is walked -/
def Itd (d:Addr)(o:Obj)(kvs:List (Key×V)):It:=⟨fun i H=>H d=some (.frz o (.dK kvs))∧i < kvs.length,fun i H x H'=>H'=H∧∃ k v,kvs[i]?=some (k,v)∧x=kV k,fun i H=>H d=some (.frz o (.dK kvs))∧i=kvs.length⟩
theorem kr {X:Cx}{pins:List (Addr×Obj)}{σ:St}{H:Hp}{s:Shared}{d:Addr}{o:Obj}{kvs:List (Key×V)}(I:Inv X pins σ H s)(h:H d=some (.frz o (.dK kvs))) :
   ∃ vs ep,(∃ es,o.data=.dict es ep)∧s.heap.DictAt (bJ X.prog X.w) d vs ep∧KV kvs vs∧(d==sysModules)=false:=by
 obtain⟨e,z,lo,vs,rel,o',es,ep,ho,r1,r2,r3⟩:=(show bE X.prog X.w H s.heap d (.frz o (.dK kvs)) from I.hok d _ h)
 rw[e] at ho
 cases ho
 exact⟨vs,ep,⟨es,r2⟩,⟨o,es,e,r1,r2,r3⟩,rel,lo⟩
theorem xP {k:Key}{v:Value}(h:jp k v=true):a8 (kV k) v:=by
 rcases bH h with ⟨i,t,rfl,rfl⟩ | ⟨x,t,rfl,rfl⟩
 · exact⟨t,rfl⟩
 · exact⟨t,rfl⟩
theorem tf {P:Program}{w:World}{K:PySem.W.Frag}{tg:Expr}(d it:Addr)(o:Obj)(kvs:List (Key×V)) (ep:Nat)(hep:∃ es,o.data=.dict es ep)(hne:d≠it):mY P w K tg (Itd d o kvs) [it] it (fun i h=>h.IsKeyIter it d i kvs.length ep) where
 mem:=by simp
 obj:=fun i h st b hb=>by
   have e:b=it:=by simpa using hb
   subst e
   obtain⟨o,e,c,dd⟩:=st
   exact⟨o,e,fun v z=>by rw[dd] at z;cases z⟩
 keep:=fun i h h' st k=>st.at fun o e=>k it (by simp) o e
 item:=by
   intro X hP hw hK hc i pins s σ H E I hf st hg
   subst hP hw hK
   obtain⟨hd,hi⟩:=hg
   obtain⟨f0,f1,f2,f3,f4,f5⟩:=hf it (by simp)
   obtain⟨vs,ep',⟨es',h1⟩,hat,rel,lo⟩:=kr I hd
   obtain⟨es,h2⟩:=hep
   rw[h1] at h2
   cases h2
   have hl:=rel.length
   have st':s.heap.IsKeyIter it d i vs.length ep:=by rw[←hl];exact st
   refine(Walks.dictKeys (knd:=bJ X.prog X.w) (I.ok.hd hc) it d hne vs ep).item i s _ _ (by omega) ⟨st',hat⟩ fun v h' tk hv st2 kk=>?_
   have I1:Inv X pins σ H { s with heap:=h',toks:=tk }:=I.turned (fun b o hb e=>kk b o (by simpa using hb) e) f0 f1 f3 f4 f5
   obtain⟨k,x,hx,his⟩:=hv
   obtain⟨oi,ei,ci,di⟩:=id st2.1
   have ek:∃ v0,kvs[i]?=some (k,v0):=by
     have e1:(vs.map (·.1))[i]?=some k:=by rw[List.getElem?_map,hx];rfl
     rw[←rel.keys,List.getElem?_map] at e1
     obtain⟨p,hp,e2⟩:=Option.map_eq_some_iff.mp e1
     exact⟨p.2,by rw[hp,←e2]⟩
   obtain⟨v0,hv0⟩:=ek
   refine⟨_,rfl,oJ (s:={ s with heap:=h',toks:=tk }) ei ci di (by decide) ⟨kV k,H,I1,xP his,⟨rfl,k,v0,hv0,rfl⟩,?_,fun b hb=>(hf b hb).1⟩⟩
   rw[hl];exact st2.1
 done:=by
   intro X hP hw hK hc i pins s σ H E I hf st hg
   subst hP hw hK
   obtain⟨hd,rfl⟩:=hg
   obtain⟨f0,f1,f2,f3,f4,f5⟩:=hf it (by simp)
   obtain⟨vs,ep',⟨es',h1⟩,hat,rel,lo⟩:=kr I hd
   obtain⟨es,h2⟩:=hep
   rw[h1] at h2
   cases h2
   have hl:=rel.length
   have st':s.heap.IsKeyIter it d vs.length vs.length ep:=by rw[←hl];exact st
   exact(Walks.dictKeys (knd:=bJ X.prog X.w) (I.ok.hd hc) it d hne vs ep).done s _ _ ⟨st',hat⟩ fun h' tk kk=>⟨rfl,I.turned (fun b o hb e=>kk b o (by simpa using hb) e) f0 f1 f3 f4 f5⟩
 self:=fun _ _ _ _ _ st h=>wpAny_pyIter_keyiter st h
theorem Inv.freeze {pins:List (Addr×Obj)}{σ:St}{H:Hp}{s:Shared}{d:Addr}{kvs:List (Key×V)}(I:Inv X pins σ H s)(h:H d=some (.dK kvs)):∃ o,s.heap.get? d=some o∧Inv X pins σ (upd H d (.frz o (.dK kvs))) s:=by
 obtain⟨z,lo,vs,rel,o,es,ep,ho,r⟩:=(show bE X.prog X.w H s.heap d (.dK kvs) from I.hok d _ h)
 refine⟨o,ho,?_⟩
 have:=I.write (x:=d) (e:=d) (o:=.frz o (.dK kvs)) (h':=s.heap) (t':=s.toks) (by rw[h];exact True.intro) (.inl rfl) (fun b u _ e=>e) ⟨o,ho⟩ ⟨ho,z,lo,vs,rel,o,es,ep,ho,r⟩
 exact this
def wO (td:TE):TI:=fun σ H R=>td σ H fun x H1=>∃ d kvs,x=.ref d∧((H1 d=some (.dK kvs)∧∀ o,R (Itd d o kvs) (upd H1 d (.frz o (.dK kvs))))∨∃ o,H1 d=some (.frz o (.dK kvs))∧R (Itd d o kvs) H1)
theorem rJ {tg l:Expr}{tl:TE}(hl:PE X l tl):PI X tg l (wO tl):=by
 intro pins s σ H R I h
 refine thn (hl s σ H _ I h) fun v s1 ⟨x,H1,I1,r1,d,kvs,e,q1⟩=>?_
 subst e
 cases r1
 have main:∀ (H2:Hp)(o:Obj),Inv X pins σ H2 s1→H2 d=some (.frz o (.dK kvs))→R (Itd d o kvs) H2→wpAny (model X.prog X.w) X.A (pyIter (.ref d)) (PIE X pins σ tg R) X.xe s1:=fun H2 o I2 hd q=>by
   obtain⟨vs,ep,hep,hat,rel,lo⟩:=kr I2 hd
   refine wpAny_pyIter_dict lo hat ?_
   have hlt:d < s1.heap.objs.size:=I2.hok.lt hd
   have hl:=rel.length
   refine⟨s1.heap.objs.size,[s1.heap.objs.size],_,_,H2,rfl,I2.kept (t':=s1.toks) fun b o e=>Heap.get?_push_of_some _ e,tf d _ o kvs ep hep (Nat.ne_of_lt hlt),⟨_,Heap.get?_push_size _ rfl,rfl,by rw[←hl];rfl⟩,fun b hb=>?_,q⟩
   have e:b=s1.heap.objs.size:=by simpa using hb
   subst e
   exact I2.fpOk (Nat.le_refl _) (I2.hok.fresh (Nat.le_refl _))
 rcases q1 with ⟨hd,q⟩ | ⟨o,hd,q⟩
 · obtain⟨o,ho,I2⟩:=I1.freeze hd
   exact main _ o I2 ac (q o)
 · exact main _ o I1 hd q
theorem ji {H1:Hp}{d:Addr}{o:Obj}{kvs:List (Key×V)}(h:H1 d=some (.frz o (.dK kvs))):dM (Itd d o kvs) H1 kvs.length (fun i x=>∃ k v,kvs[i]?=some (k,v)∧x=kV k) :=
 ⟨fun i H' hi s=>⟨s _ _ h,hi⟩,fun i H' x H2 hi s y=>y,fun H' s=>⟨s _ _ h,rfl⟩⟩
/-! ### range objects,list(range(n)) -/
theorem jn:cx X (.type "range") (fun xs H Q=>∃ j:Int,xs=[.int j]∧∀ p,H p=none→Q (.ref p) (upd H p (.rng 0 j))):=by
 intro pins s σ H xs us Q I r h
 obtain⟨j,rfl,q⟩:=h
 obtain⟨u,rfl,t,rfl⟩:=dq r
 refine call_range_1 ?_
 refine⟨.ref s.heap.objs.size,_,I.laid (o:=.rng 0 j) (fun b u e=>Heap.get?_push_of_some _ e) (Nat.le_refl _) ⟨_,_,_,Heap.get?_push_size _ rfl⟩,rfl,q _ (I.hok.fresh (Nat.le_refl _))⟩
theorem kC (hc:X.calm=true):cx X (.type "list") (fun xs H Q=>∃ (p:Addr) (n:Nat),xs=[.ref p]∧H p=some (.rng 0 n)∧n≤1000∧∀ l,H l=none→Q (.ref l) (upd H l (.lst ((List.range n).map fun i:Nat=>V.int i)))):=by
 intro pins s σ H xs us Q I r h
 obtain⟨p,n,rfl,hp,hn,q⟩:=h
 obtain⟨u,rfl,ru⟩:=dq r
 cases ru
 obtain⟨t,u,v,e⟩:=(show bE X.prog X.w H s.heap p (.rng 0 n) from I.hok p _ hp)
 have hrs:Builtin.Range.rangeSize 0 (n:Int) 1=n:=by rw[rangeSize_one];split<;>omega
 refine call_list_range (n:=n) (I.ok.hd hc) e (small_one (by omega) (by omega) (by omega) (by omega)) hrs (by omega) fun h' tk acc c' kk hS hI=>?_
 have hal:acc.toList.length=n:=by rw[Array.length_toList];exact hI.1
 have hv:Vals ((List.range n).map fun i:Nat=>V.int i) acc.toList:=by
   refine oA (by rw[List.length_map,List.length_range,hal]) fun i u hu=>?_
   obtain⟨t,e⟩:=hI.2 i u (by rw[←Array.getElem?_toList];exact hu)
   have hi:i < n:=by rw[←hal];exact(List.getElem?_eq_some_iff.mp hu).1
   refine⟨V.int i,by rw[List.getElem?_map,List.getElem?_range hi];rfl,t,?_⟩
   rw[e];congr 1;omega
 exact⟨.ref s.heap.objs.size,_,I.laid (o:=.lst _) kk (Nat.le_refl _) ⟨by rw[List.length_map,List.length_range,sizeLine_eq];omega,acc.toList,c',hv,by simpa using hS⟩,rfl,q _ (I.hok.fresh (Nat.le_refl _))⟩
end
end L2

set_option Elab.async false
set_option linter.all false
set_option maxRecDepth 100000
set_option maxHeartbeats 8000000
namespace L2
open PySem PySem.Spec PyProof.Rows
/-! ### slices of texts -/
section
variable {X:Cx}
def yq:V→Option Int→Option Int→Hp→VK→Prop:=fun x lo hi H Q=>∃ z,x=.str z∧z.length≤sizeLine∧Q (.str (Txt.slice z lo hi)) H
theorem pV:SlR X yq:=by
 intro pins s σ H x v vl vu lo hi sl Q I rx hs pl pu h
 obtain⟨z,rfl,hz,q⟩:=h
 obtain⟨t,rfl⟩:=rx
 refine⟨"str",_,slot_str_getitem.lookup,typeIs_str s z t,?_⟩
 obtain⟨l,hl1,hl2⟩:∃ l:Option (Int×Tok),vl=partValue l∧l.map (·.1)=lo:=by
   cases pl with
   | none=>exact⟨none,rfl,rfl⟩
   | int i t=>exact⟨some (i,t),rfl,rfl⟩
 obtain⟨u,hu1,hu2⟩:∃ u:Option (Int×Tok),vu=partValue u∧u.map (·.1)=hi:=by
   cases pu with
   | none=>exact⟨none,rfl,rfl⟩
   | int i t=>exact⟨some (i,t),rfl,rfl⟩
 subst hl1 hu1 hl2 hu2
 refine wpAny_getItem_str_slice (l:=l) (u:=u) (st:=none) hs rfl ?_
 have key:∀ P:Prop,True:=fun _=>trivial
 unfold sliceMade
 have e:Txt.slice z (l.map (·.1)) (u.map (·.1))=if(((none:Option (Int×Tok)).map (·.1)).getD 1==1&&(slicePicked z l u none).length==z.length)=true then z else⟨((slicePicked z l u none).filterMap (z.cps[·]?)).toArray⟩:=rfl
 by_cases hc:(((none:Option (Int×Tok)).map (·.1)).getD 1==1&&(slicePicked z l u none).length==z.length)=true
 · rw[if_pos hc] at e ⊢
   rw[e] at q
   exact⟨.str z,H,I,⟨t,rfl⟩,q⟩
 · rw[if_neg hc] at e ⊢
   have hle:=Txt.slice_le z (l.map (·.1)) (u.map (·.1))
   rw[e] at q hle
   exact⟨Nat.le_trans hle hz,⟨.str _,H,I.tok _,⟨_,rfl⟩,q⟩⟩
theorem uj (hc:X.calm=true):MtR X "str.index" (fun x vs H Q=>∃ z y,x=.str z∧vs=[.str y]∧0≤Txt.find z y∧Q (.int (Txt.find z y)) H):=by
 intro pins s σ H x xs v us Q I rx rs h
 obtain⟨z,y,rfl,rfl,h0,q⟩:=h
 obtain⟨t,rfl⟩:=rx
 obtain⟨u,rfl,ru⟩:=rs.one
 obtain⟨t',rfl⟩:=ru
 refine index_or (I.ok.hd hc) (fun e _=>by omega) fun _ _=>⟨.int _,H,I.tok _,⟨_,rfl⟩,q⟩
end
end L2

set_option Elab.async false
set_option linter.all false
set_option maxRecDepth 100000
set_option maxHeartbeats 8000000
namespace L2
open PySem PySem.Spec PyProof.Rows
theorem wU {X:Cx}{c0 c1 c2 c3 c4 c5 c6 c7:Int} {j0 j1 j2 j3 j4 j5 j6 j7}{p0 p1 p2 p3 p4 p5 p6 p7:Pos}:PA X [.Constant (.int c0) j0 p0,.Constant (.int c1) j1 p1,.Constant (.int c2) j2 p2,.Constant (.int c3) j3 p3,.Constant (.int c4) j4 p4,.Constant (.int c5) j5 p5,.Constant (.int c6) j6 p6,.Constant (.int c7) j7 p7] (cV (tC (.int c0)) (cV (tC (.int c1)) (cV (tC (.int c2)) (cV (tC (.int c3)) (cV (tC (.int c4)) (cV (tC (.int c5)) (cV (tC (.int c6)) (cV (tC (.int c7)) pD)))))))):=(aa ah (aa ah (aa ah (aa ah (aa ah (aa ah (aa ah (aa ah ad))))))))
theorem yH {X:Cx}{c0 c1 c2 c3 c4 c5 c6 c7:Str} {j0 j1 j2 j3 j4 j5 j6 j7}{p0 p1 p2 p3 p4 p5 p6 p7:Pos}:PA X [.Constant (.str c0) j0 p0,.Constant (.str c1) j1 p1,.Constant (.str c2) j2 p2,.Constant (.str c3) j3 p3,.Constant (.str c4) j4 p4,.Constant (.str c5) j5 p5,.Constant (.str c6) j6 p6,.Constant (.str c7) j7 p7] (cV (tC (.str c0)) (cV (tC (.str c1)) (cV (tC (.str c2)) (cV (tC (.str c3)) (cV (tC (.str c4)) (cV (tC (.str c5)) (cV (tC (.str c6)) (cV (tC (.str c7)) pD)))))))):=(aa ba (aa ba (aa ba (aa ba (aa ba (aa ba (aa ba (aa ba ad))))))))
end L2

set_option Elab.async false
set_option linter.all false
set_option maxRecDepth 100000
set_option maxHeartbeats 4000000
namespace L2
open PySem PySem.Spec PyProof.Rows
end L2

set_option Elab.async false
set_option linter.all false
set_option maxRecDepth 100000
set_option maxHeartbeats 4000000
namespace L2
open PySem PySem.Spec PyProof.Rows

def CX1 (P:Program)(w:World):CXT:=fun outer H s E ev s'=>∃ (e:Addr) (cls a0:Value)(H':Hp)(B:Heap),ev=.ref e∧s'.os=s.os∧AllBare s'.gens∧Un (frs outer) [] H H' s.heap s'.heap∧HOk P w H' s'.heap∧Heap.FlyingW B outer e cls a0 s'.heap ∧
 (∀ b o,s.heap.get? b=some o→b∉frs outer→∃ o',B.get? b=some o'∧(H b=none→o'=o))∧(∀ b u,H' b=some u→∀ o,s'.heap.get? b=some o→B.get? b=some o)∧E cls none H'
theorem HOk.by {P:Program}{w:World}{H:Hp}{h h':Heap}(x:HOk P w H h)(k:∀ b u,H b=some u→∀ o,h.get? b=some o→h'.get? b=some o):HOk P w H h':=fun a o e =>
 (x a o e).stay (fun b u hb q=>by
   rcases hb with rfl | hb
   · exact k b o e u q
   · exact k b _ hb u q) (fun _ q=>q) fun _ _ q=>q
theorem HOk.has {P:Program}{w:World}{H:Hp}{h:Heap}(x:HOk P w H h){a:Addr}{o:HO}(e:H a=some o):∃ ob,h.get? a=some ob:=by
 have y:=x a o e
 clear e
 induction o with
 | lst xs=>obtain⟨_,_,_,_,e⟩:=y;exact⟨_,e⟩
 | tup xs=>obtain⟨_,_,_,o,e,_⟩:=y;exact⟨_,e⟩
 | dK kvs=>obtain⟨_,_,_,_,o,_,_,e,_⟩:=y;exact⟨_,e⟩
 | dT kvs=>obtain⟨_,_,_,_,o,_,_,e,_⟩:=y;exact⟨_,e⟩
 | set S n=>obtain⟨o,_,_,_,e,_⟩:=y;exact⟨_,e⟩
 | ins C dx fs=>obtain⟨_,_,_,e,_⟩:=y;exact⟨_,e⟩
 | own z=>obtain⟨_,e⟩:=y;exact⟨_,e⟩
 | xd fs=>obtain⟨_,⟨_,_,_,e,_⟩,_⟩:=y;exact⟨_,e⟩
 | rng lo hi=>obtain⟨_,_,_,e⟩:=y;exact⟨_,e⟩
 | frz ob u ih=>obtain⟨e,_⟩:=y;exact⟨_,e⟩
 | tbl ps=>exact⟨_,y⟩
 | met f z=>exact⟨_,y⟩
 | ext φ=>obtain⟨_,⟨o,e⟩,_⟩:=y;exact⟨o,e⟩

section
variable {X:Cx}{pins:List (Addr×Obj)}{σ:St}{H:Hp}{s:Shared}{h' B:Heap}{e:Addr}{cls a0:Value}{E:XK}
theorem tW (I:Inv X pins σ H s)(hex:X.ex=[])(fl:Heap.FlyingW B X.outer e cls a0 h')(up:s.heap.UpToSlots h')
   (k1:∀ b o,X.s₀.heap.get? b=some o→b∉X.fs→∃ o',B.get? b=some o'∧(X.H₀ b=none→o'=o))(k2:∀ b u,H b=some u→∀ o,s.heap.get? b=some o→B.get? b=some o)(q:E cls none H) :
   CX1 X.prog X.w X.outer X.H₀ X.s₀ E (.ref e) { s with heap:=h' }:=by
 have nox:∀ b:Addr,b∉X.ex:=fun b=>by rw[hex];simp
 have k2':∀ b u,H b=some u→∀ o,s.heap.get? b=some o→h'.get? b=some o:=fun b u hb o ho=>fl.1 b o (k2 b u hb o ho)
 refine⟨e,cls,a0,H,B,rfl,I.os,I.bare,⟨fun b o ho hn hf _=>?_,fun b o ho hn hf _=>?_,fun b o ho hn _=>I.base.free b o ho hn (nox b),fun b o ho _=>?_,I.base.tups,I.base.frzs,I.base.tbls⟩,I.hok.by k2',fl,k1,fun b u hb o ho=>?_,q⟩
 · obtain⟨o',e1,e2⟩:=k1 b o ho hf
   rw[e2 hn] at e1
   exact fl.1 b o e1
 · obtain⟨sl,e1⟩:=I.base.slot b o ho hn hf (nox b)
   obtain⟨_,oo,e2,e3⟩:=I.ok.funs.mem hf
   rw[ho] at e2
   cases e2
   obtain⟨sl2,e4⟩:=up b _ e1 e3
   exact⟨sl2,e4⟩
 · by_cases hf:b∈X.fs
   · obtain⟨_,oo,e2,e3⟩:=I.ok.funs.mem hf
     rw[ho] at e2
     cases e2
     have hn:=I.ok.frf b hf
     obtain⟨sl,e1⟩:=I.base.slot b o ho hn hf (nox b)
     obtain⟨sl2,e4⟩:=up b _ e1 e3
     exact⟨_,e4⟩
   · obtain⟨o',e1,_⟩:=k1 b o ho hf
     exact⟨o',fl.1 b o' e1⟩
 · obtain⟨ob,hob⟩:=I.hok.has hb
   have e1:=k2 b u hb ob hob
   have e2:=fl.1 b ob e1
   have ho':h'.get? b=some o:=ho
   rw[e2] at ho'
   cases ho'
   exact e1
end
theorem eN {P:Program}{w:World}{K:PySem.W.Frag}{mg:Str→Option Value}{base:Heap}{N:List Str}{qual:Str}{scope:Scope}{f:Addr}{cd:Value}{A:Around}{outer:List Env}{s0:Shared}{H0:Hp}{E:XK} :
   fQ (CX1 P w) (cr (CX1 P w) P w K mg base N qual scope f cd A outer s0 H0 E) E:=by
 rintro pins σ H s ev s' I ⟨e,cls,a0,H',B,rfl,hos,hba,hun,hok,hfl,k1,k2,q⟩
 have I':=I.call' (s':=s') (ch:=[]) hos hun hok hba (fun b z=>absurd z (by simp))
 show wpAny (model P w) (A.deeper (envOfC qual scope s0.heap.objs.size f cd)) (leaving (envOfC qual scope s0.heap.objs.size f cd) (.ref e)) _ _ s'
 refine wpAny_leaves_onW (L:=s0.heap.objs.size) I.ok.frames rfl hfl fun h' fl up=>?_
 refine tW I' rfl fl up (fun b o ho hf=>?_) k2 q
 have hbl:b < s0.heap.objs.size:=Heap.lt_size ho
 obtain⟨o1,ho1⟩:=I.base.there b o ho (by simp[cr])
 have hns:b∉frs (envOfC qual scope s0.heap.objs.size f cd::outer):=fun z=>by
   rcases List.mem_cons.mp (I.stkSub b z) with e1 | e1
   · have e2:b=s0.heap.objs.size:=e1
     rw[e2] at hbl
     exact absurd hbl (Nat.lt_irrefl _)
   · exact hf e1
 obtain⟨o',e1,e2⟩:=k1 b o1 ho1 hns
 refine⟨o',e1,fun hn=>?_⟩
 have hn':H b=none:=I.base.free b o ho hn (by simp[cr])
 have:=I.base.keep b o ho hn hf (by simp[cr])
 rw[ho1] at this
 cases this
 exact e2 hn'
theorem xE {P:Program}{w:World}{K:PySem.W.Frag}{mg:Str→Option Value}{base:Heap}{N:List Str}{qual:Str}{scope:Scope}{f:Addr}{cd:Value}{A:Around}{outer:List Env}{s0:Shared}{H0:Hp}{E:XK}
   {pins:List (Addr×Obj)}{σ:St}{H:Hp}{s:Shared}{h1:Heap}{e:Addr}{cls:Value}{args:List Value}(I:Inv (cr (CX1 P w) P w K mg base N qual scope f cd A outer s0 H0 E) pins σ H s)(hx:Heap.MadeExcOf s.heap h1 e cls args)(q:E cls none H) :
   (cr (CX1 P w) P w K mg base N qual scope f cd A outer s0 H0 E).xe (.ref e) { s with heap:=h1 }:=by
 have I':=I.kept (t':=s.toks) hx.keeps
 have hfrs:=I.stack
 show wpAny (model P w) (A.deeper (envOfC qual scope s0.heap.objs.size f cd)) (leaving (envOfC qual scope s0.heap.objs.size f cd) (.ref e)) _ _ { s with heap:=h1 }
 have hin:∀ env∈(envOfC qual scope s0.heap.objs.size f cd::outer),∀ b,env.frame=some b→b∈frs (envOfC qual scope s0.heap.objs.size f cd::outer):=fun env he b hb=>List.mem_filterMap.mpr ⟨env,he,hb⟩
 refine wpAny_leaves_madeW (base:=PySem.W.hideAll s.heap (frs (envOfC qual scope s0.heap.objs.size f cd::outer))) (h:=s.heap) (L:=s0.heap.objs.size) I.ok.frames rfl (fun b o q=>PySem.W.of_hideAll _ q) (PySem.W.funFrames_hide hfrs hin) hx fun h' t fl _ _ up=>?_
 refine tW I' rfl fl up (fun b o ho hf=>?_) (fun b u hb o ho=>?_) q
 · have hbl:b < s0.heap.objs.size:=Heap.lt_size ho
   obtain⟨o1,ho1⟩:=I.base.there b o ho (by simp[cr])
   have hns:b∉frs (envOfC qual scope s0.heap.objs.size f cd::outer):=fun z=>by
     rcases List.mem_cons.mp (I.stkSub b z) with e1 | e1
     · have e2:b=s0.heap.objs.size:=e1
       rw[e2] at hbl
       exact absurd hbl (Nat.lt_irrefl _)
     · exact hf e1
   refine⟨o1,PySem.W.hideAll_get _ ho1 hns,fun hn=>?_⟩
   have:=I.base.keep b o ho hn hf (by simp[cr])
   rw[ho1] at this
   exact Option.some.inj this
 · obtain⟨ob,hob⟩:=I.hok.has hb
   have e1:h1.get? b=some ob:=hx.keeps b ob hob
   have e2:h1.get? b=some o:=ho
   rw[e1] at e2
   cases e2
   refine PySem.W.hideAll_get _ hob fun z=>?_
   have:=I.stkFree b z
   rw[hb] at this
   cases this
section
variable {P:Program}{w:World}{K:PySem.W.Frag}{mg:Str→Option Value}{base:Heap}
theorem Fun.okX {x qual:Str}{st:Stmt}{f:Addr}{fd:FuncData}{N ps:List Str}{k:Nat}{sp:Sp}(F:Fun K x qual st f fd)(S:au N ps (ae st))(len:∀ vs H Q E,sp vs H Q E→vs.length=ps.length)
   (hbody:∀ (cdv:Value)(A:Around)(outer:List Env)(s:Shared)(H:Hp)(vs:List V)(Q:VK)(E:XK),dN k (A.deeper (envOfC qual (ae st) s.heap.objs.size f cdv))→sp vs H Q E →
     ∃ t,PSs (cr (CX1 P w) P w K mg base N qual (ae st) f cdv A outer s H E) (ap st) t∧t { nx:=fun _ H'=>Q .non H',rt:=Q } (start N vs) H):aw P w K mg base (CX1 P w) (k+1) f fd ps sp:=by
 obtain⟨oc,od,kV,doc,pm,an,cdv,ct,osl,rfl,lk,hcd⟩:=F.ex
 exact wX lk hcd S len fun A outer s H vs Q E hr hsp=>hbody cdv A outer s H vs Q E hr hsp
end
end L2

set_option Elab.async false
set_option linter.all false
set_option maxRecDepth 100000
set_option maxHeartbeats 4000000
namespace L2
open PySem PySem.Spec PyProof.Rows

theorem vB {K:PySem.W.Frag}{h:Heap}{C:Addr}{bmB:List Value}{newId:String}(X:K.In h)(q:PySem.W.excIn K C bmB newId=true) :
   ∃ bm N nm qn bs hdct sn sub ab col dd k0 k1 k2 k3 k5 mN,h.get? C=some (excClassObj nm qn C N bs bm hdct sn sub ab col dd k0 k1 k2 k3 k5 newId)∧h.Ns N mN∧mN "__init__"=none∧OwnTail h bmB bm:=by
 simp only[PySem.W.excIn] at q
 split at q
 case h_2=>cases q
 case h_1 c0 sl0 lk0 =>
   split at q
   case h_2=>cases q
   case h_1 Cc tl z0 z1 z2 z3 nn z5 hmro hslo =>
     rename_i dd0
     rw[Bool.and_eq_true,Bool.and_eq_true,Bool.and_eq_true,Bool.and_eq_true,Bool.and_eq_true] at q
     obtain⟨⟨⟨⟨⟨q1,q2⟩,q3⟩,q4⟩,q5⟩,q6⟩:=q
     obtain rfl:=beq_iff_eq.mp q1
     obtain rfl:=beq_iff_eq.mp q2
     have q3':c0.hasDel=false:=by simpa using q3
     have q6':=beq_iff_eq.mp q6
     obtain⟨c1,c2,c3,c4,c5,c6,c7,c8,c9,c10,c11⟩:=c0
     dsimp only at hmro q3' q5 q6'
     subst hmro
     subst q3'
     have hsl:sl0=#[z0,z1,z2,z3,some (.builtin nn),z5]:=by
       cases sl0
       simp only at hslo
       rw[hslo]
     subst hsl
     exact⟨tl,_,_,_,_,_,_,_,_,_,_,_,_,_,_,_,_,X _ _ lk0,.of_isNs (PySem.W.isNs_of_in X q5),PySem.W.nsMap_none_of_in X q5 q6',PySem.W.tail_of_in X q4⟩

def vq (C:Addr)(E:XK)(ta:TA):TS:=fun D σ H=>ta σ H fun vs H1=>vs.length≤1000∧E (.ref C) none H1
def yr (X:Cx)(E:XK):Prop:=∀ (pins:List (Addr×Obj)) (σ:St)(H:Hp)(s:Shared)(h1:Heap)(e:Addr) (cls:Value)(args:List Value),Inv X pins σ H s→Heap.MadeExcOf s.heap h1 e cls args→E cls none H→X.xe (.ref e) { s with heap:=h1 }
theorem il {P:Program}{w:World}{K:PySem.W.Frag}{mg:Str→Option Value}{base:Heap}{N:List Str}{qual:Str}{scope:Scope}{f:Addr}{cd:Value}{A:Around}{outer:List Env}{s0:Shared}{H0:Hp}{E:XK} :
 yr (cr (CX1 P w) P w K mg base N qual scope f cd A outer s0 H0 E) E:=fun pins σ H s h1 e cls args I hx q=>xE I hx q
theorem cY {X:Cx}{x:Str}{C:Addr}{a1:Expr}{ta:TA}{E:XK}{bmB:List Value}{B newId initId:String}{np cpos pos:Pos}(hc:X.calm=true)(hg:Gl X x)(hm:X.mg x=some (.ref C))(he:PySem.W.excIn X.K C bmB newId=true)(FB:ExcBaseFacts B newId initId bmB)
   (ha:PA X [a1] ta)(hR:yr X E)(hs:starEach [a1] X.env=[(false,eval a1 X.env)]:=by rfl)(hd:(x==("__debug__":Str))=false:=by decide) :
   PS X (.Raise (some (.Call (.Name x np) [a1] [] cpos)) none pos) (vq C E ta):=by
 intro pins s σ H D I h
 obtain⟨tl,N,nm,q,bs,hdct,sn,sub,ab,col,dd,k0,k1,k2,k3,k5,mN,hC,hN,hni,T⟩:=vB I.mod.kin he
 refine wpAny_Raise_call_subT (C:=C) (nm:=nm) (q:=q) (N:=N) (bs:=bs) (bm:=tl) (hdct:=hdct) (sn:=sn) (sub:=sub) (ab:=ab) (col:=col) (dd:=dd) (k0:=k0) (k1:=k1) (k2:=k2) (k3:=k3) (k5:=k5) FB (mN:=mN) (T.hasType FB.hasBase) (I.ok.hd hc) (by rw[hs];rfl) hni (jL I hg hm ⟨rfl,?_⟩ hd)
 have h2:=ha cpos s σ H _ I h
 rw[hs] at h2 ⊢
 refine Calls.evalArgs_plain (wpAny_mono h2 (fun us s2 h3=>?_) fun _ _ y=>y)
 obtain⟨vs,H1,I1,rv,hl,q1⟩:=h3
 refine⟨rfl,?_,I1.bk _ _ hC,hN.keeps I1.bk,T.keeps I1.bk,fun h' e hx=>hR pins σ H1 s2 h' e _ _ I1 hx q1⟩
 show us.length≤sizeLine
 rw[←rv.length,sizeLine_eq]
 omega
theorem im {X:Cx}{x:Str}{j:Nat}{value:Expr}{tv:TE}{p1 p2 pos:Pos}(hv:PE X value tv)(hx:x.length≤1000:=by decide)(hev:evalEach [.Constant (.str x) j p1,.FormattedValue value 114 none p2] X.env=[eval (.Constant (.str x) j p1) X.env,eval (.FormattedValue value 114 none p2) X.env]:=by rfl) :
   PE X (.JoinedStr [.Constant (.str x) j p1,.FormattedValue value 114 none p2] pos) (fun σ H Q=>tv σ H fun v H1=>∃ z:Str,v=.str z∧z.length≤1000∧(∀ c∈z.cps.toList,c < 1114112)∧∀ y,Q (.str y) H1):=by
 intro pins s σ H Q I h
 refine wpAny_JoinedStr ?_
 rw[hev]
 have hS:(1000000:Nat)≤sizeLine:=by rw[sizeLine_eq];decide
 refine Calls.Constant_str ⟨x,_,rfl,?_,?_⟩
 · have:(Str.empty++x).length=x.length:=by rw[PySem.Str.length_append];simp[Str.empty,PySem.Str.length]
   rw[this];omega
 refine wpAny_FormattedValue_repr (thn (hv _ σ H _ (I.tok _) h) fun u s1 h1=>?_)
 obtain⟨v,H1,I1,rv,z,rfl,hz,hzc,q⟩:=h1
 obtain⟨t,rfl⟩:=(show ∃ t,u=Value.str z t from rv)
 have hl:(reprText z).length≤10*z.length+2:=StrLaws.reprText_len z (fun c hc=>Nat.lt_of_lt_of_le (hzc c hc) (by decide))
 have e0:(Str.empty++x).length=x.length:=by rw[PySem.Str.length_append];simp[Str.empty,PySem.Str.length]
 refine pyReprObj_str ?_ (by omega)
 have fin:∀ s2 t2,Inv X pins σ H1 s2→∃ y t,(Value.str (reprText z) t2)=.str y t∧(Str.empty++x++y).length≤sizeLine∧Joins (model X.prog X.w) X.A X.xe [] (Str.empty++x++y) (fun out s₁=>out.length≤sizeLine∧EP X pins σ Q (.str out s₁.toks) { s₁ with toks:=s₁.toks+1 }) s2:=fun s2 t2 I2=>by
   have hlen:(Str.empty++x++reprText z).length≤sizeLine:=by rw[PySem.Str.length_append,e0];omega
   exact⟨_,_,rfl,hlen,hlen,.str (Str.empty++x++reprText z),H1,I2.tok _,⟨_,rfl⟩,q _⟩
 exact wpAny_formatField_str (fin _ _ (I1.tok _)) (fin _ _ ((I1.tok _).tok _)) (by omega)
end L2

set_option Elab.async false
set_option linter.all false
set_option maxRecDepth 100000
set_option maxHeartbeats 4000000
namespace L2
open PySem PySem.Spec PyProof.Rows PySem.W Builtin.Getset_descriptor
section
variable {pg:Program}{wd:World}{Ar:Around}{Er:Value→Shared→Prop}{sh:Shared}{KK:Frag}{e C:Addr}
end
structure gd (K:Frag)(C:Addr):Prop where
 exc:excIn K C [.type "ValueError",.type "Exception",.type "BaseException",.type "object"] "ValueError.__new__"=true
 ga:findIn K (.ref C) "__getattribute__"=some (some (.builtin "BaseException.__getattribute__"))
 gt:findIn K (.ref C) "__getattr__"=some none
 cl:(clsIn K C).isSome=true
 ha:findIn K (.ref C) "__class__"=some (some (.builtin "object.__class__"))
 hn:specialIn K (.builtin "object.__class__") "__get__"=some (some (.builtin "getset_descriptor.__get__"))
 ht:takesIn K (.builtin "object.__class__")=some true
 hm:mroIn K C (.type "object")=some true
 hb:mroIn K C (.type "BaseException")=some true
end L2

set_option Elab.async false
set_option linter.all false
set_option maxRecDepth 100000
set_option maxHeartbeats 4000000
namespace L2
open PySem PySem.Spec PyProof.Rows PySem.W

abbrev Cx.bear (X:Cx)(pn:List (Addr×Obj))(W:Value→Shared→Prop):Cx:={ X with pn:=pn,xe:=W }
section
variable {X:Cx}{pins pins':List (Addr×Obj)}{σ:St}{H H':Hp}{s s':Shared}{W:Value→Shared→Prop}
theorem Inv.toBear (I:Inv X pins σ H s)(W:Value→Shared→Prop):Inv (X.bear (X.pn++pins) W) [] σ H s :=
 ⟨⟨I.ok.mod,I.ok.kind,I.ok.glob,I.ok.blt,I.ok.above,I.ok.inj,I.ok.has,I.ok.cab,I.ok.hd,I.ok.frames,I.ok.stk,I.ok.exf,I.ok.bs,I.ok.bsz,I.ok.noex,I.ok.exfs,I.ok.funs,I.ok.frf⟩,I.os,I.bare,I.base,I.loc,I.cell,I.free,I.freeC,fun p hp=>I.pin p (by rw[List.append_nil] at hp;exact hp),I.hok,I.len⟩
theorem Inv.ofBear (I:Inv (X.bear (X.pn++pins) W) pins' σ H s):Inv X pins σ H s :=
 ⟨⟨I.ok.mod,I.ok.kind,I.ok.glob,I.ok.blt,I.ok.above,I.ok.inj,I.ok.has,I.ok.cab,I.ok.hd,I.ok.frames,I.ok.stk,I.ok.exf,I.ok.bs,I.ok.bsz,I.ok.noex,I.ok.exfs,I.ok.funs,I.ok.frf⟩,I.os,I.bare,I.base,I.loc,I.cell,I.free,I.freeC,fun p hp=>I.pin p (List.mem_append_left _ hp),I.hok,I.len⟩
theorem SP.ofBear {D:iY}{f:Flow}(h:SP (X.bear (X.pn++pins) W) pins' D f s'):SP X pins D f s':=by
 cases f with
 | next=>obtain⟨σ',H',I,q⟩:=h;exact⟨σ',H',I.ofBear,q⟩
 | brk=>obtain⟨σ',H',I,q⟩:=h;exact⟨σ',H',I.ofBear,q⟩
 | cont=>obtain⟨σ',H',I,q⟩:=h;exact⟨σ',H',I.ofBear,q⟩
 | ret u=>obtain⟨v,σ',H',I,r,q⟩:=h;exact⟨v,σ',H',I.ofBear,r,q⟩
end
end L2

set_option Elab.async false
set_option linter.all false
set_option maxRecDepth 100000
set_option maxHeartbeats 4000000
namespace L2
open PySem PySem.Spec PyProof.Rows PySem.W

end L2

set_option Elab.async false
set_option linter.all false
set_option maxRecDepth 100000
set_option maxHeartbeats 4000000
namespace L2
open PySem PySem.Spec PyProof.Rows

/-! ### [elt for tg in iter if cnd] -/
theorem oH {prog:Program}{w:World}{A:Around}{R:Result→Shared→Prop}{s:Shared}{elt target iter cnd:Expr}{scope:Scope}{pos:Pos}{it acc:Value}{env:Env}(I:Nat→Shared→Prop)
   (turn:∀ n s,I n s→∀ E:Value→Shared→Prop,wpAny (model prog w) A (pyNext it) (fun r s₁=>match r with
     | none=>R (.ok .next) s₁
     | some v=>wpAny (model prog w) A (letOwnedTupleGo target it v) (fun _ s₁'=>wpAny (model prog w) A (assign target env v) (fun _ s₂=>wpAny (model prog w) A (isTrue cnd env (eval cnd env)) (fun ok s₂' =>
       if ok=true then wpAny (model prog w) A (eval elt env) (fun x s₃=>wpAny (model prog w) A (call (.builtin "list.append") [acc,x]) (fun _ s₄=>∃ m,m < n∧I m s₄) E s₃) E s₂' else ∃ m,m < n∧I m s₂') E s₂) E s₁') E s₁) E s)
   (n:Nat)(h:I n s) :
   codeAny (model prog w) A (.compLoop (.ListComp elt [⟨target,iter,[cnd],0⟩] scope pos) 0 it acc env) R s:=by
 refine codeAny_loop rfl I (fun n s hI=>?_) n h
 show wpAny _ _ ((compTurn (.ListComp elt [⟨target,iter,[cnd],0⟩] scope pos) 0 it acc env).onRaise _) _ _ s
 refine wpAny_noted ?_
 rw[compTurn_list]
 refine wpAny_bind (wpAny_standAt (wpAny_bind (wpAny_mono (turn n s hI _) (fun r s₁ h₁=>?_) fun _ _ h'=>h')))
 cases r with
 | none=>exact wpAny_pure h₁
 | some v =>
   refine wpAny_bind (wpAny_mono h₁ (fun _ s₁' h₁=>?_) fun _ _ h'=>h')
   refine wpAny_bind (wpAny_mono h₁ (fun _ s₂ h₂=>?_) fun _ _ h'=>h')
   refine wpAny_bind (wpAny_tests_one (wpAny_mono h₂ (fun ok s₃ h₃=>?_) fun _ _ h'=>h'))
   cases ok with
   | false=>exact wpAny_pure ⟨rfl,h₃⟩
   | true =>
     rw[if_pos rfl] at h₃ ⊢
     exact wpAny_bind (wpAny_bind (wpAny_mono h₃ (fun x s₄ h₄=>wpAny_bind (wpAny_mono h₄ (fun _ s₅ h₅=>wpAny_pure (wpAny_pure ⟨rfl,h₅⟩)) fun _ _ h'=>h')) fun _ _ h'=>h'))
def m6 (J:It)(g:TG)(tc:TT)(te:TE)(D:Addr)(Q:Hp→Prop) (σ:St)(H:Hp):Prop :=
 ∃ W:Nat→Nat→St→Hp→Prop,(∃ m,W 0 m σ H)∧∀ i m σ' H',W i m σ' H' →
   (J.stop i H'∧Q H')∨(J.go i H'∧∃ N:St→Hp→Prop,(∀ σ'' H'',N σ'' H''→∃ m',m' < m∧W (i+1) m' σ'' H'') ∧
     ∀ x H2,J.yld i H' x H2→g x σ' H2 fun σ2 H3=>tc σ2 H3 fun b H3'=>if b=true then te σ2 H3' fun v H4=>∃ xs,H4 D=some (.lst xs)∧xs.length < sizeLine∧N σ2 (upd H4 D (.lst (xs++[v]))) else N σ2 H3')
section
variable {X:Cx}{pins:List (Addr×Obj)}{σ:St}{H:Hp}{s:Shared}{scope:Scope}{N':List Str}{pk:List (Option Nat)}{fp:List Addr}
theorem mq {elt tg iter cnd:Expr}{g:TG}{tc:TT}{te:TE}{J:It}{it:Addr}{tn:Nat→Heap→Prop}{pos:Pos}{QD:Addr→Hp→Prop}{E:Value→Shared→Prop}{RR:Value→Addr→Result→Shared→Prop}
   (I:Inv X pins σ H s)(B:cc X.N X.env scope N' pk)(hc:X.calm=true)(T:mY X.prog X.w X.K tg J fp it tn)(st:tn 0 s.heap)(hf:∀ b∈fp,e5 X pins H b)
   (hg:∀ s H ex,PG (cxB X N' scope s H ex) tg g)(ht:∀ s H ex,PT (cxB X N' scope s H ex) cnd tc)(he:∀ s H ex,PE (cxB X N' scope s H ex) elt te)
   (hW:∀ D,H D=none→m6 J g tc te D (QD D) (gP pk σ) (upd H D (.lst [])))
   (fin:∀ D C s' H' m,Inv X pins σ H' s'→e5 X pins H' C→s'.heap.Ns C m→QD D H'→RR (.ref D) C (.ok .next) s') :
   wpAny (model X.prog X.w) X.A (newList []) (fun acc s₃=>wpAny (model X.prog X.w) X.A (newFunctionEnv scope X.env.globals (ju scope X.env) [] X.env.qual none .none (some X.env)) (fun cenv s₄ =>
     codeAny (model X.prog X.w) X.A (.compStart (.ListComp elt [⟨tg,iter,[cnd],0⟩] scope pos) 0 (.ref it) acc { cenv with scope:=relabel scope X.env }) (RR acc cenv.locals) s₄) E s₃) E s:=by
 have hD0:H s.heap.objs.size=none:=I.hok.fresh (Nat.le_refl _)
 refine wpAny_newObj_type (wpAny_newFunctionEnv B.nocell (by intro y hy;simp at hy) (fun h₁ hns₁ hsb₁=>?_) B.kind)
 dsimp only at hns₁ hsb₁ ⊢
 have I3:Inv X pins σ (upd H s.heap.objs.size (.lst [])) { s with heap:=s.heap.push { cls:=.type "list",dict:=none,data:=.seq ([]:List Value).toArray } }:=I.lnew (t':=s.toks) .nil (Nat.zero_le _)
 obtain⟨W,⟨m0,w0⟩,turn⟩:=hW _ hD0
 generalize hs3:({ s with heap:=s.heap.push { cls:=.type "list",dict:=none,data:=.seq ([]:List Value).toArray } }:Shared)=s3 at I3
 have eh:s.heap.push { cls:=.type "list",dict:=none,data:=.seq ([]:List Value).toArray }=s3.heap:=by rw[←hs3]
 have hold:∀ b o,s.heap.get? b=some o→s3.heap.get? b=some o:=fun b o e=>by rw[←eh];exact Heap.get?_push_of_some _ e
 rw[eh] at hns₁ hsb₁
 have hs:∀ b o,s3.heap.get? b=some o→h₁.get? b=some o:=fun b o e=>hsb₁.extBut b o (Nat.ne_of_lt (Heap.lt_size e)) (Heap.get?_push_of_some _ e)
 have hf3:∀ b∈fp,e5 X pins (upd H s.heap.objs.size (.lst [])) b:=fun b hb=>by
   refine⟨?_,(hf b hb).2⟩
   obtain⟨o,e,_⟩:=T.obj 0 _ st b hb
   rw[ai (Nat.ne_of_lt (Heap.lt_size e))]
   exact(hf b hb).1
 have ho3:∀ b∈fp,∃ o,s3.heap.get? b=some o:=fun b hb=>by
   obtain⟨o,e,_⟩:=T.obj 0 _ st b hb
   exact⟨o,hold _ _ e⟩
 have st1:tn 0 h₁:=T.keep 0 _ _ st fun b hb o e=>hs b o (hold b o e)
 have esh:∀ t,({ s with heap:=h₁,toks:=t }:Shared)={ s3 with heap:=h₁,toks:=t }:=fun t=>by rw[←hs3]
 have loop:∀ t,codeAny (model X.prog X.w) X.A (.compLoop (.ListComp elt [⟨tg,iter,[cnd],0⟩] scope pos) 0 (.ref it) (.ref s.heap.objs.size) (compEnvC scope (ju scope X.env) s3.heap.objs.size X.env))
     (RR (.ref s.heap.objs.size) s3.heap.objs.size) { s with heap:=h₁,toks:=t }:=fun t=>by
   rw[esh t]
   have IB:Inv (cxB X N' scope s3 (upd H s.heap.objs.size (.lst [])) fp) [] (gP pk σ) (upd H s.heap.objs.size (.lst [])) { s3 with heap:=h₁,toks:=t }:=rD I3 B hf3 ho3 hns₁ hs
   have f2:∀ b∈fp,e5 (cxB X N' scope s3 (upd H s.heap.objs.size (.lst [])) fp) [] (upd H s.heap.objs.size (.lst [])) b:=fun b hb =>
     ⟨(hf3 b hb).1,(IB.ok.exf b hb).1,IB.ok.exfs b hb,.inl hb,(IB.ok.exf b hb).2,fun p hp=>absurd (show p∈([]:List (Addr×Obj)) from hp) (by simp)⟩
   have stat:∀ {H':Hp},(∀ b∈fp,H' b=none)→∀ b∈fp,e5 (cxB X N' scope s3 (upd H s.heap.objs.size (.lst [])) fp) [] H' b:=fun hn b hb=>⟨hn b hb,(f2 b hb).2⟩
   refine oH (fun n s'=>∃ i σ' H',Inv (cxB X N' scope s3 (upd H s.heap.objs.size (.lst [])) fp) [] σ' H' s'∧tn i s'.heap∧(∀ b∈fp,H' b=none)∧W i n σ' H') ?_ m0 ⟨0,_,_,IB,st1,fun b hb=>(f2 b hb).1,w0⟩
   rintro n s4 ⟨i,σ4,H4,I4,st4,fr4,w4⟩ E'
   rcases turn i n σ4 H4 w4 with ⟨stop,qn⟩ | ⟨go,N,hN,step⟩
   · refine thn (T.done (cxB X N' scope s3 (upd H s.heap.objs.size (.lst [])) fp) rfl rfl rfl hc i [] s4 σ4 H4 E' I4 (stat fr4) st4 stop) fun r s5 ⟨hr,I5⟩=>?_
     subst hr
     obtain⟨m5,hn5,_⟩:=I5.loc
     have IX:Inv X pins σ H4 s5:=I3.call' (ch:=fp) I5.os I5.base I5.hok I5.bare fun b hb=>⟨(hf3 b hb).2.2.2.1,(hf3 b hb).2.1,(hf3 b hb).2.2.2.2.1,(hf3 b hb).2.2.2.2.2⟩
     exact fin _ _ s5 H4 m5 IX (I3.fpOk (Nat.le_refl _) I5.free) hn5 qn
   · refine thn (T.item (cxB X N' scope s3 (upd H s.heap.objs.size (.lst [])) fp) rfl rfl rfl hc i [] s4 σ4 H4 E' I4 (stat fr4) st4 go) fun r s5 ⟨u,hr,h5⟩=>?_
     subst hr
     refine thn h5 fun _ s6 ⟨x,H6,I6,r6,y6,st6,fr6⟩=>?_
     have I6':=I6.pinned (stat fr6) (T.obj _ _ st6)
     refine wpAny_mono (hg _ _ _ s6 σ4 H6 x u _ I6' r6 (step x H6 y6)) (fun _ s7 ⟨σ7,H7,I7,q7⟩=>?_) fun _ _ z=>False.elim z
     refine wpAny_mono (ht _ _ _ s7 σ7 H7 _ I7 q7) (fun bb s7' ⟨H7',I7',q7'⟩=>?_) fun _ _ z=>False.elim z
     have back:∀ H9 s9,Inv (cxB X N' scope s3 (upd H s.heap.objs.size (.lst [])) fp) ([]++jV fp s6.heap) σ7 H9 s9→N σ7 H9→∃ m,m < n∧∃ i σ' H',Inv (cxB X N' scope s3 (upd H s.heap.objs.size (.lst [])) fp) [] σ' H' s9∧tn i s9.heap∧(∀ b∈fp,H' b=none)∧W i m σ' H':=fun H9 s9 I9 n9=>by
       obtain⟨m',hm,w9⟩:=hN σ7 H9 n9
       refine⟨m',hm,i+1,σ7,H9,I9.unpinned,T.keep _ _ _ st6 fun b hb o e=>(I9.pin (b,o) (List.mem_append_right _ (List.mem_append_right _ (du hb e)))).1,fun b hb=>?_,w9⟩
       obtain⟨o,e,d⟩:=T.obj _ _ st6 b hb
       exact(I9.pin (b,o) (List.mem_append_right _ (List.mem_append_right _ (du hb e)))).2.1
     cases bb with
     | false=>exact back H7' s7' I7' q7'
     | true =>
       refine wpAny_mono (he _ _ _ s7' σ7 H7' _ I7' q7') (fun w s8 ⟨v,H8,I8,r8,xs,hx8,hl8,n8⟩=>?_) fun _ _ z=>False.elim z
       refine wpAny_mono (cj (X:=cxB X N' scope s3 (upd H s.heap.objs.size (.lst [])) fp) _ s8 σ7 H8 (.ref s.heap.objs.size) [v] (.ref s.heap.objs.size) [w] (fun _ H9=>N σ7 H9) I8 rfl (.cons r8 .nil) ⟨_,xs,v,rfl,rfl,hx8,hl8,n8⟩) (fun _ s9 ⟨_,H9,I9,_,n9⟩=>?_) fun _ _ z=>False.elim z
       exact back H9 s9 I9 n9
 rw[←eh] at loop
 exact codeAny_compStart_list (loop _) (T.self _ _ _ _ _ st1 (loop _))

def pz (pk:List (Option Nat))(wi:TI)(g:TG)(tc:TT)(te:TE):TE:=fun σ H Q=>wi σ H fun J H1=>∀ D,H1 D=none→m6 J g tc te D (fun H'=>Q (.ref D) H') (gP pk σ) (upd H1 D (.lst []))
theorem kJ {elt tg iter cnd:Expr}{wi:TI}{g:TG}{tc:TT}{te:TE}{pos:Pos}(hc:X.calm=true)(B:cc X.N X.env scope N' pk)(hi:PI X tg iter wi)
   (hg:∀ s H ex,PG (cxB X N' scope s H ex) tg g)(ht:∀ s H ex,PT (cxB X N' scope s H ex) cnd tc)(he:∀ s H ex,PE (cxB X N' scope s H ex) elt te)(hs:∀ x,foldedSetIterable iter X.env x=pure x:=by intro _;rfl) :
   PE X (.ListComp elt [⟨tg,iter,[cnd],0⟩] scope pos) (pz pk wi g tc te):=by
 intro pins s σ H Q I h
 rw[eval_ListComp]
 have hclos:=fH (iy I B)
 refine wpAny_comprehension_free (use:=none) rfl hs hclos B.kind B.names (thn (hi s σ H _ I h) fun v s1 h1=>thn h1 fun itv s2 h2=>?_)
 obtain⟨it,fp,tn,J,H2,e,I2,T,st2,f2,hW⟩:=h2
 subst e
 refine mq (QD:=fun D H'=>Q (.ref D) H') (RR:=fun acc C=>compPost (model X.prog X.w) X.A X.xe none (EP X pins σ Q) acc C) I2 B hc T st2 f2 hg ht he hW fun D C s' H' m I' f' hn q=>?_
 exact⟨m,hn,fun h' hs'=>⟨.ref D,H',I'.gone f' hs',rfl,q⟩⟩
end
end L2

set_option Elab.async false
set_option linter.all false
set_option maxRecDepth 100000
set_option maxHeartbeats 4000000
namespace L2
open PySem PySem.Spec PyProof.Rows
end L2

set_option Elab.async false
set_option linter.all false
set_option maxRecDepth 100000
set_option maxHeartbeats 8000000
namespace L2
open PySem
theorem l4:∀ (ss:List Str) (n:Nat),Vals (ss.map V.str) (strsFrom n ss)
 | [],_=>.nil
 | x::xs,n=>.cons ⟨_,rfl⟩ (l4 xs (n+1))
section
variable {X:Cx}
theorem jd {pins:List (Addr×Obj)}{σ:St}{H:Hp}{s:Shared}{Q:VK}{ss:List Str}{vs:List Value} (k:Nat)(I:Inv X pins σ H s)(hv:Vals (ss.map V.str) vs)(hz:ss.length≤sizeLine)(q:∀ p,H p=none→Q (.ref p) (upd H p (.lst (ss.map V.str)))) :
   EP X pins σ Q (.ref s.heap.objs.size) { heap:=s.heap.push { cls:=Value.type "list",data:=Data.seq vs.toArray },gens:=s.gens,drawn:=s.drawn,toks:=k,os:=s.os } :=
 ⟨.ref s.heap.objs.size,_,I.laid (t':=k) (o:=.lst (ss.map V.str)) (fun b ob q=>Heap.get?_push_of_some _ q) (Nat.le_refl _) ⟨by rw[List.length_map];exact hz,_,0,hv,Heap.get?_push_size _ rfl⟩,rfl,q _ (I.hok.fresh (Nat.le_refl _))⟩
theorem pc:MtR X "str.split" (fun x vs H Q=>∃ z y,x=.str z∧vs=[.str y]∧(y.length==0)=false∧z.length+2≤sizeLine∧∀ p,H p=none→Q (.ref p) (upd H p (.lst ((Txt.split z y).map V.str)))):=by
 intro pins s σ H x xs v us Q I rx rs h
 obtain⟨z,y,rfl,rfl,hy,hz,q⟩:=h
 obtain⟨t,rfl⟩:=rx
 obtain⟨u,rfl,ru⟩:=rs.one
 obtain⟨t',rfl⟩:=ru
 have hle:=PyProof.Rows.split_le z y
 by_cases h1:(decide (z.length < y.length)||decide (Builtin.Str.strKind z < Builtin.Str.strKind y))=true
 · have e:Txt.split z y=[z]:=by unfold Txt.split;rw[if_pos h1]
   rw[e] at q
   refine call_meets F.slot_str_split (typeIs_str _ _ _) F.entry_str_split (F.args_str_split_2 _ _) (meets_str_split_cannot_occur z y t t' h1) ?_
   exact jd (ss:=[z]) _ I (.cons ⟨_,rfl⟩ .nil) (by show 1≤_;omega) q
 · have h1':(decide (z.length < y.length)||decide (Builtin.Str.strKind z < Builtin.Str.strKind y))=false:=by simpa using h1
   by_cases h2:(Builtin.Str.occurrences z y 0 z.length (z.length+1)).isEmpty=true
   · have e:Txt.split z y=[z]:=by unfold Txt.split;rw[if_neg h1,if_pos h2]
     rw[e] at q
     refine call_meets F.slot_str_split (typeIs_str _ _ _) F.entry_str_split (F.args_str_split_2 _ _) (meets_str_split_not_found z y t t' h1' hy h2) ?_
     exact jd (ss:=[z]) _ I (.cons ⟨_,rfl⟩ .nil) (by show 1≤_;omega) q
   · have e:Txt.split z y=Builtin.Str.partsBetween z (Builtin.Str.occurrences z y 0 z.length (z.length+1)) y.length:=by unfold Txt.split;rw[if_neg h1,if_neg h2]
     rw[e] at hle q
     refine call_meets F.slot_str_split (typeIs_str _ _ _) F.entry_str_split (F.args_str_split_2 _ _) (meets_str_split_sep z y t t' h1' hy (by simpa using h2) (by omega) (by omega)) ?_
     exact jd _ I (l4 _ _) (by omega) q
end
end L2

set_option Elab.async false
set_option linter.all false
set_option maxRecDepth 100000
set_option maxHeartbeats 8000000
namespace L2
open PySem PySem.Spec PyProof.Rows PySem.W
theorem vM {X:Cx}{body:List Stmt}{x n:Str}{suite:List Stmt}{b0:Stmt}{np hpos pos:Pos}{t:TS}(hb:∀ (pn:List (Addr×Obj))(W:Value→Shared→Prop),PSs (X.bear pn W) body t) :
   PS X (.Try body [.ExceptHandler (some (.Name x np)) (some n) (b0::suite) hpos] [] [] pos) t:=by
 intro pins s σ H D I h
 refine wpAny_Try_except ?_
 refine wpAny_mono (hb (X.pn++pins) _ s σ H D (I.toBear _) h) (fun f s1 q=>?_) (fun _ _ z=>z)
 have q':SP X pins D f s1:=SP.ofBear q
 cases f with
 | next=>exact wpAny_execs_nil q'
 | brk=>exact q'
 | cont=>exact q'
 | ret u=>exact q'
end L2

set_option Elab.async false
set_option linter.all false
set_option maxRecDepth 100000
set_option maxHeartbeats 8000000
namespace L2
open PySem PySem.Spec PyProof.Rows
def yI (cs:List Int):TA:=fun _ H Q=>Q (cs.map V.int) H
def om (cs:List Str):TA:=fun _ H Q=>Q (cs.map V.str) H
theorem qG (c:Str)(cs:List Str):cV (tC (.str c)) (om cs)=om (c::cs):=rfl
theorem qN {X:Cx}:∀ (l:List (Str×Nat×Pos)),PA X (l.map fun q=>.Constant (.str q.1) q.2.1 q.2.2) (om (l.map (·.1)))
 | []=>(ad:PA X [] pD)
 | q::l=>by
   rw[List.map_cons,List.map_cons,←qG]
   exact aa ba (qN l)
def yb:List Expr→List Int→Bool
 | [],[]=>true
 | .Constant (.int c) _ _::es,d::ds=>decide (c=d)&&yb es ds
 | _,_=>false
def nu:List Expr→List Str→Bool
 | [],[]=>true
 | .Constant (.str c) _ _::es,d::ds=>decide (c=d)&&nu es ds
 | _,_=>false
theorem l7:∀ {es:List Expr}{cs:List Str},nu es cs=true→∃ l:List (Str×Nat×Pos),es=l.map (fun q=>.Constant (.str q.1) q.2.1 q.2.2)∧cs=l.map (·.1)
 | [],[],_=>⟨[],rfl,rfl⟩
 | .Constant (.str c) k p::es,d::ds,h=>by
   have h':(decide (c=d)&&nu es ds)=true:=h
   rw[Bool.and_eq_true,decide_eq_true_eq] at h'
   obtain⟨rfl,h2⟩:=h'
   obtain⟨l,rfl,rfl⟩:=l7 h2
   exact⟨(c,k,p)::l,rfl,rfl⟩
theorem yS {X:Cx}{es:List Expr}(cs:List Str)(h:nu es cs=true):PA X es (om cs):=by
 obtain⟨l,rfl,rfl⟩:=l7 h
 exact qN l
abbrev vU (K:PySem.W.Frag):List V→Hp→VK→Prop:=fun xs H Q=>∃ p ys,xs=[.ref p]∧(SqL K H p ys∨SqT K H p ys)∧∀ l,H l=none→Q (.ref l) (upd H l (.lst ys))
theorem k9 {P:Program}{w:World}{X:Cx}:fQ (CX1 P w) X (fun _ _ _=>False):=fun _ _ _ _ _ _ _ ⟨_,_,_,_,_,_,_,_,_,_,_,_,_,h⟩=>h.elim
theorem aW {t u:TS}{D:iY}{σ:St}{H:Hp}(Pv:St→Hp→Prop)(h:∀ R:St→Hp→Prop,(∀ σ' H',Pv σ' H'→R σ' H')→t { D with nx:=R } σ H)(k:∀ σ' H',Pv σ' H'→u D σ' H'):x4 t u D σ H:=⟨Pv,h Pv (fun _ _ x=>x),k⟩
end L2

set_option Elab.async false
set_option linter.all false
set_option maxRecDepth 100000
set_option maxHeartbeats 8000000
namespace L2
open PySem PySem.Spec PyProof.Rows
theorem mU {ns:List Int}:∀ {us:List Value},Vals (ns.map V.int) us→IntsAre us ns:=by
 induction ns with
 | nil=>intro us r;rw[List.map_nil] at r;cases r;exact .nil
 | cons n ns ih =>
   intro us r
   rw[List.map_cons] at r
   cases r with
   | cons r1 r2 =>
     obtain⟨t,e⟩:=r1
     cases e
     exact .cons n t (ih r2)
section
variable {X:Cx}
theorem sR (hc:X.calm=true):cx X (.builtin "max") (fun xs H Q=>∃ (a:Addr)(ns:List Int),xs=[.ref a]∧SqL X.K H a (ns.map V.int)∧0 < ns.length∧∀ M,M∈ns→(∀ a∈ns,a≤M)→Q (.int M) H):=by
 intro pins s σ H xs us Q I r h
 obtain⟨a,ns,rfl,ha,hne,q⟩:=h
 obtain⟨u,rfl,ru⟩:=dq r
 cases ru
 obtain⟨its,rv,pl,_⟩:=I.list ha
 have hl:=pl.isList
 have hi:=mU rv
 obtain⟨xs,e⟩:=hi.allInts.items
 have hns:ns=xs.toList.map (·.1):=by
   rw[←hi.numsOf,←nums_intItems,←e]
 have hsz:0 < xs.size:=by
   have h3:=hne;rw[hns,List.length_map,Array.length_toList] at h3;exact h3
 rw[e] at hl
 refine max_intList (I.ok.hd hc) hl hsz fun v h' tk hv hk=>?_
 obtain⟨t,rfl⟩:=intItems_at hv
 obtain⟨h1,h2⟩:=argBest_gt (numAt xs) (xs.size - 1)
 refine⟨.int _,H,I.kept hk,⟨t,rfl⟩,q _ ?_ fun a ha=>?_⟩
 · rw[hns,numAt_eq];exact getD_mem (by rw[List.length_map,Array.length_toList];omega)
 · rw[hns] at ha
   obtain⟨j,hj,rfl⟩:=mem_getD ha
   rw[List.length_map,Array.length_toList] at hj
   rw[←numAt_eq];exact h2 j (by omega)
end
theorem bi {J:It}{H0:Hp}{n:Nat}{vs:Nat→V→Prop}{g:TG}{tb:TS}{D:iY}{σ:St}{H:Hp}(S:dM J H0 n vs)(Pv:Nat→St→Hp→Prop)(h0:Pv 0 σ H)(hsame:∀ i σ H,i≤n→Pv i σ H→af H0 H)
   (hs:∀ i x σ H,i < n→vs i x→Pv i σ H→∀ R:St→Hp→Prop,(∀ σ' H',Pv (i+1) σ' H'→R σ' H')→g x σ H fun σ2 H2=>tb { D with nx:=R,ct:=R,bk:=D.nx } σ2 H2)(hd:∀ σ H,Pv n σ H→D.nx σ H):uK J g tb D σ H :=
 a9 S Pv h0 hsame (fun i x σ H hi hx p=>hs i x σ H hi hx p _ fun _ _ z=>z) hd
section
variable {X:Cx}
theorem Inv.thaw {pins:List (Addr×Obj)}{σ:St}{H:Hp}{s:Shared}{d:Addr}{o:Obj}{kvs:List (Key×V)}(I:Inv X pins σ H s)(h:H d=some (.frz o (.dK kvs)))(h0:∀ o u,X.H₀ d≠some (.frz o u)):Inv X pins σ (upd H d (.dK kvs)) s:=by
 have ne:∀ b,H b=none→b≠d:=fun b e z=>by rw[z,h] at e;cases e
 refine⟨I.ok,I.os,I.bare,⟨I.base.keep,I.base.slot,fun b ob e n hx=>?_,I.base.there,fun b xs e=>?_,fun b ob u e=>?_,fun b ps e=>?_⟩,I.loc,I.cell,?_,fun x c e=>?_,fun p hp=>?_,fun a u e=>?_,I.len⟩
 · have:=I.base.free b ob e n hx
   rw[ai (ne b this)];exact this
 · have:=I.base.tups b xs e
   have hb:b≠d:=fun z=>by rw[z,h] at this;cases this
   rw[ai hb];exact this
 · have:=I.base.frzs b ob u e
   have hb:b≠d:=fun z=>by rw[z] at e;exact h0 _ _ e
   rw[ai hb];exact this
 · obtain⟨more,this⟩:=I.base.tbls b ps e
   have hb:b≠d:=fun z=>by rw[z,h] at this;cases this
   exact⟨more,by rw[ai hb];exact this⟩
 · rw[ai (ne _ I.free)];exact I.free
 · rw[ai (ne _ (I.freeC x c e))];exact I.freeC x c e
 · obtain⟨e1,n,r⟩:=I.pin p hp
   exact⟨e1,by rw[ai (ne _ n)];exact n,r⟩
 · have ho:∀ b y,H b=some (.own y)→upd H d (.dK kvs) b=some (.own y):=fun b y q=>by
     have hb:b≠d:=fun z=>by rw[z,h] at q;cases q
     rw[ai hb];exact q
   have ht:∀ b xs,H b=some (.tup xs)→upd H d (.dK kvs) b=some (.tup xs):=fun b xs q=>by
     have hb:b≠d:=fun z=>by rw[z,h] at q;cases q
     rw[ai hb];exact q
   by_cases ha:a=d
   · subst ha
     rw[ac] at e
     cases e
     have:=I.hok a _ h
     exact bE.stay this.2 (fun _ _ _ q=>q) (fun b q=>ho b _ q) ht
   · rw[ai ha] at e
     exact bE.stay (I.hok a _ e) (fun _ _ _ q=>q) (fun b q=>ho b _ q) ht
def wV (H0:Hp)(te:TE):TE:=fun σ H Q=>te σ H fun v H'=>Q v H'∨∃ d o kvs,H' d=some (.frz o (.dK kvs))∧(∀ o u,H0 d≠some (.frz o u))∧Q v (upd H' d (.dK kvs))
theorem v7 {e:Expr}{te:TE}(h:PE X e te):PE X e (wV X.H₀ te):=by
 intro pins s σ H Q I q
 refine thn (h s σ H _ I q) fun v s1 ⟨x,H1,I1,r1,q1⟩=>?_
 rcases q1 with q1 | ⟨d,o,kvs,hd,h0,q1⟩
 · exact⟨x,H1,I1,r1,q1⟩
 · exact⟨x,_,I1.thaw hd h0,r1,q1⟩
end
theorem wB {CX:CXT}{P:Program}{w:World}{K:PySem.W.Frag}{mg:Str→Option Value}{base:Heap}{N:List Str}{qual:Str}{scope:Scope}{f:Addr}{cd:Value}{A:Around}{outer:List Env}{s:Shared}{H:Hp}{E:XK}:(cr CX P w K mg base N qual scope f cd A outer s H E).H₀=H:=rfl
theorem xv {X:Cx}:X.nox.H₀=X.H₀:=rfl
end L2

set_option Elab.async false
set_option linter.all false
set_option maxRecDepth 100000
set_option maxHeartbeats 8000000
namespace L2
open PySem PySem.Spec PyProof.Rows
section
variable {X:Cx}
theorem vT:∀ (xs ys:List V),xs.length=ys.length→((List.range xs.length).all fun j=>eqV (xs.getD j .non) (ys.getD j .non))=(xs.zip ys).all fun p=>eqV p.1 p.2:=by
 intro xs
 induction xs with
 | nil=>intro ys _;rfl
 | cons x xs ih =>
   intro ys h
   cases ys with
   | nil=>simp at h
   | cons y ys =>
     rw[List.length_cons,List.range_succ_eq_map,List.all_cons,List.all_map,List.zip_cons_cons,List.all_cons]
     have h':xs.length=ys.length:=by simpa using h
     rw[←ih ys h']
     rfl
theorem tK {its its2:List Value}{xs ys:List V}{A:Around}{s:Shared}(r1:Vals xs its)(r2:Vals ys its2)(f1:xs.all dR=true)(f2:ys.all dR=true)(hl:xs.length=ys.length) :
   ∀ j (h1:j < its.toArray.size)(h2:j < its2.toArray.size),SeqAt.EqAt A s its.toArray[j] its2.toArray[j] (eqV (xs.getD j .non) (ys.getD j .non)):=by
 intro j h1 h2
 have l1:=r1.length
 have l2:=r2.length
 have hj1:j < xs.length:=by rw[l1];simpa using h1
 have hj2:j < ys.length:=by rw[l2];simpa using h2
 obtain⟨u1,hu1,ru1⟩:=r1.get (List.getElem?_eq_getElem hj1)
 obtain⟨u2,hu2,ru2⟩:=r2.get (List.getElem?_eq_getElem hj2)
 have e1:its.toArray[j]=u1:=by
   have:=(List.getElem?_eq_some_iff.mp hu1).2
   simpa using this
 have e2:its2.toArray[j]=u2:=by
   have:=(List.getElem?_eq_some_iff.mp hu2).2
   simpa using this
 rw[e1,e2,List.getD_eq_getElem?_getD,List.getD_eq_getElem?_getD,List.getElem?_eq_getElem hj1,List.getElem?_eq_getElem hj2]
 exact uX ru1 ru2 (List.all_eq_true.mp f1 _ (List.getElem_mem hj1)) (List.all_eq_true.mp f2 _ (List.getElem_mem hj2))
def y4 (xs ys:List V):Bool:=decide (xs.length=ys.length)&&(xs.zip ys).all fun p=>eqV p.1 p.2
def y1 (K:PySem.W.Frag)(neg:Bool):R2:=fun x y H Q=>∃ a b xs ys,x=.ref a∧y=.ref b∧SqL K H a xs∧SqL K H b ys∧((xs.all dR=true∧ys.all dR=true)∨xs.length≠ys.length∨xs=[])∧Q (.bl (neg^^y4 xs ys)) H
end
end L2

set_option Elab.async false
set_option linter.all false
set_option maxRecDepth 100000
set_option maxHeartbeats 8000000
namespace L2
open PySem PySem.Spec PyProof.Rows
section
variable {prog:Program}{w:World}{A:Around}{E:Value→Shared→Prop}{s:Shared}
end
section
variable {prog:Program}{w:World}{κ:Type} [DecidableEq κ]{knd:KeyKind prog w κ}
end
end L2

set_option Elab.async false
set_option linter.all false
set_option maxRecDepth 100000
set_option maxHeartbeats 8000000
namespace L2
open PySem PySem.Spec PyProof.Rows
/-! ### order of texts -/
section
variable {X:Cx}
theorem sB:OpR X (compareOp .GtE) (fun x y H Q=>∃ i j,x=.str i∧y=.str j∧Q (.bl (!decide (i.cps.toList < j.cps.toList))) H):=by
 intro pins s σ H x y v u Q I rx ry h
 obtain⟨i,j,rfl,rfl,q⟩:=h
 obtain⟨t,rfl⟩:=rx
 obtain⟨t',rfl⟩:=ry
 exact PySem.P.ge_str (bf I q rfl)
end
end L2

set_option Elab.async false
set_option linter.all false
set_option maxRecDepth 100000
set_option maxHeartbeats 8000000
namespace L2
open PySem PySem.Spec PyProof.Rows
section
variable {X:Cx}{pins:List (Addr×Obj)}{σ:St}{H:Hp}{s:Shared}{h':Heap}
theorem Inv.turnedT {t':Nat}{ch:List Addr}{T:Addr}{o:HO}(I:Inv X pins σ H s)(hf:∀ b∈ch,e5 X pins H b)(k:∀ b o,b∉ch→s.heap.get? b=some o→h'.get? b=some o)(hp:s.heap.objs.size≤T)
   (new:bE X.prog X.w (upd H T o) h' T o):Inv X pins σ (upd H T o) { s with heap:=h',toks:=t' }:=by
 have hTn:H T=none:=I.hok.fresh hp
 have nit:∀ b u,H b=some u→b∉ch:=fun b u e z=>by rw[(hf b z).1] at e;cases e
 have nT:∀ b o,s.heap.get? b=some o→b≠T:=fun b o e=>Nat.ne_of_lt (Nat.lt_of_lt_of_le (Heap.lt_size e) hp)
 refine I.step (g':=s.gens) (d':=s.drawn) (ch:=ch) (fun b hb=>?_) (fun b o _ _ hc e _=>k b o hc e) (fun b o _ _ hc e _=>⟨o.slots,k b o hc e⟩) (fun b u _ e n=>by rw[ai (nT b u e)];exact n)
   (fun b o hc e=>⟨o,k b o hc e⟩) (fun b xs e=>by rw[ai (ak e hTn)];exact e) (fun b u v e=>by rw[ai (ak e hTn)];exact e) (fun b ps e=>⟨#[],by rw[ai (ak e hTn),e];simp⟩) (fun m hm=>?_) (fun b u e=>?_) I.bare
 · obtain⟨f0,f1,f2,f3,f4,f5⟩:=hf b hb
   exact⟨f3,f1,f4,f5⟩
 · obtain⟨o,es,ep,ho,r⟩:=hm
   exact⟨o,es,ep,k _ o (fun z=>(hf _ z).2.1 rfl) ho,r⟩
 · by_cases hb:b=T
   · subst hb
     rw[ac] at e
     cases e
     exact new
   · rw[ai hb] at e
     refine(I.hok b u e).stay (fun c v hc q=>k c v ?_ q) (fun c q=>by rw[ai (ak q hTn)];exact q) fun c xs q=>by rw[ai (ak q hTn)];exact q
     rcases hc with z | z
     · rw[z];exact nit b u e
     · exact nit c _ z
theorem Inv.turnedN {t':Nat}{ch:List Addr}(I:Inv X pins σ H s)(hf:∀ b∈ch,e5 X pins H b)(k:∀ b o,b∉ch→s.heap.get? b=some o→h'.get? b=some o):Inv X pins σ H { s with heap:=h',toks:=t' }:=by
 have nit:∀ b u,H b=some u→b∉ch:=fun b u e z=>by rw[(hf b z).1] at e;cases e
 refine I.step (g':=s.gens) (d':=s.drawn) (ch:=ch) (fun b hb=>?_) (fun b o _ _ hc e _=>k b o hc e) (fun b o _ _ hc e _=>⟨o.slots,k b o hc e⟩) (fun b u _ e n=>n)
   (fun b o hc e=>⟨o,k b o hc e⟩) (fun b xs e=>e) (fun b u v e=>e) (fun b ps e=>⟨#[],by rw[e];simp⟩) (fun m hm=>?_) (fun b u e=>?_) I.bare
 · obtain⟨f0,f1,f2,f3,f4,f5⟩:=hf b hb
   exact⟨f3,f1,f4,f5⟩
 · obtain⟨o,es,ep,ho,r⟩:=hm
   exact⟨o,es,ep,k _ o (fun z=>(hf _ z).2.1 rfl) ho,r⟩
 · refine(I.hok b u e).stay (fun c v hc q=>k c v ?_ q) (fun _ q=>q) fun _ _ q=>q
   rcases hc with z | z
   · rw[z];exact nit b u e
   · exact nit c _ z
end
theorem wl {P:Program}{w:World}{H:Hp}{h:Heap}{T:Addr}{x y:V}{u v:Value}(hT:h.get? T=some { cls:=.type "tuple",data:=.seq #[u,v] })(rx:a8 x u)(ry:a8 y v):bE P w H h T (.tup [x,y]) :=
 ⟨by show 2≤sizeLine;rw[sizeLine_eq];decide,[u,v],.cons rx (.cons ry .nil),_,hT,rfl,_,rfl⟩
def Ite (K:PySem.W.Frag)(a:Addr):It :=
 ⟨fun i H=>∃ xs x,SqL K H a xs∧xs[i]?=some x,fun i H v H'=>∃ T x,H T=none∧v=.ref T∧H'=upd H T (.tup [.int i,x])∧∀ xs,SqL K H a xs→xs[i]?=some x,fun i H=>∃ xs,SqL K H a xs∧xs.length≤i⟩
theorem sN {P:Program}{w:World}{K:PySem.W.Frag}{elts:List Expr}{k:Nat}{pos:Pos}(a e it:Addr)(hei:e≠it):mY P w K (.Tuple elts k pos) (Ite K a) [e,it] e (fun i h=>(∃ old,IsEnum h e it ((i:Nat):Int) old)∧h.IsListIter it a i) where
 mem:=by simp
 obj:=fun i h st b hb=>by
   obtain⟨⟨old,he⟩,o,h1,h2,h3⟩:=st
   rcases List.mem_cons.mp hb with rfl | hb
   · exact⟨_,he,fun v z=>by
       have z':Data.fields _=Data.cell v:=z
       cases z'⟩
   · rw[List.mem_singleton.mp hb]
     exact⟨o,h1,fun v z=>by rw[h3] at z;cases z⟩
 keep:=fun i h h' st k=>⟨by obtain⟨⟨old,he⟩,_⟩:=st;exact⟨old,k e (by simp) _ he⟩,st.2.at fun o e=>k it (by simp) o e⟩
 item:=by
   intro X hP hw hK hc i pins s σ H E I hf st hg
   subst hP hw hK
   obtain⟨xs,x,hq,hx⟩:=hg
   obtain⟨its,rv,p,hz⟩:=I.list hq
   obtain⟨u,hu,ru⟩:=rv.get hx
   obtain⟨⟨old,he⟩,hit⟩:=st
   have hae:a≠e:=fun z=>by
     obtain⟨o,n,h1,h2,_⟩:=p
     rw[z,he] at h1
     cases h1
     have h2':Value.type "enumerate"=Value.type "list":=h2
     exact absurd h2' (by decide +kernel)
   have hai:a≠it:=fun z=>by
     obtain⟨o,n,h1,h2,_⟩:=p
     obtain⟨o2,h3,h4,_⟩:=hit
     rw[z,h3] at h1
     cases h1
     rw[h4] at h2
     exact absurd h2 (by decide +kernel)
   refine wpAny_pyNext_enum_item he hit p.isList (x:=u) (by simpa using hu) hei fun h' ho hit' hT hsz hk=>⟨_,rfl,?_⟩
   have hel:=Heap.lt_size he
   refine wpAny_letOwnedTupleGo_enum (s:={ s with heap:=h',toks:=s.toks+1 }) ho fun h2 he2 hs2=>?_
   have hT2:h2.get? s.heap.objs.size=some { cls:=.type "tuple",data:=.seq #[.int i s.toks,u] }:=hs2.extBut _ _ (Nat.ne_of_gt hel) hT
   have I1:Inv X pins σ (upd H s.heap.objs.size (.tup [.int i,x])) { s with heap:=h2,toks:=s.toks+1 }:=I.turnedT hf (fun b o hb e0=>hs2.extBut b o (fun z=>hb (by simp[z])) (hk b o (fun z=>hb (by simp[z])) (fun z=>hb (by simp[z])) e0)) (Nat.le_refl _) (wl hT2 ⟨_,rfl⟩ ru)
   refine⟨.ref s.heap.objs.size,_,I1,rfl,⟨_,x,I.hok.fresh (Nat.le_refl _),rfl,rfl,fun ys hy=>by rw[I.list_inj hy hq];exact hx⟩,⟨⟨u,by simpa using he2⟩,hit'.extBut hs2.extBut (Ne.symm hei)⟩,fun b hb=>?_⟩
   have hlt:b < s.heap.objs.size:=by
     rcases List.mem_cons.mp hb with rfl | hb
     · exact hel
     · rw[List.mem_singleton.mp hb];obtain⟨_,h3,_⟩:=hit;exact Heap.lt_size h3
   rw[ai (Nat.ne_of_lt hlt)]
   exact(hf b hb).1
 done:=by
   intro X hP hw hK hc i pins s σ H E I hf st hg
   subst hP hw hK
   obtain⟨xs,hq,hx⟩:=hg
   obtain⟨its,rv,p,hz⟩:=I.list hq
   obtain⟨⟨old,he⟩,hit⟩:=st
   have hl:=rv.length
   exact wpAny_pyNext_enum_end (I.ok.hd hc) he hit p.isList (by simp;omega) fun h' eb=>⟨rfl,I.turnedN hf (t':=s.toks) fun b o hb e0=>eb b o (fun z=>hb (by simp[z])) e0⟩
 self:=fun _ _ _ _ _ st h=>by
   obtain⟨⟨old,he⟩,_⟩:=st
   exact wpAny_pyIter_enum he h
def xl (K:PySem.W.Frag)(ta:TA):TI:=fun σ H R=>ta σ H fun vs H1=>∃ a,vs=[.ref a]∧(∃ xs,SqL K H1 a xs)∧R (Ite K a) H1
section
variable {X:Cx}
theorem wj {a:Expr}{ta:TA}{p pos:Pos}{elts:List Expr}{k:Nat}{tpos:Pos}(hg:Gl X "enumerate")(hm:X.mg "enumerate"=none)(ha:PA X [a] ta)(hs:starEach [a] X.env=[(false,eval a X.env)]:=by rfl) :
   PI X (.Tuple elts k tpos) (.Call (.Name "enumerate" p) [a] [] pos) (xl X.K ta):=by
 intro pins s σ H R I h
 refine Call_ (gR I hg hm (u:=.type "enumerate") (by decide +kernel) (PyProof.Rows.callWith_type1 (thn (ha pos s σ H _ I h) fun us s1 ⟨vs,H1,I1,r1,q1⟩=>?_) hs rfl))
 obtain⟨l,e,⟨xs,hq⟩,q⟩:=q1
 subst e
 obtain⟨u,rfl,e1⟩:=dq r1
 cases e1
 obtain⟨its,rv,pl,hz⟩:=I1.list hq
 refine call_enumerate_list pl.isList fun h' hE hI hsz hk=>wpAny_pyIter_enum hE ?_
 have I2:Inv X pins σ H1 { s1 with heap:=h' }:=I1.kept (t':=s1.toks) hk
 refine⟨s1.heap.objs.size+1,[s1.heap.objs.size+1,s1.heap.objs.size],_,_,H1,rfl,I2,sN l _ _ (Nat.succ_ne_self _),⟨⟨_,hE⟩,hI⟩,fun b hb=>?_,q⟩
 rcases List.mem_cons.mp hb with rfl | hb
 · exact I1.fpOk (Nat.le_succ _) (I1.hok.fresh (Nat.le_succ _))
 · rw[List.mem_singleton.mp hb];exact I1.fpOk (Nat.le_refl _) (I1.hok.fresh (Nat.le_refl _))
end
def Itz (K:PySem.W.Frag)(a b:Addr):It :=
 ⟨fun i H=>∃ xs x ys y,SqL K H a xs∧xs[i]?=some x∧SqL K H b ys∧ys[i]?=some y,fun i H v H'=>∃ T x y,H T=none∧v=.ref T∧H'=upd H T (.tup [x,y])∧(∀ xs,SqL K H a xs→xs[i]?=some x)∧∀ ys,SqL K H b ys→ys[i]?=some y,
   fun i H=>∃ xs ys,SqL K H a xs∧SqL K H b ys∧(xs.length≤i∨ys.length≤i)⟩
def yR (K:PySem.W.Frag)(ta:TA):TI:=fun σ H R=>ta σ H fun vs H1=>∃ a b,vs=[.ref a,.ref b]∧(∃ xs,SqL K H1 a xs)∧(∃ ys,SqL K H1 b ys)∧R (Itz K a b) H1
section
variable {X:Cx}
end
end L2

set_option Elab.async false
set_option linter.all false
set_option maxRecDepth 100000
set_option maxHeartbeats 8000000
namespace L2
open PySem PySem.Spec PyProof.Rows
theorem rY {K:PySem.W.Frag}{a:Addr}{H0:Hp}{xs:List V}{g:TG}{tb:TS}{D:iY}{σ:St}{H:Hp}(ha:SqL K H0 a xs)(Pv:Nat→St→Hp→Prop)(h0:Pv 0 σ H)(hsame:∀ i σ H,i≤xs.length→Pv i σ H→af H0 H)
   (hs:∀ i x T σ H,xs[i]?=some x→H T=none→Pv i σ H→∀ R:St→Hp→Prop,(∀ σ' H',Pv (i+1) σ' H'→R σ' H')→g (.ref T) σ (upd H T (.tup [.int i,x])) fun σ2 H2=>tb { D with nx:=R,ct:=R,bk:=D.nx } σ2 H2)(hd:∀ σ H,Pv xs.length σ H→D.nx σ H):uK (Ite K a) g tb D σ H:=by
 refine⟨fun i m σ H=>m=xs.length - i∧i≤xs.length∧Pv i σ H,⟨xs.length,by simp,Nat.zero_le _,h0⟩,?_⟩
 rintro i m σ H ⟨rfl,hi,p⟩
 have sm:=hsame i σ H hi p
 by_cases hlt:i < xs.length
 · refine .inr ⟨⟨xs,xs[i],sm.seq ha,List.getElem?_eq_getElem hlt⟩,Pv (i+1),fun σ' H' p'=>⟨xs.length - (i+1),by omega,rfl,hlt,p'⟩,?_⟩
   rintro v H' ⟨T,x1,hT,rfl,rfl,e1⟩
   exact hs i x1 T σ H (e1 xs (sm.seq ha)) hT p _ fun _ _ z=>z
 · have e:i=xs.length:=by omega
   subst e
   exact .inl ⟨⟨xs,sm.seq ha,Nat.le_refl _⟩,hd σ H p⟩
end L2

set_option Elab.async false
set_option linter.all false
set_option maxRecDepth 100000
set_option maxHeartbeats 8000000
namespace L2
open PySem PySem.Spec PyProof.Rows
section
variable {X:Cx}
end
end L2

set_option Elab.async false
set_option linter.all false
set_option maxRecDepth 100000
set_option maxHeartbeats 8000000
namespace L2
open PySem PySem.Spec PyProof.Rows

/-! ### a set's table: its places rise -/
def Up (xs:Array Nat):Prop:=xs.toList.Pairwise (· < ·)
theorem Up.lt {xs:Array Nat}(u:Up xs){i k:Nat}(h:i < k)(hk:k < xs.size):xs.getD i 0 < xs.getD k 0:=by
 have:=(List.pairwise_iff_getElem.mp u) i k (by rw[Array.length_toList];omega) (by rw[Array.length_toList];exact hk) h
 simp only[Array.getElem_toList] at this
 rw[Array.getD_eq_getD_getElem?,Array.getD_eq_getD_getElem?,Array.getElem?_eq_getElem (by omega),Array.getElem?_eq_getElem hk]
 exact this
theorem Up.le {xs:Array Nat}(u:Up xs){i k:Nat}(h:i≤k)(hk:k < xs.size):xs.getD i 0≤xs.getD k 0:=by
 rcases Nat.lt_or_eq_of_le h with h | h
 · exact Nat.le_of_lt (u.lt h hk)
 · rw[h];exact Nat.le_refl _
theorem ku {xs:Array Nat}(u:Up xs) (j:Nat):∀ fuel lo hi,hi≤xs.size→lo≤hi→hi - lo≤fuel→(∀ i,i < lo→xs.getD i 0 < j)→(∀ i,hi≤i→i < xs.size→j≤xs.getD i 0) →
   SetTable.below.go xs j fuel lo hi≤xs.size∧(∀ i,i < SetTable.below.go xs j fuel lo hi→xs.getD i 0 < j)∧∀ i,SetTable.below.go xs j fuel lo hi≤i→i < xs.size→j≤xs.getD i 0
 | 0,lo,hi,h1,h2,h3,h4,h5=>by
   have e:lo=hi:=by omega
   subst e
   exact⟨h1,h4,h5⟩
 | fuel+1,lo,hi,h1,h2,h3,h4,h5=>by
   show(if lo < hi then _ else lo)≤_∧(∀ i,i < (if lo < hi then _ else lo)→_)∧∀ i,(if lo < hi then _ else lo)≤i→_
   by_cases hl:lo < hi
   · rw[if_pos hl]
     dsimp only
     by_cases hm:xs.getD ((lo+hi) / 2) j < j
     · rw[if_pos hm]
       have hm':xs.getD ((lo+hi) / 2) 0 < j:=by
         have hlt:(lo+hi) / 2 < xs.size:=by omega
         simp only[Array.getD_eq_getD_getElem?,Array.getElem?_eq_getElem hlt] at hm ⊢
         exact hm
       exact ku u j fuel _ hi h1 (by omega) (by omega) (fun i hi'=>Nat.lt_of_le_of_lt (u.le (by omega) (by omega)) hm') h5
     · rw[if_neg hm]
       have hm':j≤xs.getD ((lo+hi) / 2) 0:=by
         have hlt:(lo+hi) / 2 < xs.size:=by omega
         simp only[Array.getD_eq_getD_getElem?,Array.getElem?_eq_getElem hlt] at hm ⊢
         simpa using hm
       exact ku u j fuel lo _ (by omega) (by omega) (by omega) h4 fun i a b=>Nat.le_trans hm' (u.le a b)
   · rw[if_neg hl]
     have e:lo=hi:=by omega
     subst e
     exact⟨h1,h4,h5⟩
theorem ox {xs:Array Nat}(u:Up xs) (j:Nat):SetTable.below xs j≤xs.size∧(∀ i,i < SetTable.below xs j→xs.getD i 0 < j)∧∀ i,SetTable.below xs j≤i→i < xs.size→j≤xs.getD i 0 :=
 ku u j xs.size 0 xs.size (Nat.le_refl _) (Nat.zero_le _) (by omega) (fun _ h=>absurd h (Nat.not_lt_zero _)) (fun i a b=>absurd b (by omega))
theorem sf {xs:Array Nat}(u:Up xs){j:Nat}(hj:xs[SetTable.below xs j]?≠some j):Up (SetTable.insertAt xs (SetTable.below xs j) j):=by
 unfold Up
 rw[SetTable.toList_insertAt]
 obtain⟨h1,h2,h3⟩:=ox u j
 have g:∀ i (h:i < xs.toList.length),xs.toList[i]=xs.getD i 0:=fun i h=>by
   rw[Array.getD_eq_getD_getElem?,Array.getElem?_eq_getElem (by simpa using h)];simp
 have a1:∀ x∈xs.toList.take (SetTable.below xs j),x < j:=by
   intro x hx
   obtain⟨i,hi,e⟩:=List.mem_iff_getElem.mp hx
   rw[List.length_take] at hi
   rw[List.getElem_take,g i (by omega)] at e
   rw[←e]
   exact h2 i (by omega)
 have a2:∀ x∈xs.toList.drop (SetTable.below xs j),j < x:=by
   intro x hx
   obtain⟨i,hi,e⟩:=List.mem_iff_getElem.mp hx
   rw[List.length_drop] at hi
   rw[List.getElem_drop,g _ (by omega)] at e
   rw[←e]
   rw[Array.length_toList] at hi
   have b1:=h3 (SetTable.below xs j) (Nat.le_refl _) (by omega)
   have b2:xs.getD (SetTable.below xs j) 0≠j:=by
     intro z
     rw[Array.getD_eq_getD_getElem?,Array.getElem?_eq_getElem (by omega)] at z
     rw[Array.getElem?_eq_getElem (by omega)] at hj
     exact hj (congrArg some z)
   exact Nat.lt_of_lt_of_le (Nat.lt_of_le_of_ne b1 (Ne.symm b2)) (u.le (by omega) (by omega))
 have uu:(xs.toList.take (SetTable.below xs j)++xs.toList.drop (SetTable.below xs j)).Pairwise (· < ·):=by rw[List.take_append_drop];exact u
 rw[List.pairwise_append] at uu ⊢
 refine⟨uu.1,List.pairwise_cons.mpr ⟨a2,uu.2.1⟩,fun a ha b hb=>?_⟩
 rcases List.mem_cons.mp hb with rfl | hb
 · exact a1 a ha
 · exact uu.2.2 a ha b hb
theorem ir (n:Nat):Up (Array.range n):=by
 unfold Up
 rw[Array.toList_range]
 exact List.pairwise_lt_range
theorem jR (t:SetTable)(ha:Nat→Int) (h:Int):∀ (fuel:Nat)(p:SetTable.Probe) (j:Nat)(dm:Option Nat),(∀ d,p.dummy=some d→t.slot d=.dummy)→SetTable.probe.go t ha h fuel p=some (.empty j dm)→t.slot j=.empty∧∀ d,dm=some d→t.slot d=.dummy
 | 0,_,_,_,_,e=>by cases e
 | fuel+1,p,j,dm,hp,e=>by
   have adv:∀ q:SetTable.Probe,(t.advance q).dummy=q.dummy:=fun q=>by unfold SetTable.advance;split<;>rfl
   unfold SetTable.probe.go at e
   cases hs:t.slot p.j with
   | empty =>
     rw[hs] at e
     simp only[Option.some.injEq,SetTable.Met.empty.injEq] at e
     obtain⟨rfl,rfl⟩:=e
     exact⟨hs,hp⟩
   | dummy =>
     rw[hs] at e
     refine jR t ha h fuel _ j dm (fun d hd=>?_) e
     rw[adv] at hd
     cases hd
     exact hs
   | live i =>
     rw[hs] at e
     dsimp only at e
     by_cases hc:(ha i==h)=true
     · rw[if_pos hc] at e;cases e
     · rw[if_neg hc] at e
       exact jR t ha h fuel _ j dm (fun d hd=>by rw[adv] at hd;exact hp d hd) e
theorem mn {t:SetTable}{j:Nat}(h:t.slot j=.empty∨t.slot j=.dummy):t.place[SetTable.below t.place j]?≠some j:=by
 intro z
 unfold SetTable.slot at h
 dsimp only at h
 rw[z] at h
 simp at h
theorem sW {t:SetTable}{h:Int}{j:Nat}{b:Bool}(e:t.freeSlot h=some (j,b)):t.place[SetTable.below t.place j]?≠some j:=by
 unfold SetTable.freeSlot at e
 cases hp:t.probe (fun _=>h+1) h (t.probeStart h) with
 | none=>rw[hp] at e;cases e
 | some m =>
   rw[hp] at e
   cases m with
   | candidate a b c=>cases e
   | empty j' dm =>
     obtain⟨h1,h2⟩:=jR t _ h _ _ j' dm (fun d hd=>by cases hd) hp
     simp only[Option.some.injEq,Prod.mk.injEq] at e
     cases dm with
     | none=>simp only[Option.getD_none] at e;rw[←e.1];exact mn (.inl h1)
     | some d=>simp only[Option.getD_some] at e;rw[←e.1];exact mn (.inr (h2 d rfl))
theorem m9 {t:SetTable} (n:Nat)(u:Up t.place):Up (t.orStandIn n).place:=by
 unfold SetTable.orStandIn
 split
 · exact u
 · exact ir n
theorem ln {t:SetTable} (n:Nat):(t.orStandIn n).led=t.led:=by
 unfold SetTable.orStandIn
 split<;>rfl
theorem tq {t:SetTable}(es:Array (Int×Value)) (h:Int) (x:Value)(u:Up t.place):Up (layNew t es h x).2.1.place∧(layNew t es h x).2.1.led=t.led:=by
 unfold layNew
 split
 · rename_i j b e
   exact⟨m9 _ (sf u (sW e)),ln _⟩
 · exact⟨ir _,rfl⟩
theorem wH {mask finger moves:Nat}{led plain:Bool}{hs:Array Int}{t:SetTable}{o:Array Nat}(e:SetTable.laid mask finger moves led plain hs=some (t,o)):Up t.place∧t.led=led:=by
 unfold SetTable.laid at e
 cases hl:SetTable.layClean mask hs with
 | none=>rw[hl] at e;cases e
 | some ow =>
   rw[hl] at e
   simp only[Option.bind_eq_bind,Option.bind_some,Option.pure_def,Option.some.injEq,Prod.mk.injEq] at e
   obtain⟨rfl,_⟩:=e
   refine⟨?_,rfl⟩
   unfold Up
   simp only[List.toList_toArray]
   rw[List.pairwise_map,List.pairwise_filterMap]
   refine List.pairwise_lt_range.imp ?_
   intro a b hab x hx y hy
   obtain⟨_,_,rfl⟩:=Option.map_eq_some_iff.mp hx
   obtain⟨_,_,rfl⟩:=Option.map_eq_some_iff.mp hy
   exact hab
theorem nD {t:SetTable}(es:Array (Int×Value)) (wanted:Nat):Up (relayAll t es wanted).2.1.place∧(relayAll t es wanted).2.1.led=t.led:=by
 unfold relayAll
 split
 · rename_i t' o e
   dsimp only
   split
   · exact wH e
   · exact⟨ir _,rfl⟩
 · exact⟨ir _,rfl⟩
end L2

set_option Elab.async false
set_option linter.all false
set_option maxRecDepth 100000
set_option maxHeartbeats 8000000
namespace L2
open PySem PySem.Spec PyProof.Rows
section
variable {prog:Program}{w:World}{K:Type} [DecidableEq K](knd:KeyKind prog w K)
def cZ (led:Bool)(h:Heap)(a:Addr)(S:K→Bool) (n:Nat):Prop :=
 ∃ o es ep t,h.get? a=some o∧o.ExactSet∧o.data=.set es ep t∧ElemsOf knd es.toList∧(∀ k,S k=true↔∃ e∈es.toList,knd.is k e.2=true)∧es.size < scanBound∧t.fits es.size=true∧es.size=n∧Up t.place∧t.led=led
variable {knd}
theorem cZ.congr {led:Bool}{h:Heap}{a:Addr}{S S':K→Bool}{n n':Nat}(x:cZ knd led h a S n)(e:∀ k,S k=S' k)(en:n=n'):cZ knd led h a S' n':=by
 obtain⟨o,es,ep,t,h1,h2,h3,h4,h5,r⟩:=x
 subst en
 exact⟨o,es,ep,t,h1,h2,h3,h4,fun k=>by rw[←e k];exact h5 k,r⟩
theorem cZ.at_ {led:Bool}{h h':Heap}{a:Addr}{S:K→Bool}{n:Nat}(x:cZ knd led h a S n)(k:∀ o,h.get? a=some o→h'.get? a=some o):cZ knd led h' a S n:=by
 obtain⟨o,es,ep,t,ho,r⟩:=x
 exact⟨o,es,ep,t,k _ ho,r⟩
theorem kM {h:Heap}{a:Addr}{o:Obj}{es:Array (Int×Value)}{ep:Nat}{t:SetTable}(ho:h.get? a=some o)(hex:o.ExactSet)(hd:o.data=.set es ep t)
   {es':Array (Int×Value)}{t':SetTable}{S':K→Bool}(hel:ElemsOf knd es'.toList)(hmem:∀ k,S' k=true↔∃ e∈es'.toList,knd.is k e.2=true)(hb:es'.size < scanBound)(hf:t'.fits es'.size=true)(hu:Up t'.place){led:Bool}(hl:t'.led=led) :
   (h.update a (Obj.putSet es' t')).get? a=some { o with data:=.set es' (ep+1) t' }∧cZ knd led (h.update a (Obj.putSet es' t')) a S' es'.size:=by
 obtain⟨h1,_⟩:=SetOf_store (knd:=knd) ho hex hd hel hmem hb hf
 exact⟨h1,_,es',ep+1,t',h1,hex,rfl,hel,hmem,hb,hf,rfl,hu,hl⟩
variable {A:Around}{E:Value→Shared→Prop}{s:Shared}

theorem dZ {a:Addr}{o:Obj}{es es1:Array (Int×Value)}{ep:Nat}{t t2:SetTable}{S':K→Bool}{led:Bool}{c:Bool}{gave:Bool→Sem Unit}(hgave:∀ b,(∃ r,gave b=rule r)∨gave b=pure ())
   (ho:s.heap.get? a=some o)(hex:o.ExactSet)(hd:o.data=.set es ep t)(el:ElemsOf knd es1.toList)(mm:∀ k,S' k=true↔∃ e∈es1.toList,knd.is k e.2=true)(hb:es1.size < scanBound)(hf:t2.fits es1.size=true)(hu:Up t2.place)(hl:t2.led=led)
   {R:Option Bool→Shared→Prop}(q:∀ h',Heap.SameBut a s.heap h'→cZ knd led h' a S' es1.size→R (some true) { s with heap:=h' }) :
   wpAny (model prog w) A (storeSet a es1 t2 >>= fun _=>if c=true then(gave (relayAll t2 es1 (SetTable.grown es1.size)).2.2 >>= fun _=>storeSet a (relayAll t2 es1 (SetTable.grown es1.size)).1 (relayAll t2 es1 (SetTable.grown es1.size)).2.1 >>= fun _=>pure (some true)) else pure (some true)) R E s:=by
 have st1:=kM (knd:=knd) ho hex hd el mm hb hf hu hl
 have sb1:=Heap.SameBut.update s.heap a (Obj.putSet es1 t2)
 refine wpAny_bind (wpAny_storeSet_of ho hd ?_ (fits_of_scanBound hb))
 by_cases e:c=true
 rotate_left
 · rw[if_neg e]
   exact wpAny_pure (q _ sb1 st1.2)
 rw[if_pos e]
 have pr:=relayAll_perm t2 es1 (SetTable.grown es1.size)
 have sz:(relayAll t2 es1 (SetTable.grown es1.size)).1.size=es1.size:=by simpa using pr.length_eq
 have ur:=nD (t:=t2) es1 (SetTable.grown es1.size)
 have st2:=kM (knd:=knd) (S':=S') st1.1 hex rfl (el.perm pr) (fun k=>by rw[mm k];exact exists_congr fun e=>and_congr_left fun _=>pr.mem_iff.symm) (by rw[sz];exact hb) (relayAll_fits t2 es1 (SetTable.grown es1.size)) ur.1 (ur.2.trans hl)
 rw[sz] at st2
 have on:wpAny (model prog w) A (storeSet a (relayAll t2 es1 (SetTable.grown es1.size)).1 (relayAll t2 es1 (SetTable.grown es1.size)).2.1 >>= fun _=>pure (some true)) R E { s with heap:=s.heap.update a (Obj.putSet es1 t2) } :=
   wpAny_bind (wpAny_storeSet_of st1.1 rfl (wpAny_pure (q _ (sb1.trans (Heap.SameBut.update _ a _)) st2.2)) (fits_of_scanBound (by rw[sz];exact hb)))
 rcases hgave (relayAll t2 es1 (SetTable.grown es1.size)).2.2 with ⟨r,e⟩ | e
 · rw[e];exact wpAny_bind (wpAny_rule on)
 · rw[e];exact wpAny_bind (wpAny_pure on)
theorem vX {a:Addr}{S:K→Bool}{n:Nat}{k:K}{x:Value}{led:Bool}{Q:Bool→Shared→Prop}(hk:knd.is k x=true)(hx:x.scannable=true)(hS:cZ knd led s.heap a S n)(room:n+1 < scanBound)
   (q:∀ h',Heap.SameBut a s.heap h'→cZ knd led h' a (fun y=>S y||decide (y=k)) (if S k then n else n+1)→Q (!S k) { s with heap:=h' }):wpAny (model prog w) A (setAddHashed a x (knd.hash k)) Q E s:=by
 have hS0:=hS
 obtain⟨o,es,ep,t,ho,hex,hd,el,mm,hb,hf,rfl,hu,hl⟩:=hS
 unfold setAddHashed setAddHashedIn setAddByScan
 refine wpAny_holding (wpAny_bind (wpAny_setState_of ho hd hf ?_))
 dsimp only
 rw[if_pos (byScan_of hx hb el)]
 refine wpAny_bind (wpAny_bind (wpAny_rule (wpAny_bind (wpAny_setScan_of hk ho hd hf el ?_))))
 cases hr:List.findIdx? (fun e=>knd.is k e.2) es.toList with
 | none =>
   have no:S k=false:=by
     refine Bool.eq_false_iff.mpr fun yes=>?_
     obtain⟨e,he,ie⟩:=(mm k).mp yes
     exact absurd ie (Bool.eq_false_iff.mp (List.findIdx?_eq_none_iff.mp hr e he))
   have pr:List.Perm (layNew t es (knd.hash k) x).1.toList (es.toList++[(knd.hash k,x)]):=by rw[←Array.toList_push];exact layNew_perm t es (knd.hash k) x
   have fi:=layNew_fits t es (knd.hash k) x
   have up:=tq (t:=t) es (knd.hash k) x hu
   have sz:(layNew t es (knd.hash k) x).1.size=es.size+1:=by simpa using pr.length_eq
   generalize layNew t es (knd.hash k) x=L at pr fi up sz ⊢
   obtain⟨es1,t1,wd,gv⟩:=L
   dsimp only at pr fi up sz ⊢
   have fin:∀ h',Heap.SameBut a s.heap h'→cZ knd led h' a (fun y=>S y||decide (y=k)) es1.size→Q true { s with heap:=h' }:=fun h' sb st=>by
     rw[sz] at st
     have:=q h' sb
     rw[no] at this
     exact this st
   cases gv<;>cases e:t1.plain
   · refine wpAny_bind (wpAny_pure ?_)
     rw[if_neg Bool.false_ne_true]
     refine wpAny_bind (wpAny_pure ?_)
     refine dZ (led:=led) (fun c=>by cases c;exact .inr rfl;exact .inl ⟨_,rfl⟩) ho hex hd ((el.push hk hx).perm pr) (mem_push_iff hk mm pr) (by rw[sz];exact room) (by first | exact fi | (split;exact fi;exact SetTable.fits_plain_off fi)) (by first | exact up.1 | (split<;>exact up.1)) (by first | exact up.2.trans hl | (split<;>exact up.2.trans hl)) fun h' sb st=>wpAny_pure (fin h' sb st)
   · refine wpAny_bind (wpAny_pure ?_)
     rw[if_pos rfl,hashByValue_scannable 8 hx]
     refine wpAny_bind (wpAny_pure ?_)
     refine dZ (led:=led) (fun c=>by cases c;exact .inr rfl;exact .inl ⟨_,rfl⟩) ho hex hd ((el.push hk hx).perm pr) (mem_push_iff hk mm pr) (by rw[sz];exact room) (by first | exact fi | (split;exact fi;exact SetTable.fits_plain_off fi)) (by first | exact up.1 | (split<;>exact up.1)) (by first | exact up.2.trans hl | (split<;>exact up.2.trans hl)) fun h' sb st=>wpAny_pure (fin h' sb st)
   · refine wpAny_bind (wpAny_rule ?_)
     rw[if_neg Bool.false_ne_true]
     refine wpAny_bind (wpAny_pure ?_)
     refine dZ (led:=led) (fun c=>by cases c;exact .inr rfl;exact .inl ⟨_,rfl⟩) ho hex hd ((el.push hk hx).perm pr) (mem_push_iff hk mm pr) (by rw[sz];exact room) (by first | exact fi | (split;exact fi;exact SetTable.fits_plain_off fi)) (by first | exact up.1 | (split<;>exact up.1)) (by first | exact up.2.trans hl | (split<;>exact up.2.trans hl)) fun h' sb st=>wpAny_pure (fin h' sb st)
   · refine wpAny_bind (wpAny_rule ?_)
     rw[if_pos rfl,hashByValue_scannable 8 hx]
     refine wpAny_bind (wpAny_pure ?_)
     refine dZ (led:=led) (fun c=>by cases c;exact .inr rfl;exact .inl ⟨_,rfl⟩) ho hex hd ((el.push hk hx).perm pr) (mem_push_iff hk mm pr) (by rw[sz];exact room) (by first | exact fi | (split;exact fi;exact SetTable.fits_plain_off fi)) (by first | exact up.1 | (split<;>exact up.1)) (by first | exact up.2.trans hl | (split<;>exact up.2.trans hl)) fun h' sb st=>wpAny_pure (fin h' sb st)
 | some j =>
   obtain⟨hj,ij,_⟩:=List.findIdx?_eq_some_iff_getElem.mp hr
   have yes:S k=true:=(mm k).mpr ⟨_,List.getElem_mem hj,ij⟩
   refine wpAny_pure (wpAny_pure ?_)
   have:=q s.heap (Heap.SameBut.refl a s.heap)
   rw[yes] at this
   refine this (hS0.congr (fun y=>?_) rfl)
   by_cases hy:y=k
   · subst hy;rw[yes];rfl
   · simp[hy]
end
end L2

set_option Elab.async false
set_option linter.all false
set_option maxRecDepth 100000
set_option maxHeartbeats 8000000
namespace L2
open PySem PySem.Spec PyProof.Rows
section
variable {K:Type} [DecidableEq K]
def iM (acc:List K)(x:K):List K:=if x∈acc then acc else acc++[x]
def dk (l:List K):List K:=l.foldl iM []
theorem lx (l:List K)(x:K):dk (l++[x])=iM (dk l) x:=by unfold dk;rw[List.foldl_append];rfl
theorem ua (acc:List K)(x:K):(iM acc x).length≤acc.length+1:=by unfold iM;split<;>simp
theorem eX (l:List K):∀ i,(dk (l.take i)).length≤i
 | 0=>by simp[dk]
 | i+1=>by
   have ih:=eX l i
   cases h:l[i]? with
   | none =>
     have:l.length≤i:=List.getElem?_eq_none_iff.mp h
     rw[List.take_of_length_le (by omega)]
     rw[List.take_of_length_le this] at ih
     omega
   | some x =>
     rw[List.take_succ,h]
     show(dk (l.take i++[x])).length≤i+1
     rw[lx]
     have:=ua (dk (l.take i)) x
     omega
theorem u6 (l:List K):(dk l).length≤l.length:=by
 have:=eX l l.length
 rwa [List.take_length] at this
theorem g7 (l:List K):(dk l).Nodup:=by
 suffices ∀ (l acc:List K),acc.Nodup→(l.foldl iM acc).Nodup from this l [] .nil
 intro l
 induction l with
 | nil=>exact fun _ h=>h
 | cons x l ih =>
   intro acc h
   refine ih _ ?_
   unfold iM
   split
   · exact h
   · rename_i hx
     exact List.nodup_append.mpr ⟨h,by simp,fun a ha b hb=>by rw[List.mem_singleton.mp hb];exact fun e=>hx (e▸ha)⟩
theorem pw (l:List K)(x:K):x∈dk l↔x∈l:=by
 suffices ∀ (l acc:List K),x∈l.foldl iM acc↔x∈acc∨x∈l by have:=this l [];simpa [dk] using this
 intro l
 induction l with
 | nil=>intro acc;simp
 | cons y l ih =>
   intro acc
   rw[List.foldl_cons,ih]
   unfold iM
   by_cases hy:y∈acc
   · rw[if_pos hy]
     constructor
     · rintro(h | h)
       · exact .inl h
       · exact .inr (.tail _ h)
     · rintro(h | h)
       · exact .inl h
       · rcases List.mem_cons.mp h with rfl | h
         · exact .inl hy
         · exact .inr h
   · rw[if_neg hy,List.mem_append,List.mem_singleton,List.mem_cons]
     constructor
     · rintro((h | h) | h)
       · exact .inl h
       · exact .inr (.inl h)
       · exact .inr (.inr h)
     · rintro(h | h | h)
       · exact .inl (.inl h)
       · exact .inl (.inr h)
       · exact .inr h
def m4 {prog:Program}{w:World}(knd:KeyKind prog w K)(items:Array Value)(ks:List K):Prop:=items.size=ks.length∧∀ (i:Nat)(k:K),ks[i]?=some k→∃ v,items[i]?=some v∧knd.is k v=true∧v.scannable=true
end

section
variable {prog:Program}{w:World}{K:Type} [DecidableEq K]{knd:KeyKind prog w K}{led:Bool}
theorem tE {h:Heap}{S:Addr}{acc:List K}{x:K}(hs:cZ knd led h S (fun k=>decide (k∈acc)||decide (k=x)) (if decide (x∈acc)=true then acc.length else acc.length+1)) :
   cZ knd led h S (fun k=>decide (k∈iM acc x)) (iM acc x).length:=by
 refine cZ.congr hs (fun k=>?_) ?_
 · unfold iM
   by_cases hx:x∈acc
   · rw[if_pos hx]
     by_cases hk:k=x
     · subst hk;simp[hx]
     · simp[hk]
   · rw[if_neg hx]
     rw[Bool.eq_iff_iff]
     simp
 · unfold iM
   by_cases hx:x∈acc
   · rw[if_pos hx,if_pos (by simpa using hx)]
   · rw[if_neg hx,if_neg (by simpa using hx),List.length_append];rfl

theorem sU {A:Around}{R:Result→Shared→Prop}{I S l:Addr}{items:Array Value}{ss:List K}(hh:A.in1.handled=none)(hIl:l≠I)(hSI:S≠I)(hSl:S≠l)(hss:m4 knd items ss)(hb:items.size+1 < scanBound) :
   ∀ (k i:Nat)(s:Shared),items.size - i=k→i≤items.size→s.heap.IsListIter I l i→s.heap.IsList l items→cZ knd led s.heap S (fun x=>decide (x∈dk (ss.take i))) (dk (ss.take i)).length →
     (∀ h' tk,(∀ b o,b≠S→b≠I→s.heap.get? b=some o→h'.get? b=some o)→cZ knd led h' S (fun x=>decide (x∈dk ss)) (dk ss).length→R (.ok (.ret .none)) { s with heap:=h',toks:=tk }) →
     codeAny (model prog w) A (.builtin "set.update.loop" ⟨[.ref S,.ref I],[]⟩) R s:=by
 have hlen:items.size=ss.length:=hss.1
 intro k
 induction k with
 | zero =>
   intro i s hk hi hit hl hS hR
   have e:i=items.size:=by omega
   subst e
   refine codeAny_builtin PyProof.Rows.F.entry_set_update_loop ?_
   rw[Around.under_plainId PyProof.Rows.F.plain_set_update_loop _]
   refine wpAny_bind (wpAny_pyNext_list_end hh hit hl (by simp) fun h' eb=>?_)
   rw[hlen,List.take_length] at hS
   refine wpAny_pure (hR h' s.toks (fun b o _ hb e=>eb b o hb e) ?_)
   obtain⟨o,es,ep,t,ho,cf⟩:=hS
   exact⟨o,es,ep,t,eb S o hSI ho,cf⟩
 | succ k ih =>
   intro i s hk hi hit hl hS hR
   have hlt:i < items.size:=by omega
   obtain⟨x,hx⟩:∃ x,ss[i]?=some x:=⟨ss[i]'(by omega),List.getElem?_eq_getElem (by omega)⟩
   obtain⟨v,ht,hv,hsc⟩:=hss.2 i x hx
   refine codeAny_builtin PyProof.Rows.F.entry_set_update_loop ?_
   rw[Around.under_plainId PyProof.Rows.F.plain_set_update_loop _]
   refine wpAny_bind (wpAny_pyNext_list_item hit hl ht fun h' hit' sb=>?_)
   have hS':cZ knd led h' S (fun x=>decide (x∈dk (ss.take i))) (dk (ss.take i)).length:=by
     obtain⟨o,es,ep,tb,ho,cf⟩:=hS
     exact⟨o,es,ep,tb,(sb.2 S hSI).trans ho,cf⟩
   show wpAny _ A.in1 (holding [v] (setAdd S (v)) >>= _) _ _ _
   refine wpAny_bind (wpAny_holding ?_)
   unfold setAdd
   refine wpAny_holding (wpAny_bind (knd.pyHash (k:=x) hv ?_))
   have hroom:(dk (ss.take i)).length+1 < scanBound:=by have:=eX ss i;omega
   refine vX (knd:=knd) hv hsc hS' hroom fun h2 hsb hS2=>?_
   have hS3:=tE hS2
   have et:dk (ss.take (i+1))=iM (dk (ss.take i)) x:=by rw[List.take_succ,hx];exact lx _ _
   rw[←et] at hS3
   refine wpAny_pure ⟨plainId_quiet PyProof.Rows.F.plain_set_update_loop _,ih (i+1) _ (by omega) hlt ?_ ?_ hS3 fun h3 tk kk hS4=>?_⟩
   · exact hit'.at fun o e=>(hsb.2 I (Ne.symm hSI)).trans e
   · exact hl.at fun o e=>(hsb.2 l (Ne.symm hSl)).trans ((sb.2 l hIl).trans e)
   · exact hR h3 tk (fun b o h1 h2' e=>kk b o h1 h2' ((hsb.2 b h1).trans ((sb.2 b h2').trans e))) hS4
end
end L2

set_option Elab.async false
set_option linter.all false
set_option maxRecDepth 100000
set_option maxHeartbeats 8000000
namespace L2
open PySem PySem.Spec PyProof.Rows
def eQ (w:World):Bool:=!w.params.followText "set-order"
section
variable {prog:Program}{w:World}{A:Around}{E:Value→Shared→Prop}{s:Shared}
theorem jy (a:Value){G:Value→Shared→Prop}(g:G (.ref s.heap.objs.size) { s with heap:=s.heap.push { cls:=.type "set",dict:=none,data:=.set #[] 0 (.fresh 0 0 (eQ w)) } }) :
   codeAny (model prog w) A (.call (.builtin "set.__new__") ⟨[.type "set",a],[]⟩) (wants G E) s:=by
 have made:wpAny (model prog w) A.in1 (Builtin.«set.__new__» ⟨[.type "set",a],[]⟩) (fun fin s'=>match fin with | .done f=>wants G E (.ok f) s' | .again c=>c.quiet=true∧codeAny (model prog w) A.in1 c (wants G E) s') (fun e s'=>wants G E (.error e) s') s:=by
   have up:=sub_set_self
   obtain⟨hp,gs,d,tk,os⟩:=s
   unfold Builtin.«set.__new__» Builtin.Frozenset.newClass
   dsimp only
   wp_walk
   refine wpAny_askSetting (wpAny_pure ?_)
   simp only[newObj]
   exact wpAny_bind (wpAny_alloc (wpAny_pure (wpAny_pure g)))
 refine codeAny_of_tree (wpAny_bind (wpAny_of_eq (F.newCall_set_1 a) (wpAny_pure ⟨plainId_quiet F.plain_set_new _,?_⟩)))
 refine codeAny_builtin F.entry_set_new ?_
 rw[Around.under_plainId F.plain_set_new _]
 exact made

theorem tu {K:Type} [DecidableEq K]{knd:KeyKind prog w K}{l:Addr}{items:Array Value}{ss:List K}{Q:Value→Shared→Prop}(hh:A.handled=none)(hl:s.heap.IsList l items)(hss:m4 knd items ss)(hb:items.size+1 < scanBound)
   (h:∀ h' tk,(∀ b o,s.heap.get? b=some o→h'.get? b=some o)→cZ knd (eQ w) h' s.heap.objs.size (fun x=>decide (x∈dk ss)) (dk ss).length→Q (.ref s.heap.objs.size) { s with heap:=h',toks:=tk }) :
   wpAny (model prog w) A (call (.type "set") [.ref l]) Q E s:=by
 refine lM (Q1:=fun obj s1=>∃ led:Bool,led=eQ w∧obj=.ref s.heap.objs.size∧s1={ s with heap:=s.heap.push { cls:=.type "set",dict:=none,data:=.set #[] 0 (.fresh 0 0 led) } }) F.called_set (F.typeCall_set_1 _) F.entry_set_init (jy (.ref l) ⟨eQ w,rfl,rfl,rfl⟩) ?_ ?_
 · rintro obj s1 ⟨led,hled,rfl,rfl⟩
   have hT:Shared.TypeIs { s with heap:=s.heap.push { cls:=.type "set",dict:=none,data:=.set #[] 0 (.fresh 0 0 led) } } (.ref s.heap.objs.size) "set":=⟨_,Heap.get?_push_size _ rfl,rfl⟩
   exact⟨hT,fun E'=>check_set_init_1 hT rfl⟩
 · rintro obj s1 ⟨led,hled,rfl,rfl⟩
   have hlt:l < s.heap.objs.size:=by obtain⟨_,e,_⟩:=hl;exact Heap.lt_size e
   obtain⟨⟨oc,od,odt,osl⟩,hol,hcl,nl,hdl⟩:=id hl
   simp only at hcl hdl
   subst hcl;subst hdl
   have hol':(s.heap.push { cls:=.type "set",dict:=none,data:=.set #[] 0 (.fresh 0 0 led) }).get? l=some { cls:=.type "list",dict:=od,data:=.seq items nl,slots:=osl }:=Heap.get?_push_of_some _ hol
   have hS:(s.heap.push { cls:=.type "set",dict:=none,data:=.set #[] 0 (.fresh 0 0 led) }).get? s.heap.objs.size=some { cls:=.type "set",dict:=none,data:=.set #[] 0 (.fresh 0 0 led) }:=Heap.get?_push_size _ rfl
   have hl1:(s.heap.push { cls:=.type "set",dict:=none,data:=.set #[] 0 (.fresh 0 0 led) }).IsList l items:=⟨_,hol',rfl,nl,rfl⟩
   have hsls:=F.sub_list_set;have hslf:=F.sub_list_frozenset
   have hne:(Value.type "list"==Value.type "dict")=false:=by decide
   unfold Builtin.«set.__init__» noKeywords Builtin.Frozenset.updateFrom
   generalize hPI:pyIter=PI
   wp_walk
   subst hPI
   refine wpAny_pyIter_list hl1 (wpAny_bind (wpAny_runValue ?_))
   have hz:(s.heap.push { cls:=.type "set",dict:=none,data:=.set #[] 0 (.fresh 0 0 led) }).objs.size=s.heap.objs.size+1:=Heap.size_push ..
   refine sU (knd:=knd) (led:=led) (l:=l) (items:=items) (ss:=ss) (by simp[hh]) (by rw[hz];exact Nat.ne_of_lt (Nat.lt_succ_of_lt hlt)) (by rw[hz];exact Nat.ne_of_lt (Nat.lt_succ_self _)) (Nat.ne_of_gt hlt) hss hb (items.size - 0) 0 _ (by omega) (Nat.zero_le _) ⟨_,Heap.get?_push_size _ rfl,rfl,rfl⟩ (hl1.push _) ?_ ?_
   · exact⟨_,#[],0,_,Heap.get?_push_of_some _ hS,⟨rfl,rfl,rfl⟩,rfl,fun e he=>by simp at he,fun k=>by simp[dk],by decide,by rfl,rfl,List.Pairwise.nil,rfl⟩
   · intro h' tk kk hS'
     subst hled
     refine wpAny_pure (wpAny_pure ⟨rfl,h h' tk (fun b o e=>?_) hS'⟩)
     have hlb:=Heap.lt_size e
     exact kk b o (Nat.ne_of_lt hlb) (by rw[hz];exact Nat.ne_of_lt (Nat.lt_succ_of_lt hlb)) (Heap.get?_push_of_some _ (Heap.get?_push_of_some _ e))
end
end L2

set_option Elab.async false
set_option linter.all false
set_option maxRecDepth 100000
set_option maxHeartbeats 8000000
namespace L2
open PySem PySem.Spec PyProof.Rows
theorem bv:Slot "set_iterator" "__next__" "set_iterator.__next__" :=
 .of (owner:="set_iterator") (n:="__next__") (by rw[typeLookup_type,builtinLookup_eq_fast];kernel_rfl) (by decide +kernel) (by decide +kernel) (by decide +kernel)
   (by first | exact .inl (by decide +kernel) | exact .inr (by decide +kernel)) (by rw[isSubtype_type];kernel_rfl)
theorem ik:Slot "set_iterator" "__iter__" "set_iterator.__iter__" :=
 .of (owner:="set_iterator") (n:="__iter__") (by rw[typeLookup_type,builtinLookup_eq_fast];kernel_rfl) (by decide +kernel) (by decide +kernel) (by decide +kernel)
   (by first | exact .inl (by decide +kernel) | exact .inr (by decide +kernel)) (by rw[isSubtype_type];kernel_rfl)
theorem dE:entryFor table "set_iterator.__next__"=some Builtin.«set_iterator.__next__»:=entryFor_of_tree (by kernel_rfl)
theorem ll:entryFor table "set_iterator.__iter__"=some Builtin.«dict_keyiterator.__iter__» :=
 entryFor_alias (id':="dict_keyiterator.__iter__") (by kernel_rfl) rfl (by decide +kernel) (by kernel_rfl)
theorem iC:entryFor table "set.__iter__"=some Builtin.«frozenset.__iter__» :=
 entryFor_alias (id':="frozenset.__iter__") (by kernel_rfl) rfl (by decide +kernel) (by kernel_rfl)
theorem oP:Manifest.owners.lookup (String.ofList ['r','o','t','a','r','e','t','i','_','t','e','s'].reverse)=some Manifest.sig_set_iterator:=by kernel_rfl
theorem d6 (a:Value):argsOk "set_iterator.__next__" ⟨[a],[]⟩:=by
 unfold argsOk;rw[signature?_of (id:="set_iterator.__next__") (n:=['_','_','t','x','e','n','_','_']) (o:=['r','o','t','a','r','e','t','i','_','t','e','s']) (by kernel_rfl) oP];kernel_rfl
theorem nh (a:Value):argsOk "set_iterator.__iter__" ⟨[a],[]⟩:=by
 unfold argsOk;rw[signature?_of (id:="set_iterator.__iter__") (n:=['_','_','r','e','t','i','_','_']) (o:=['r','o','t','a','r','e','t','i','_','t','e','s']) (by kernel_rfl) oP];kernel_rfl

/-! ### orders -/
theorem gX {α:Type}:∀ (l:List α) (i:Nat)(h:i < l.length),(l[i]::l.eraseIdx i).Perm l
 | x::l,0,h=>List.Perm.refl _
 | x::l,i+1,h=>by
   show(l[i]'(by simpa using h)::x::l.eraseIdx i).Perm (x::l)
   exact(List.Perm.swap x _ _).trans ((gX l i (by simpa using h)).cons x)
theorem qS {α:Type}(next:Nat→Nat):∀ (fuel k:Nat)(left:List α)(out:Array α),left.length=fuel→(pickOrder.go next fuel k left out).toList.Perm (out.toList++left)
 | 0,k,left,out,h=>by
   have e:left=[]:=List.length_eq_zero_iff.mp h
   subst e
   show out.toList.Perm _
   rw[List.append_nil]
 | fuel+1,k,left,out,h=>by
   have hlt:next k % left.length < left.length:=Nat.mod_lt _ (by omega)
   show(match left[next k % left.length]? with | some x=>pickOrder.go next fuel (k+1) (left.eraseIdx (next k % left.length)) (out.push x) | none=>out).toList.Perm _
   rw[List.getElem?_eq_getElem hlt]
   dsimp only
   refine(qS next fuel (k+1) _ _ (by rw[List.length_eraseIdx_of_lt hlt];omega)).trans ?_
   rw[Array.toList_push,List.append_assoc]
   exact List.Perm.append_left _ (gX _ _ hlt)
theorem ms {α:Type}(next:Nat→Nat)(xs:Array α):(pickOrder next xs).toList.Perm xs.toList:=by
 have:=qS next xs.size 0 xs.toList #[] (by simp)
 simpa [pickOrder] using this
section
variable {prog:Program}{w:World}{A:Around}{E:Value→Shared→Prop}{s:Shared}
theorem lm {M:Model}{src:Source}{n:Nat}(hn:n≠0){Q:Nat→Shared→Prop}(h:∀ i d,i < n→Q i { s with drawn:=d }):wpAny M A (choose src n) Q E s:=by
 intro Γ p hΓ
 show Sem.wp M Γ (.choose src n .pure) _ _ p s
 rw[Sem.wp_choose]
 exact⟨hn,h _ _ (Nat.mod_lt _ (by omega))⟩
theorem fX {M:Model}{α:Type}:∀ (n:Nat)(xs:List α)(s:Shared)(Q:List α→Shared→Prop),xs.length=n→(∀ ys d,ys.Perm xs→Q ys { s with drawn:=d })→wpAny M A (drawOrder n xs) Q E s
 | 0,xs,s,Q,h,q=>by
   have e:xs=[]:=List.length_eq_zero_iff.mp h
   subst e
   exact wpAny_pure (q [] s.drawn (List.Perm.refl _))
 | n+1,[],s,Q,h,q=>by cases h
 | n+1,x::xs,s,Q,h,q=>by
   show wpAny M A (choose .order (x::xs).length >>= fun i=>match (x::xs)[i]? with | some y=>(do return y::(←drawOrder n ((x::xs).eraseIdx i))) | none=>unsupported "internal:drawOrder") Q E s
   refine wpAny_bind (lm (by simp) fun i d hi=>?_)
   rw[List.getElem?_eq_getElem hi]
   dsimp only
   refine wpAny_bind (fX n _ _ _ (by rw[List.length_eraseIdx_of_lt hi];omega) fun ys d' hp=>?_)
   exact wpAny_pure (q _ d' ((hp.cons _).trans (gX _ _ hi)))
end
end L2

set_option Elab.async false
set_option linter.all false
set_option maxRecDepth 100000
set_option maxHeartbeats 8000000
namespace L2
open PySem PySem.Spec PyProof.Rows
def jf (h:Heap)(I:Addr) (first:Value) (i:Nat)(a:Addr) (n ep:Nat):Prop:=∃ o,h.get? I=some o∧o.cls=.type "set_iterator"∧o.data=.fields #[first,.int i 0,.ref a,.int n 0,.int ep 0]
theorem jf.typeIs {s:Shared}{I:Addr}{f:Value}{i:Nat}{a:Addr}{n ep:Nat}(x:jf s.heap I f i a n ep):s.TypeIs (.ref I) "set_iterator":=let ⟨o,ho,hc,_⟩:=x;⟨o,ho,hc⟩
theorem jf.at_ {h h':Heap}{I:Addr}{f:Value}{i:Nat}{a:Addr}{n ep:Nat}(x:jf h I f i a n ep)(e:∀ o,h.get? I=some o→h'.get? I=some o):jf h' I f i a n ep:=let ⟨o,ho,r⟩:=x;⟨o,e _ ho,r⟩
section
variable {prog:Program}{w:World}{A:Around}{E:Value→Shared→Prop}{s:Shared}{I a:Addr}{n ep k:Nat}{oS:Obj}{es:Array (Int×Value)}{t:SetTable}
theorem rj {f:Value}{i:Nat}{Q:Value→Shared→Prop}(hit:jf s.heap I f i a n ep)(h:Q (.ref I) s):wpAny (model prog w) A (pyIter (.ref I)) Q E s:=by
 refine wpAny_pyIter_slot hit.typeIs ik (wpAny_call_entry ik hit.typeIs ll ?_ (nh _))
 show wpAny _ _ (ret (.ref I)) _ _ s
 exact wpAny_pure ⟨_,rfl, "set_iterator",_,hit.typeIs,bv.lookup,h⟩
theorem nb {sl sl':Nat}{x:Value}{Q:Option Value→Shared→Prop}(hit:jf s.heap I (.int sl 0) k a n ep)(ho:s.heap.get? a=some oS)(hd:oS.data=.set es ep t)(hf:t.fits es.size=true)(hn:es.size=n)
   (hN:∀ (A:Around)(E:Value→Shared→Prop)(Q:Option (Value×Nat)→Shared→Prop),Q (some (x,sl')) s→wpAny (model prog w) A (setNext a sl k ep) Q E s)
   (hQ:∀ h',jf h' I (.int sl' 0) (k+1) a n ep→Heap.SameBut I s.heap h'→Q (some x) { s with heap:=h' }) :
   wpAny (model prog w) A (pyNext (.ref I)) Q E s:=by
 obtain⟨o,hoI,hc,hdI⟩:=id hit
 unfold pyNext
 refine wpAny_bind (wpAny_attempt (wpAny_callSpecial?_slot (name:=Str.ofString "__next__") hit.typeIs bv
   (wpAny_call_entry bv hit.typeIs dE ?_ (d6 _))))
 show wpAny _ _ (fieldsOf (.ref I) >>= _) _ _ s
 refine wpAny_bind (wpAny_fieldsOf hoI hdI ?_)
 show wpAny _ _ (setEntries a >>= _) _ _ s
 refine wpAny_bind (wpAny_setEntries_of ho hd hf ?_)
 rw[if_neg (by rw[hn];simp)]
 show wpAny _ _ (setNext a (Int.toNat (sl:Int)) (Int.toNat (k:Int)) (Int.toNat (ep:Int)) >>= _) _ _ s
 simp only[Int.toNat_natCast]
 refine wpAny_bind (hN _ _ _ ?_)
 dsimp only
 refine wpAny_bind (wpAny_setField hoI hdI (by simp) ?_)
 have ho1:=Heap.get?_update_self (Obj.mapFields (·.setIfInBounds 0 (rawInt (sl':Int)))) hoI (Obj.isFreed_of_fields (Obj.data_mapFields hdI _))
 refine wpAny_bind (wpAny_setField ho1 (Obj.data_mapFields hdI _) (by simp) ?_)
 refine wpAny_pure ⟨x,rfl,wpAny_pure (hQ _ ?_ ((Heap.SameBut.update ..).trans (Heap.SameBut.update ..)))⟩
 exact⟨_,Heap.get?_update_self _ ho1 (Obj.isFreed_of_fields (Obj.data_mapFields (Obj.data_mapFields hdI _) _)),(Obj.cls_mapFields ..).trans ((Obj.cls_mapFields ..).trans hc),by
   rw[Obj.data_mapFields (Obj.data_mapFields hdI _)];simp[rawInt]⟩
theorem n0 {sl:Nat}{Q:Option Value→Shared→Prop}(hh:A.handled=none)(hit:jf s.heap I (.int sl 0) k a n ep)(ho:s.heap.get? a=some oS)(hd:oS.data=.set es ep t)(hf:t.fits es.size=true)(hn:es.size=n)
   (hN:∀ (A:Around)(E:Value→Shared→Prop)(Q:Option (Value×Nat)→Shared→Prop),Q none s→wpAny (model prog w) A (setNext a sl k ep) Q E s)
   (hQ:∀ h',Heap.ExtBut I s.heap h'→Q none { s with heap:=h' }) :
   wpAny (model prog w) A (pyNext (.ref I)) Q E s:=by
 obtain⟨o,hoI,hc,hdI⟩:=id hit
 unfold pyNext
 refine wpAny_bind (wpAny_attempt (wpAny_callSpecial?_slot (name:=Str.ofString "__next__") hit.typeIs bv
   (wpAny_call_entry bv hit.typeIs dE ?_ (d6 _))))
 show wpAny _ _ (fieldsOf (.ref I) >>= _) _ _ s
 refine wpAny_bind (wpAny_fieldsOf hoI hdI ?_)
 show wpAny _ _ (setEntries a >>= _) _ _ s
 refine wpAny_bind (wpAny_setEntries_of ho hd hf ?_)
 rw[if_neg (by rw[hn];simp)]
 show wpAny _ _ (setNext a (Int.toNat (sl:Int)) (Int.toNat (k:Int)) (Int.toNat (ep:Int)) >>= _) _ _ s
 simp only[Int.toNat_natCast]
 refine wpAny_bind (hN _ _ _ ?_)
 dsimp only
 refine wpAny_bind (wpAny_setField hoI hdI (by simp) ?_)
 show wpAny _ _ (newExc (.type "StopIteration") [] >>= _) _ _ _
 refine wpAny_bind ?_
 simp only[newExc,newTuple]
 refine wpAny_bind (wpAny_newObj_type ?_ (by size_fits))
 refine wpAny_bind (m:=firstArgMember _ _) (wpAny_of_eq (a:=Value.none) (by first | rfl | (simp only[firstArgMember];rfl)) ?_)
 refine wpAny_newObj_type ?_ (by size_fits)
 simp only[raiseNew]
 refine wpAny_bind (wpAny_handled ?_)
 rw[show A.in1.handled=none from hh]
 refine wpAny_bind (wpAny_pure (wpAny_throw ?_))
 refine wpAny_bind (wpAny_isInstance (T:="StopIteration") (b:=true) ⟨_,Heap.get?_push_size _ rfl,rfl⟩ isSubtype_stop ?_)
 exact wpAny_pure (hQ _ (((Heap.SameBut.update ..).extBut.push _).push _))
theorem pi {T:Addr}{ps:Array Value}{j:Nat}{x:Value}{hx:Int}{oT:Obj}{nT:Nat}{Q:Option Value→Shared→Prop}(hit:jf s.heap I (.ref T) k a n ep)(hT:s.heap.get? T=some oT)(hdT:oT.data=.seq ps nT)
   (ho:s.heap.get? a=some oS)(hd:oS.data=.set es ep t)(hf:t.fits es.size=true)(hn:es.size=n)(hp:ps[k]?=some (rawInt (j:Int)))(he:es[j]?=some (hx,x))
   (hQ:∀ h',jf h' I (.ref T) (k+1) a n ep→Heap.SameBut I s.heap h'→Q (some x) { s with heap:=h' }) :
   wpAny (model prog w) A (pyNext (.ref I)) Q E s:=by
 obtain⟨o,hoI,hc,hdI⟩:=id hit
 unfold pyNext
 refine wpAny_bind (wpAny_attempt (wpAny_callSpecial?_slot (name:=Str.ofString "__next__") hit.typeIs bv
   (wpAny_call_entry bv hit.typeIs dE ?_ (d6 _))))
 show wpAny _ _ (fieldsOf (.ref I) >>= _) _ _ s
 refine wpAny_bind (wpAny_fieldsOf hoI hdI ?_)
 show wpAny _ _ (setEntries a >>= _) _ _ s
 refine wpAny_bind (wpAny_setEntries_of ho hd hf ?_)
 rw[if_neg (by rw[hn];simp)]
 show wpAny _ _ (seqItems? (.ref T) >>= _) _ _ s
 refine wpAny_bind (wpAny_seqItems hT hdT ?_)
 simp only[Int.toNat_natCast,hp,rawInt]
 unfold setNextDrawn
 refine wpAny_bind (wpAny_bind (wpAny_setState_of ho hd hf ?_))
 simp only[bne_self_eq_false,Bool.false_eq_true,↓reduceIte,he]
 refine wpAny_bind (wpAny_pure ?_)
 refine wpAny_pure ?_
 refine wpAny_bind (wpAny_setField hoI hdI (by simp) ?_)
 refine wpAny_pure ⟨x,rfl,wpAny_pure (hQ _ ?_ (Heap.SameBut.update ..))⟩
 exact⟨_,Heap.get?_update_self _ hoI (Obj.isFreed_of_fields (Obj.data_mapFields hdI _)),(Obj.cls_mapFields ..).trans hc,by
   rw[Obj.data_mapFields hdI];simp[rawInt]⟩
theorem qH {T:Addr}{ps:Array Value}{oT:Obj}{nT:Nat}{Q:Option Value→Shared→Prop}(hh:A.handled=none)(hit:jf s.heap I (.ref T) k a n ep)(hT:s.heap.get? T=some oT)(hdT:oT.data=.seq ps nT)
   (ho:s.heap.get? a=some oS)(hd:oS.data=.set es ep t)(hf:t.fits es.size=true)(hn:es.size=n)(hp:ps[k]?=none)
   (hQ:∀ h',Heap.ExtBut I s.heap h'→Q none { s with heap:=h' }) :
   wpAny (model prog w) A (pyNext (.ref I)) Q E s:=by
 obtain⟨o,hoI,hc,hdI⟩:=id hit
 unfold pyNext
 refine wpAny_bind (wpAny_attempt (wpAny_callSpecial?_slot (name:=Str.ofString "__next__") hit.typeIs bv
   (wpAny_call_entry bv hit.typeIs dE ?_ (d6 _))))
 show wpAny _ _ (fieldsOf (.ref I) >>= _) _ _ s
 refine wpAny_bind (wpAny_fieldsOf hoI hdI ?_)
 show wpAny _ _ (setEntries a >>= _) _ _ s
 refine wpAny_bind (wpAny_setEntries_of ho hd hf ?_)
 rw[if_neg (by rw[hn];simp)]
 show wpAny _ _ (seqItems? (.ref T) >>= _) _ _ s
 refine wpAny_bind (wpAny_seqItems hT hdT ?_)
 simp only[Int.toNat_natCast,hp]
 refine wpAny_bind (wpAny_setField hoI hdI (by simp) ?_)
 have ho1:=Heap.get?_update_self (Obj.mapFields (·.setIfInBounds 0 (rawInt 0))) hoI (Obj.isFreed_of_fields (Obj.data_mapFields hdI _))
 refine wpAny_bind (wpAny_setField ho1 (Obj.data_mapFields hdI _) (by simp) ?_)
 show wpAny _ _ (newExc (.type "StopIteration") [] >>= _) _ _ _
 refine wpAny_bind ?_
 simp only[newExc,newTuple]
 refine wpAny_bind (wpAny_newObj_type ?_ (by size_fits))
 refine wpAny_bind (m:=firstArgMember _ _) (wpAny_of_eq (a:=Value.none) (by first | rfl | (simp only[firstArgMember];rfl)) ?_)
 refine wpAny_newObj_type ?_ (by size_fits)
 simp only[raiseNew]
 refine wpAny_bind (wpAny_handled ?_)
 rw[show A.in1.handled=none from hh]
 refine wpAny_bind (wpAny_pure (wpAny_throw ?_))
 refine wpAny_bind (wpAny_isInstance (T:="StopIteration") (b:=true) ⟨_,Heap.get?_push_size _ rfl,rfl⟩ isSubtype_stop ?_)
 exact wpAny_pure (hQ _ ((((Heap.SameBut.update ..).trans (Heap.SameBut.update ..)).extBut.push _).push _))
end
end L2

set_option Elab.async false
set_option linter.all false
set_option maxRecDepth 100000
set_option maxHeartbeats 8000000
namespace L2
open PySem PySem.Spec PyProof.Rows
theorem gM {K:Type} [DecidableEq K]:∀ (L ks:List K),L.Nodup→(∀ x∈L,x∈ks)→ks.length≤L.length→ks.Perm L
 | [],ks,_,_,h=>by
   have e:ks=[]:=List.length_eq_zero_iff.mp (by simpa using h)
   rw[e]
 | x::L,ks,hn,hs,h=>by
   have hx:x∈ks:=hs x (.head _)
   have hp:=List.perm_cons_erase hx
   refine hp.trans (List.Perm.cons x (gM L _ (List.nodup_cons.mp hn).2 (fun y hy=>?_) ?_))
   · exact(List.mem_erase_of_ne (fun e=>(List.nodup_cons.mp hn).1 (by rw[←e];exact hy))).mpr (hs y (.tail _ hy))
   · rw[List.length_erase_of_mem hx];simp only[List.length_cons] at h;omega
section
variable {prog:Program}{w:World}{A:Around}{E:Value→Shared→Prop}{s:Shared}{I a:Addr}{n ep k:Nat}{oS:Obj}{es:Array (Int×Value)}{t:SetTable}
theorem m7 (hw:eQ w=false)(ho:s.heap.get? a=some oS)(hd:oS.data=.set es ep t)(hf:t.fits es.size=true){sl:Nat}{Q:Option (Value×Nat)→Shared→Prop}
   (h:Q (((pickOrder (w.params.setOrder a ep) es)[k]?).map fun e=>(e.2,sl)) s):wpAny (model prog w) A (setNext a sl k ep) Q E s:=by
 have hb:w.params.followText "set-order"=true:=by unfold eQ at hw;simpa using hw
 unfold setNext setsByText
 refine wpAny_bind (wpAny_setState_of ho hd hf ?_)
 refine wpAny_bind (wpAny_bind (wpAny_askSetting (wpAny_pure ?_)))
 show wpAny _ _ (if w.params.followText "set-order"=true then _ else _) _ _ s
 rw[if_pos hb]
 simp only[bne_self_eq_false,Bool.false_eq_true,↓reduceIte]
 unfold setWalk setsByText
 refine wpAny_bind (wpAny_bind (wpAny_setState_of ho hd hf ?_))
 refine wpAny_bind (wpAny_bind (wpAny_askSetting (wpAny_pure ?_)))
 show wpAny _ _ (if w.params.followText "set-order"=true then _ else _) _ _ s
 rw[if_pos hb]
 refine wpAny_bind (wpAny_askSetting (wpAny_pure ?_))
 exact wpAny_pure h
theorem nK (hw:eQ w=true)(hl:t.led=true)(hnd:(!t.plain&&decide (es.size > 1))=false)(ho:s.heap.get? a=some oS)(hd:oS.data=.set es ep t)(hf:t.fits es.size=true){sl:Nat}{Q:Option (Value×Nat)→Shared→Prop}
   (h:Q (match es[SetTable.below t.place sl]?,t.place[SetTable.below t.place sl]? with | some (_,x),some j=>some (x,j+1) | _,_=>none) s):wpAny (model prog w) A (setNext a sl k ep) Q E s:=by
 have hb:w.params.followText "set-order"=false:=by unfold eQ at hw;simpa using hw
 unfold setNext setsByText
 refine wpAny_bind (wpAny_setState_of ho hd hf ?_)
 refine wpAny_bind (wpAny_bind (wpAny_askSetting (wpAny_pure ?_)))
 show wpAny _ _ (if w.params.followText "set-order"=true then _ else _) _ _ s
 rw[if_neg (by rw[hb];exact Bool.false_ne_true)]
 show wpAny _ _ (if(!t.plain&&decide (es.size > 1))=true then _ else _) _ _ s
 rw[if_neg (by rw[hnd];exact Bool.false_ne_true)]
 show wpAny _ _ ((if(!t.led&&!es.isEmpty)=true then unsupported "set:maker-not-led" else pure ()) >>= _) _ _ s
 rw[if_neg (by rw[hl];simp)]
 refine wpAny_bind (wpAny_pure ?_)
 exact wpAny_pure h
def SIt (I a:Addr)(oS:Obj)(f:Nat→Value) (n ep:Nat) (i:Nat)(h:Heap):Prop:=jf h I (f i) i a n ep∧h.get? a=some oS
theorem jZ (hh:A.handled=none)(hne:a≠I)(hd:oS.data=.set es ep t)(hf:t.fits es.size=true)(hn:es.size=n)(sl:Nat→Nat)(vs:List Value)(hv:vs.length=n)
   (hN:∀ (k:Nat)(s:Shared)(A:Around)(E:Value→Shared→Prop)(Q:Option (Value×Nat)→Shared→Prop),k≤n→s.heap.get? a=some oS→Q ((vs[k]?).map fun v=>(v,sl (k+1))) s→wpAny (model prog w) A (setNext a (sl k) k ep) Q E s) :
   Walks prog w A I [I,a] [I] n (fun k v=>vs[k]?=some v) (SIt I a oS (fun i=>.int (sl i) 0) n ep) where
 sub:=fun b hb=>by simp at hb;simp[hb]
 frame:=fun i h h' st hk=>⟨st.1.at_ fun o e=>hk I (by simp) o e,hk a (by simp) _ st.2⟩
 item:=fun i s Q E hi st hQ=>by
   have hx:vs[i]?=some (vs[i]'(by omega)):=List.getElem?_eq_getElem (by omega)
   refine nb st.1 st.2 hd hf hn (sl':=sl (i+1)) (x:=vs[i]'(by omega)) (fun A E Q q=>hN i s A E Q (by omega) st.2 (by rw[hx];exact q)) fun h' hit' sb=>?_
   exact hQ _ h' s.toks hx ⟨hit',(sb.2 a hne).trans st.2⟩ fun b o hb e=>(sb.2 b (fun h=>hb (by simp[h]))).trans e
 done:=fun s Q E st hQ=>by
   have hx:vs[n]?=none:=List.getElem?_eq_none_iff.mpr (by omega)
   exact n0 hh st.1 st.2 hd hf hn (fun A E Q q=>hN n s A E Q (Nat.le_refl _) st.2 (by rw[hx];exact q)) fun h' eb=>hQ h' s.toks fun b o hb e=>eb b o (fun h=>hb (by simp[h])) e
 self:=fun _ _ _ _ st hQ=>rj st.1 hQ
theorem sT {T:Addr}{oT:Obj}{nT:Nat}{ps:List Nat}(hh:A.handled=none)(hne:a≠I)(hTne:T≠I)(hd:oS.data=.set es ep t)(hf:t.fits es.size=true)(hn:es.size=n)(hdT:oT.data=.seq (ps.map fun(i:Nat)=>rawInt i).toArray nT)(hp:ps.length=n)(hlt:∀ p∈ps,p < n) :
   Walks prog w A I [I,a,T] [I] n (fun k v=>(ps.filterMap fun p=>(es[p]?).map (·.2))[k]?=some v) (fun i h=>SIt I a oS (fun _=>.ref T) n ep i h∧h.get? T=some oT) where
 sub:=fun b hb=>by simp at hb;simp[hb]
 frame:=fun i h h' st hk=>⟨⟨st.1.1.at_ fun o e=>hk I (by simp) o e,hk a (by simp) _ st.1.2⟩,hk T (by simp) _ st.2⟩
 item:=fun i s Q E hi st hQ=>by
   obtain⟨p,hx⟩:∃ p,ps[i]?=some p:=⟨_,List.getElem?_eq_getElem (by omega)⟩
   have hj:p < es.size:=by rw[hn];exact hlt _ (List.mem_of_getElem? hx)
   obtain⟨e,he⟩:∃ e,es[p]?=some e:=⟨_,Array.getElem?_eq_getElem hj⟩
   obtain⟨e1,e2⟩:=e
   have hfm:∀ (l:List Nat),(∀ p∈l,p < es.size)→∀ (k p:Nat),l[k]?=some p→(l.filterMap fun p=>(es[p]?).map (·.2))[k]?=(es[p]?).map (·.2):=by
     intro l
     induction l with
     | nil=>intro _ k p h;cases h
     | cons q l ih =>
       intro hl k p h
       obtain⟨eq,hq⟩:∃ e,es[q]?=some e:=⟨_,Array.getElem?_eq_getElem (hl q (.head _))⟩
       rw[List.filterMap_cons_some (b:=eq.2) (by rw[hq];rfl)]
       cases k with
       | zero=>cases h;rw[hq];rfl
       | succ k=>exact ih (fun p hp=>hl p (.tail _ hp)) k p h
   refine pi st.1.1 st.2 hdT st.1.2 hd hf hn (j:=p) (by simp[hx]) he fun h' hit' sb=>?_
   refine hQ _ h' s.toks ?_ ⟨⟨hit',(sb.2 a hne).trans st.1.2⟩,(sb.2 T hTne).trans st.2⟩ fun b o hb e=>(sb.2 b (fun h=>hb (by simp[h]))).trans e
   rw[hfm ps (fun p hp=>by rw[hn];exact hlt p hp) i _ hx,he]
   rfl
 done:=fun s Q E st hQ=>by
   refine qH hh st.1.1 st.2 hdT st.1.2 hd hf hn ?_ fun h' eb=>hQ h' s.toks fun b o hb e=>eb b o (fun h=>hb (by simp[h])) e
   simp[hp]
 self:=fun _ _ _ _ st hQ=>rj st.1.1 hQ
end
end L2

set_option Elab.async false
set_option linter.all false
set_option maxRecDepth 100000
set_option maxHeartbeats 8000000
namespace L2
open PySem PySem.Spec PyProof.Rows PySem.W
section
variable {prog:Program}{w:World}{A:Around}{E:Value→Shared→Prop}{s:Shared}{a:Addr}{n:Nat}{K:Type} [DecidableEq K]{knd:KeyKind prog w K}{S:K→Bool}
def lq (knd:KeyKind prog w K)(S:K→Bool) (n:Nat)(vs:List Value):Prop:=vs.length=n∧(∀ v∈vs,∃ k,knd.is k v=true∧S k=true)∧∀ k,S k=true→∃ v∈vs,knd.is k v=true
theorem lq.perm {vs vs':List Value}(d:lq knd S n vs)(p:vs'.Perm vs):lq knd S n vs' :=
 ⟨p.length_eq.trans d.1,fun v hv=>d.2.1 v (p.mem_iff.mp hv),fun k hk=>let ⟨v,hv,e⟩:=d.2.2 k hk;⟨v,p.mem_iff.mpr hv,e⟩⟩
theorem uy (hh:A.handled=none)(hS:cZ knd (eQ w) s.heap a S n){Q:Value→Shared→Prop}
   (h:∀ (I:Addr)(h':Heap) d (St:Nat→Heap→Prop)(vs:List Value)(fp:List Addr),s.heap.objs.size≤I→(∀ b o,s.heap.get? b=some o→h'.get? b=some o)→(∀ b∈fp,b=a∨s.heap.objs.size≤b)→Walks prog w A I fp [I] n (fun k v=>vs[k]?=some v) St→St 0 h' →
     lq knd S n vs→Q (.ref I) { s with heap:=h',drawn:=d }):wpAny (model prog w) A (pyIter (.ref a)) Q E s:=by
 obtain⟨oS,es,ep,t,ho,hex,hd,hel,hmem,hb,hf,hn,hup,hled⟩:=hS
 have hT:s.TypeIs (.ref a) "set":=⟨oS,ho,hex.1⟩
 have hlt:=Heap.lt_size ho
 have hdr:lq knd S n (es.toList.map (·.2)):=by
   refine⟨by rw[List.length_map,Array.length_toList];exact hn,fun v hv=>?_,fun k hk=>?_⟩
   · obtain⟨e,he,rfl⟩:=List.mem_map.mp hv
     obtain⟨⟨k,hk,_⟩,_⟩:=hel e he
     exact⟨k,hk,(hmem k).mpr ⟨e,he,hk⟩⟩
   · obtain⟨e,he,hk'⟩:=(hmem k).mp hk
     exact⟨e.2,List.mem_map.mpr ⟨e,he,rfl⟩,hk'⟩
 refine wpAny_pyIter_slot hT F.slot_set_iter (wpAny_call_entry F.slot_set_iter hT iC ?_ (F.args_set_iter_1 _))
 unfold Builtin.«frozenset.__iter__»
 refine wpAny_bind (wpAny_pure ?_)
 unfold Builtin.Frozenset.sizeOf
 refine wpAny_bind (wpAny_bind (wpAny_setEntries_of ho hd hf (wpAny_pure ?_)))
 unfold setDrawn setsByText
 refine wpAny_bind (wpAny_bind (wpAny_setState_of ho hd hf ?_))
 refine wpAny_bind (wpAny_bind (wpAny_askSetting (wpAny_pure ?_)))
 refine wpAny_pure ?_
 show wpAny _ _ (if(!(w.params.followText "set-order")&&(!t.plain&&decide (es.size > 1)))=true then _ else _) _ _ s
 by_cases hdw:(!(w.params.followText "set-order")&&(!t.plain&&decide (es.size > 1)))=true
 · rw[if_pos hdw]
   refine wpAny_bind (fX _ _ _ _ (by simp) fun ps d hp=>?_)
   refine wpAny_bind (wpAny_newTuple ?_ (by rw[List.length_map,hp.length_eq,List.length_range];exact fits_of_scanBound hb))
   refine wpAny_bind (wpAny_setEpoch_of (o:=oS) (Heap.get?_push_of_some _ ho) hd hf ?_)
   refine wpAny_bind (wpAny_newObj_type ?_)
   have hps:ps.length=n:=by rw[hp.length_eq,List.length_range];exact hn
   refine wpAny_pure ⟨_,rfl, "set_iterator",_,⟨_,Heap.get?_push_size _ rfl,rfl⟩,bv.lookup,?_⟩
   have hz1:(s.heap.push { cls:=.type "tuple",data:=.seq (ps.map fun(i:Nat)=>rawInt i).toArray }).objs.size=s.heap.objs.size+1:=Heap.size_push ..
   refine h _ _ d (fun i h=>SIt _ a oS (fun _=>.ref s.heap.objs.size) n ep i h∧h.get? s.heap.objs.size=some _) _ _ (by rw[hz1];omega) (fun b o e=>Heap.get?_push_of_some _ (Heap.get?_push_of_some _ e)) ?_
     (sT (oT:={ cls:=.type "tuple",data:=.seq (ps.map fun(i:Nat)=>rawInt i).toArray }) hh (by rw[hz1];exact Nat.ne_of_lt (Nat.lt_succ_of_lt hlt)) (by rw[hz1];exact Nat.ne_of_lt (Nat.lt_succ_self _)) hd hf hn rfl hps (fun p hp'=>by have:=List.mem_range.mp (hp.mem_iff.mp hp');omega)) ?_ ?_
   · intro b hb
     simp only[List.mem_cons,List.not_mem_nil,or_false] at hb
     rcases hb with rfl | rfl | rfl
     · exact .inr (by rw[hz1];omega)
     · exact .inl rfl
     · exact .inr (Nat.le_refl _)
   · refine⟨⟨⟨_,Heap.get?_push_size _ rfl,rfl,?_⟩,Heap.get?_push_of_some _ (Heap.get?_push_of_some _ ho)⟩,Heap.get?_push_of_some _ (Heap.get?_push_size _ rfl)⟩
     simp[rawInt,hn]
   · refine hdr.perm ?_
     have:=(hp.filterMap fun p=>(es[p]?).map (·.2))
     refine this.trans ?_
     have e:(List.range es.size).filterMap (fun p=>(es[p]?).map (·.2))=es.toList.map (·.2):=by
       rw[←filterMap_getElem?_range es,List.map_filterMap]
     rw[e]
 · rw[if_neg hdw]
   refine wpAny_bind (wpAny_pure ?_)
   refine wpAny_bind (wpAny_setEpoch_of (o:=oS) ho hd hf ?_)
   refine wpAny_bind (wpAny_newObj_type ?_)
   refine wpAny_pure ⟨_,rfl, "set_iterator",_,⟨_,Heap.get?_push_size _ rfl,rfl⟩,bv.lookup,?_⟩
   have hfp:∀ b∈[s.heap.objs.size,a],b=a∨s.heap.objs.size≤b:=fun b hb=>by
     simp only[List.mem_cons,List.not_mem_nil,or_false] at hb
     rcases hb with rfl | rfl
     · exact .inr (Nat.le_refl _)
     · exact .inl rfl
   cases hw:eQ w with
   | false =>
     refine h _ _ s.drawn (SIt _ a oS (fun i=>.int ((fun _=>0:Nat→Nat) i) 0) n ep) _ _ (Nat.le_refl _) (fun b o e=>Heap.get?_push_of_some _ e) hfp
       (jZ hh (Nat.ne_of_lt hlt) hd hf hn (fun _=>0) ((pickOrder (w.params.setOrder a ep) es).toList.map (·.2)) (by rw[List.length_map,(ms _ es).length_eq,Array.length_toList];exact hn) fun k s A E Q _ ho' q=>m7 hw ho' hd hf (by simpa [List.getElem?_map,Option.map_map,Function.comp_def] using q)) ?_ (hdr.perm ((ms _ es).map _))
     exact⟨⟨_,Heap.get?_push_size _ rfl,rfl,by simp[rawInt,hn]⟩,Heap.get?_push_of_some _ ho⟩
   | true =>
     have hb':w.params.followText "set-order"=false:=by unfold eQ at hw;simpa using hw
     have hnd:(!t.plain&&decide (es.size > 1))=false:=by rw[hb'] at hdw;simpa using hdw
     have hps:t.place.size=n:=by simp only[SetTable.fits,Bool.and_eq_true,beq_iff_eq] at hf;omega
     have hbel:∀ k,k≤n→SetTable.below t.place (if k=0 then 0 else t.place.getD (k - 1) 0+1)=k:=by
       intro k hk
       generalize hsl:(if k=0 then 0 else t.place.getD (k - 1) 0+1)=sl
       obtain⟨b1,b2,b3⟩:=ox hup sl
       refine Nat.le_antisymm (Nat.le_of_not_lt fun hlt=>?_) (Nat.le_of_not_lt fun hlt=>?_)
       · have:=b2 k hlt
         by_cases h0:k=0
         · rw[if_pos h0] at hsl;omega
         · rw[if_neg h0] at hsl
           have:=hup.lt (i:=k - 1) (k:=k) (by omega) (by omega)
           omega
       · by_cases h0:k=0
         · omega
         · rw[if_neg h0] at hsl
           have:=b3 (k - 1) (by omega) (by omega)
           omega
     refine h _ _ s.drawn (SIt _ a oS (fun i=>.int ((fun k=>if k=0 then 0 else t.place.getD (k - 1) 0+1:Nat→Nat) i) 0) n ep) _ _ (Nat.le_refl _) (fun b o e=>Heap.get?_push_of_some _ e) hfp
       (jZ hh (Nat.ne_of_lt hlt) hd hf hn (fun k=>if k=0 then 0 else t.place.getD (k - 1) 0+1) (es.toList.map (·.2)) (by rw[List.length_map,Array.length_toList];exact hn) fun k s A E Q hk ho' q=>nK hw (hled.trans hw) hnd ho' hd hf (by
         rw[hbel k hk]
         by_cases hkn:k < n
         · obtain⟨e,he⟩:∃ e,es[k]?=some e:=⟨_,Array.getElem?_eq_getElem (by omega)⟩
           obtain⟨p,hp⟩:∃ p,t.place[k]?=some p:=⟨_,Array.getElem?_eq_getElem (by omega)⟩
           rw[he,hp]
           have e1:(es.toList.map (·.2))[k]?=some e.2:=by rw[List.getElem?_map,Array.getElem?_toList,he];rfl
           rw[e1] at q
           simp only[Option.map_some,Nat.add_sub_cancel,Nat.succ_ne_zero,Nat.add_eq_zero_iff,Nat.one_ne_zero,and_false,↓reduceIte,Array.getD_eq_getD_getElem?,hp,Option.getD_some] at q
           exact q
         · have e0:es[k]?=none:=Array.getElem?_eq_none_iff.mpr (by omega)
           rw[e0]
           have e1:(es.toList.map (·.2))[k]?=none:=by rw[List.getElem?_map,Array.getElem?_toList,e0];rfl
           rw[e1] at q
           exact q)) ?_ hdr
     exact⟨⟨_,Heap.get?_push_size _ rfl,rfl,by simp[rawInt,hn]⟩,Heap.get?_push_of_some _ ho⟩
end
end L2

set_option Elab.async false
set_option linter.all false
set_option maxRecDepth 100000
set_option maxHeartbeats 8000000
namespace L2
open PySem PySem.Spec PyProof.Rows PySem.W
theorem lv:typeLookup (.type "set") "__len__"=pure (some (.builtin "set.__len__")):=by rw[typeLookup_type,builtinLookup_eq_fast];kernel_rfl
section
variable {prog:Program}{w:World}{A:Around}{E:Value→Shared→Prop}{s:Shared}{a:Addr}{n:Nat}{K:Type} [DecidableEq K]{knd:KeyKind prog w K}{S:K→Bool}
theorem v5 {r:Addr}{Q:Bool→Shared→Prop}(hT:s.TypeIs (.ref r) "set")(h:Q false s):wpAny (model prog w) A (Builtin.List.listLengthHint (.ref r)) Q E s:=by
 unfold Builtin.List.listLengthHint
 refine wpAny_bind (wpAny_specialOf hT lv ?_)
 generalize hid:("set.__len__":String)=id0
 wp_delta
 rw[show splitId id0=some ("set", "__len__") from by subst hid;decide +kernel]
 subst hid
 refine wpAny_bind (wpAny_isInstance (T:="set") (b:=true) hT (by rw[isSubtype_type];kernel_rfl) ?_)
 refine wpAny_ite_split (fun hab=>absurd hab (by decide)) (fun _=>?_)
 refine wpAny_ite_split (fun _=>?_) (fun hab=>absurd (by decide +kernel) hab)
 refine wpAny_bind (wpAny_typeOf hT ?_)
 exact wpAny_pure h
theorem cZ.typeIs {led:Bool}(x:cZ knd led s.heap a S n):s.TypeIs (.ref a) "set":=let ⟨o,_,_,_,ho,hex,_⟩:=x;⟨o,ho,hex.1⟩
theorem cZ.lt {led:Bool}{h:Heap}(x:cZ knd led h a S n):a < h.objs.size:=let ⟨o,_,_,_,ho,_⟩:=x;Heap.lt_size ho
theorem cZ.bound {led:Bool}{h:Heap}(x:cZ knd led h a S n):n≤sizeLine:=let ⟨_,_,_,_,_,_,_,_,_,hb,_,hn,_⟩:=x;by rw[←hn];exact fits_of_scanBound hb
theorem sV {R:Result→Shared→Prop}(hh:A.handled=none)(hS:cZ knd (eQ w) s.heap a S n)(D:Addr)(hDa:D≠a) (res:Value) (c₀:Nat)(hD:s.heap.get? D=some { cls:=.type "list",data:=.seq #[] c₀ })
   (hR:∀ h' tk d acc' c',(∀ b o,b≠D→s.heap.get? b=some o→h'.get? b=some o)→h'.get? D=some { cls:=.type "list",dict:=none,data:=.seq acc' c',slots:=#[] }→lq knd S n acc'.toList→R (.ok (.ret res)) { s with heap:=h',toks:=tk,drawn:=d }) :
   wpAny (model prog w) A.in1 (Builtin.List.listExtendWith (.ref D) (.ref a) res)
     (fun fin s'=>match fin with | .done f=>R (.ok f) s' | .again c'=>c'.quiet=true∧codeAny (model prog w) A c' R s') (fun e s'=>R (.error e) s') s:=by
 unfold Builtin.List.listExtendWith
 refine wpAny_bind (wpAny_typeOf (T:="set") hS.typeIs ?_)
 have h1:Builtin.List.listSameRef (.ref D) (.ref a)=false:=by simp[Builtin.List.listSameRef,hDa]
 have h2:(Value.type "set"==Value.type "list")=false:=by decide
 have h3:(Value.type "set"==Value.type "tuple")=false:=by decide
 simp only[h1,h2,h3,Bool.or_false,Bool.false_eq_true,if_false]
 refine wpAny_bind (uy (A:=A.in1) (by exact hh) hS fun I h1 d St vs fp hI hk1 hfp W st hdr=>?_)
 have hDlt:=Heap.lt_size hD
 have hDf:D∉fp:=fun hm=>by
   rcases hfp D hm with e | e
   · exact hDa e
   · exact absurd hDlt (Nat.not_lt.mpr e)
 have key:∀ (h:Heap) (c₁ tk:Nat),St 0 h→(∀ b o,b≠D→s.heap.get? b=some o→h.get? b=some o) →
     h.get? D=some { cls:=.type "list",data:=.seq #[] c₁ }→codeAny (model prog w) A (.builtin "list.extend.loop" ⟨[.ref D,.ref I,res],[]⟩) R { s with heap:=h,toks:=tk,drawn:=d }:=by
   intro h c₁ tk hst hk hD₁
   refine codeAny_extend_loopS W.toS hS.bound D hDf res n 0 _ #[] c₁ rfl (Nat.zero_le _) hst hD₁ (ItemsOf.nil _) fun s' acc' c' hm hD' hacc=>?_
   rw[Moved.eq_with hm]
   refine hR s'.heap s'.toks d acc' c' (fun b o hb e=>hm.heap b o (fun hmem=>?_) (hk b o hb e)) hD' ?_
   · rcases List.mem_cons.mp hmem with e' | hmem
     · exact hb e'
     · exact absurd (Heap.lt_size e) (by rw[List.mem_singleton.mp hmem];exact Nat.not_lt.mpr hI)
   · have e:acc'.toList=vs:=by
       refine List.ext_getElem? fun i=>?_
       rcases Nat.lt_or_ge i n with hi | hi
       · have hi':i < acc'.size:=by rw[hacc.1];exact hi
         rw[Array.getElem?_toList,Array.getElem?_eq_getElem hi']
         exact(hacc.2 i _ (Array.getElem?_eq_getElem hi')).symm
       · rw[List.getElem?_eq_none_iff.mpr (by rw[Array.length_toList,hacc.1];exact hi),List.getElem?_eq_none_iff.mpr (by rw[hdr.1];exact hi)]
     rw[e];exact hdr
 have hD₁:=hk1 _ _ hD
 refine wpAny_bind (wpAny_holding (v5 (s:={ s with heap:=h1,drawn:=d }) (let ⟨o,ho,hc⟩:=hS.typeIs;⟨o,hk1 _ _ ho,hc⟩) ?_))
 refine wpAny_ite_split (fun _=>?_) (fun _=>wpAny_pure ⟨plainId_quiet PySem.F.plain_extend_loop _,key _ c₀ _ st (fun b o _ e=>hk1 b o e) hD₁⟩)
 refine wpAny_bind (wpAny_rule ?_)
 refine wpAny_bind ?_
 show wpAny _ _ (updateSeq D (·.push .none) >>= fun _=>updateSeq D (·.pop)) _ _ _
 refine wpAny_bind (wpAny_updateSeq hD₁ rfl ?_)
 have hD₂:=Heap.get?_update_self (Obj.mapSeq (·.push Value.none)) hD₁ rfl
 refine wpAny_updateSeq (hz:=by seq_fits) hD₂ rfl ?_
 have hD₃:=Heap.get?_update_self (Obj.mapSeq (·.pop)) hD₂ rfl
 refine wpAny_pure ⟨plainId_quiet PySem.F.plain_extend_loop _,key _ _ _ ?_ (fun b o hb e=>?_) hD₃⟩
 · refine W.frame 0 _ _ st fun b hb o e=>?_
   have hbD:b≠D:=fun h=>hDf (h▸hb)
   exact(Heap.get?_update_other _ _ (Ne.symm hbD)).trans ((Heap.get?_update_other _ _ (Ne.symm hbD)).trans e)
 · exact(Heap.get?_update_other _ _ (Ne.symm hb)).trans ((Heap.get?_update_other _ _ (Ne.symm hb)).trans (hk1 b o e))
theorem qw {R:List Value→Shared→Prop}(hh:A.handled=none)(hS:cZ knd (eQ w) s.heap a S n)
   (h:∀ (h':Heap) (tk:Nat) d (acc:Array Value),(∀ b o,s.heap.get? b=some o→h'.get? b=some o)→lq knd S n acc.toList→R acc.toList { s with heap:=h',toks:=tk,drawn:=d }) :
   wpAny (model prog w) A (collect (.ref a)) R E s:=by
 have hlt:=hS.lt
 unfold collect
 refine wpAny_bind (wpAny_runValue (codeAny_builtin entry_proto_collect' ?_))
 rw[Around.under_plainId PySem.F.plain_proto_collect _]
 show wpAny _ A.in1 (newList [] >>= fun l=>again (.builtin "list.__iadd__" ⟨[l,.ref a],[]⟩)) _ _ s
 refine wpAny_bind (wpAny_newObj_type ?_)
 refine wpAny_pure ⟨plainId_quiet PySem.F.plain_list_iadd _,codeAny_builtin entry_list_iadd' ?_⟩
 rw[Around.under_plainId PySem.F.plain_list_iadd _]
 have hS₁:(s.heap.push { cls:=.type "list",data:=.seq ([]:List Value).toArray }).get? s.heap.objs.size=some { cls:=.type "list",data:=.seq #[] }:=Heap.get?_push_size _ rfl
 show wpAny _ A.in1 (Builtin.List.listExtendWith (.ref s.heap.objs.size) (.ref a) (.ref s.heap.objs.size)) _ _ _
 have key:=sV (A:=A) (s:={ s with heap:=s.heap.push { cls:=.type "list",data:=.seq ([]:List Value).toArray } })
   (R:=fun(q:Result)(s':Shared)=>∃ (h':Heap) (tk:Nat)(d:PySem.Drawn)(acc':Array Value) (c':Nat),q=.ok (.ret (.ref s.heap.objs.size))∧s'={ s with heap:=h',toks:=tk,drawn:=d } ∧
     (∀ b o,s.heap.get? b=some o→h'.get? b=some o)∧h'.get? s.heap.objs.size=some { cls:=.type "list",dict:=none,data:=.seq acc' c',slots:=#[] }∧lq knd S n acc'.toList)
   hh (hS.at_ fun o e=>Heap.get?_push_of_some _ e) s.heap.objs.size (Nat.ne_of_gt hlt) (.ref s.heap.objs.size) 0 hS₁
   (fun h' tk d acc' c' hk hS' hacc=>⟨h',tk,d,acc',c',rfl,rfl,fun b o e=>hk b o (Nat.ne_of_lt (Heap.lt_size e)) (Heap.get?_push_of_some _ e),hS',hacc⟩)
 refine wpAny_mono key (fun fin s' x=>?_) fun e s' x=>?_
 · cases fin with
   | done f =>
     obtain⟨h',tk,d,acc',c',e,rfl,hk,hS',hacc⟩:=x
     cases e
     show wpAny _ A (load s.heap.objs.size >>= _) _ _ _
     refine wpAny_bind (wpAny_load hS' ?_)
     exact wpAny_pure (h h' tk d acc' hk hacc)
   | again c₁ =>
     refine⟨x.1,codeAny_mono x.2 fun q s₂ y=>?_⟩
     obtain⟨h',tk,d,acc',c',rfl,rfl,hk,hS',hacc⟩:=y
     show wpAny _ A (load s.heap.objs.size >>= _) _ _ _
     refine wpAny_bind (wpAny_load hS' ?_)
     exact wpAny_pure (h h' tk d acc' hk hacc)
 · obtain⟨_,_,_,_,_,e',_⟩:=x
   cases e'
end
end L2

set_option Elab.async false
set_option linter.all false
set_option maxRecDepth 100000
set_option maxHeartbeats 8000000
namespace L2
open PySem PySem.Spec PyProof.Rows PySem.W
def ui (P:Program)(w:World)(p:Addr)(L:List Str):HO:=.ext fun h=>cZ (PySem.strKind P w) (eQ w) h p (fun k=>decide (k∈L)) L.length
theorem lq.keys {prog:Program}{w:World}{K:Type} [DecidableEq K]{knd:KeyKind prog w K}{L:List K}{vs:List Value}(hn:L.Nodup)(d:lq knd (fun k=>decide (k∈L)) L.length vs):∃ ks:List K,ks.Perm L∧ks.length=vs.length∧∀ (i:Nat) v,vs[i]?=some v→∃ k,ks[i]?=some k∧knd.is k v=true:=by
 obtain⟨d1,d2,d3⟩:=d
 have h:∀ us:List Value,(∀ v∈us,∃ k,knd.is k v=true∧k∈L)→∃ ks:List K,ks.length=us.length∧(∀ (i:Nat) (v:Value),us[i]?=some v→∃ k,ks[i]?=some k∧knd.is k v=true)∧∀ v∈us,∀ k,knd.is k v=true→k∈ks:=by
   intro us
   induction us with
   | nil=>exact fun _=>⟨[],rfl,(fun i v h=>by cases h),fun v hv=>by cases hv⟩
   | cons u us ih =>
     intro hu
     obtain⟨k,hk,_⟩:=hu u (.head _)
     obtain⟨ks,h1,h2,h3⟩:=ih fun v hv=>hu v (.tail _ hv)
     refine⟨k::ks,by simp[h1],fun i v hv=>?_,fun v hv k' hk'=>?_⟩
     · cases i with
       | zero=>cases hv;exact⟨k,rfl,hk⟩
       | succ i=>exact h2 i v hv
     · rcases List.mem_cons.mp hv with rfl | hv
       · rw[knd.inj _ _ _ hk' hk];exact .head _
       · exact .tail _ (h3 v hv k' hk')
 obtain⟨ks,h1,h2,h3⟩:=h vs fun v hv=>let ⟨k,a,b⟩:=d2 v hv;⟨k,a,by simpa using b⟩
 refine⟨ks,gM L ks hn (fun x hx=>?_) (by omega),h1,h2⟩
 obtain⟨v,hv,e⟩:=d3 x (by simpa using hx)
 exact h3 v hv x e
section
variable {X:Cx}
theorem rT (hc:X.calm=true):cx X (.type "set") (fun xs H Q=>∃ (a:Addr)(ss:List Str),xs=[.ref a]∧SqL X.K H a (ss.map V.str)∧ss.length≤1000∧∀ p,H p=none→Q (.ref p) (upd H p (ui X.prog X.w p (dk ss)))):=by
 intro pins s σ H xs us Q I r h
 obtain⟨a,ss,rfl,ha,hn,q⟩:=h
 obtain⟨u,rfl,ru⟩:=dq r
 cases ru
 obtain⟨its,rv,pl,_⟩:=I.list ha
 have hl:=rv.length
 rw[List.length_map] at hl
 have hk:m4 (PySem.strKind X.prog X.w) its.toArray ss:=by
   refine⟨by rw[List.size_toArray];omega,fun i k hi=>?_⟩
   obtain⟨u,hu,t,rfl⟩:=rv.get (i:=i) (x:=V.str k) (by rw[List.getElem?_map,hi];rfl)
   exact⟨.str k t,by simpa using hu,strKind_is _ _ _ _,rfl⟩
 refine tu (I.ok.hd hc) pl.isList hk (by rw[List.size_toArray];unfold scanBound;omega) fun h' tk kk hS=>?_
 have he:∃ o,h'.get? s.heap.objs.size=some o:=by obtain⟨o,_,_,_,e,_⟩:=hS;exact⟨o,e⟩
 exact⟨.ref s.heap.objs.size,_,I.laid (o:=ui X.prog X.w s.heap.objs.size (dk ss)) kk (Nat.le_refl _) ⟨hS,he,fun h1 h2 x k=>cZ.at_ x k⟩,rfl,q _ (I.hok.fresh (Nat.le_refl _))⟩
theorem Inv.drew {pins:List (Addr×Obj)}{σ:St}{H:Hp}{s:Shared}{d:PySem.Drawn}(I:Inv X pins σ H s):Inv X pins σ H { s with drawn:=d } :=
 ⟨I.ok,I.os,I.bare,I.base,I.loc,I.cell,I.free,I.freeC,I.pin,I.hok,I.len⟩
theorem ni (hc:X.calm=true):cx X (.builtin "sorted") (fun xs H Q=>∃ (d:Addr)(L:List Str),xs=[.ref d]∧H d=some (ui X.prog X.w d L)∧L.Nodup∧L.length < 64∧∀ p ss',H p=none→ss'.Perm L→sortedS ss'=true→Q (.ref p) (upd H p (.lst (ss'.map V.str)))):=by
 intro pins s σ H xs us Q I r h
 obtain⟨d,L,rfl,hd,hnd,hn,q⟩:=h
 obtain⟨u,rfl,ru⟩:=dq r
 cases ru
 obtain⟨hS,_⟩:=I.hok d _ hd
 refine Calls.call_function_entry kind_sorted plain_sorted entry_sorted (args_sorted1 _) ?_
 unfold Builtin.«sorted»
 refine wpAny_bind (m:=checkCount "sorted" 1 1 _) (wpAny_pure ?_)
 refine wpAny_bind (qw (A:=X.A.in1) (I.ok.hd hc) hS fun h' tk d' acc kk hacc=>?_)
 obtain⟨ks,k1,k2,k3⟩:=hacc.keys hnd
 have hst:StrsAre acc.toList ks:=by
   refine gc k2.symm fun i v hv=>?_
   obtain⟨k,hk,his⟩:=k3 i v hv
   obtain⟨t,rfl⟩:=Value.isStrOf_shape his
   exact⟨k,t,hk,rfl⟩
 have hal:acc.toList.length < 64:=by rw[←k2,k1.length_eq];exact hn
 refine wpAny_bind (wpAny_newList ?_ (by rw[sizeLine_eq];omega))
 have hoL:(h'.push (seqObj "list" acc.toList.toArray 0)).get? h'.objs.size=some (seqObj "list" acc.toList.toArray 0):=Heap.get?_push_size _ rfl
 refine wpAny_bind (wpAny_holding (wpAny_call_entry slot_list_sort ⟨_,hoL,rfl⟩ entry_list_sort (list_sort_treeK strKind_oneLt hoL hst.keysOf (fun v1 v2 cf e=>keyKind_strs (by rw[←e];exact hst)) (by omega) fun st' a1 a2=>⟨_,rfl,?_⟩) (args_list_sort _)))
 obtain⟨ss',b1,b2,b3⟩:=sorted_out_str hst a1 a2
 have hp:=b2.length_eq
 have I1:Inv X pins σ H { s with heap:=h',toks:=tk,drawn:=d' }:=(I.kept (t':=tk) kk).drew
 obtain⟨e,he⟩:=sortedHeap_at (out:=(arrOf st').map (·.2)) hoL
 refine wpAny_pure ⟨_,rfl,?_⟩
 refine⟨.ref h'.objs.size,_,I1.laid (o:=.lst (ss'.map V.str)) (t':=tk) (fun b o x=>?_) (Nat.le_refl _) ⟨by rw[List.length_map,sizeLine_eq];omega,_,e,gA b1,he⟩,rfl,q _ ss' (I1.hok.fresh (Nat.le_refl _)) (b2.trans k1) b3⟩
 have hlt:=Heap.lt_size x
 rw[sortedHeap_old (Nat.ne_of_lt hlt) (by rw[Heap.size_push];exact Nat.lt_succ_of_lt hlt)]
 exact Heap.get?_push_of_some _ x
end
end L2

set_option Elab.async false
set_option linter.all false
set_option maxRecDepth 100000
set_option maxHeartbeats 8000000
namespace L2
open PySem PySem.Spec PyProof.Rows
section
variable {X:Cx}{N':List Str}{pk:List (Option Nat)}{scope:Scope}
theorem uD {i:Nat}{y:Str}{elt tg iter cnd:Expr}{wi:TI}{g:TG}{tc:TT}{te:TE}{pos spos py:Pos}(hN:X.N.Nodup)(hiy:X.N[i]?=some y)(hy:Loc X.env.scope y)(hc:X.calm=true)(B:cc X.N X.env scope N' pk)(hi:PI X tg iter wi)
   (hg:∀ s H ex,PG (cxB X N' scope s H ex) tg g)(ht:∀ s H ex,PT (cxB X N' scope s H ex) cnd tc)(he:∀ s H ex,PE (cxB X N' scope s H ex) elt te)
   (hsw:swapsWith (.ListComp elt [⟨tg,iter,[cnd],0⟩] scope pos) (some (.Name y py)) spos.line X.env=pure true:=by rfl)
   (hs:∀ x,foldedSetIterable iter X.env x=pure x:=by intro _;rfl)(hf:X.fn y=true∨X.env.scope.names.lookup y=some .local:=by first | exact .inl rfl | exact .inr rfl | assumption) :
   PS X (.Assign [.Name y py] (.ListComp elt [⟨tg,iter,[cnd],0⟩] scope pos) spos) (uB (pz pk wi g tc te) (cT i)):=by
 intro pins s σ H D0 I h
 rw[exec_Assign_Name_used _ _ _ _ hsw]
 refine wpAny_bind (wpAny_standAt (wpAny_bind ?_))
 show wpAny _ X.A (do let _ ←comprehension (.ListComp elt [⟨tg,iter,[cnd],0⟩] scope pos) scope X.env _ (newList []) false (eval iter X.env) (some (assign (.Name y py) X.env))) _ _ s
 refine wpAny_bind (wpAny_mono (wpAny_comprehension_free (use:=some (assign (.Name y py) X.env)) (Q:=fun _ s'=>SP X pins D0 .next s') rfl hs (fH (iy I B)) B.kind B.names
   (thn (hi s σ H _ I h) fun v s1 h1=>thn h1 fun itv s2 ⟨it,fp,tn,J,H2,e,I2,T,st2,f2,hW⟩=>?_)) (fun _ s' hq=>wpAny_pure (wpAny_pure hq)) fun _ _ e=>e)
 subst e
 refine mq (QD:=fun D H'=>D0.nx (σ.set i (some (.ref D))) H') (RR:=fun acc C=>compPost (model X.prog X.w) X.A X.xe (some (assign (.Name y py) X.env)) (fun _ s'=>SP X pins D0 .next s') acc C) I2 B hc T st2 f2 hg ht he hW fun D C s' H' m I' f' hn q=>?_
 refine wpAny_assign_Name (iX (v:=.ref D) I' hN hiy hy rfl (fun s3 I3 ⟨a,hsa,ha⟩=>?_) hf)
 have hCa:C≠a:=by
   rcases ha with z | z
   · exact z▸f'.2.1
   · exact fun e=>f'.2.2.2.2.1 _ _ z e.symm
 exact⟨m,hn.sameBut hsa hCa,fun h' hs'=>⟨_,H',I3.gone f' hs',q⟩⟩
end
end L2

set_option Elab.async false
set_option linter.all false
set_option maxRecDepth 100000
set_option maxHeartbeats 8000000
namespace L2
open PySem PySem.Spec PyProof.Rows
/-! ### zip of three lists -/
section
variable {prog:Program}{w:World}{A:Around}{E:Value→Shared→Prop}{s:Shared}
end
end L2

set_option Elab.async false
set_option linter.all false
set_option maxRecDepth 100000
set_option maxHeartbeats 8000000
namespace L2
open PySem PySem.Spec PyProof.Rows
section
variable {prog:Program}{w:World}{A:Around}{E:Value→Shared→Prop}{s:Shared}{z TI TO i1 i2 i3 l1 l2 l3:Addr}{k:Nat}{xs ys us:Array Value}{x y u a b c:Value}
end
end L2

set_option Elab.async false
set_option linter.all false
set_option maxRecDepth 100000
set_option maxHeartbeats 8000000
namespace L2
open PySem PySem.Spec PyProof.Rows
section
variable {prog:Program}{w:World}{A:Around}{E:Value→Shared→Prop}{s:Shared}{z TI TO i1 i2 i3 l1 l2 l3:Addr}{k:Nat}{xs ys us:Array Value}{x y u a b c:Value}
end
def It3 (K:PySem.W.Frag)(a b c:Addr):It :=
 ⟨fun i H=>∃ xs x ys y us u,SqL K H a xs∧xs[i]?=some x∧SqL K H b ys∧ys[i]?=some y∧SqL K H c us∧us[i]?=some u,
   fun i H v H'=>∃ T x y u,H T=none∧v=.ref T∧H'=upd H T (.tup [x,y,u])∧(∀ xs,SqL K H a xs→xs[i]?=some x)∧(∀ ys,SqL K H b ys→ys[i]?=some y)∧∀ us,SqL K H c us→us[i]?=some u,
   fun i H=>∃ xs ys us,SqL K H a xs∧SqL K H b ys∧SqL K H c us∧xs.length≤i⟩
def yT (K:PySem.W.Frag)(ta:TA):TI:=fun σ H R=>ta σ H fun vs H1=>∃ a b c,vs=[.ref a,.ref b,.ref c]∧(∃ xs,SqL K H1 a xs)∧(∃ ys,SqL K H1 b ys)∧(∃ us,SqL K H1 c us)∧R (It3 K a b c) H1
section
variable {X:Cx}
end
end L2

set_option Elab.async false
set_option linter.all false
set_option maxRecDepth 100000
set_option maxHeartbeats 8000000
namespace L2
open PySem PySem.Spec PyProof.Rows
def y9 (K:PySem.W.Frag)(te:TE)(ts:TO):TE:=fun σ H Q=>te σ H fun x H1=>ts σ H1 fun st H2=>st=some (-1)∧∃ a xs,x=.ref a∧SqL K H2 a xs∧∀ p,H2 p=none→Q (.ref p) (upd H2 p (.lst xs.reverse))
section
variable {X:Cx}{te:TE}{ts:TO}{e ce:Expr}{p2 p3 pos:Pos}
end
end L2

set_option Elab.async false
set_option linter.all false
namespace L2
open PySem
def pj (e xs:List V):Bool:=(e.zip xs).all fun p=>eqV p.1 p.2
def tQ (H:Hp)(xs:List V) (u:Value):Bool:=match u with
 | .ref q=>(match H q with | some (.tup e)=>pj e xs | _=>false)
 | _=>false
theorem pq {H:Hp}{xs:List V}:∀ {qs:List Addr}{us:List Value}{L:List (List V)},Vals (qs.map V.ref) us→qs.length=L.length→(∀ (i:Nat) q e,qs[i]?=some q→L[i]?=some e→H q=some (.tup e))→us.any (tQ H xs)=L.any fun e=>pj e xs
 | [],_,[],.nil,_,_=>rfl
 | q::qs,u::us,e::L,.cons r t,hl,h=>by
   cases r
   have h0:=h 0 q e rfl rfl
   rw[List.any_cons,List.any_cons,pq t (Nat.succ.inj hl) fun i=>h (i+1)]
   congr 1
   show(match H q with | some (.tup e)=>pj e xs | _=>false)=_
   rw[h0]
theorem tm:∀ (xs ys:List V),xs.length=ys.length→((List.range xs.length).all fun j=>eqV (xs.getD j .non) (ys.getD j .non))=pj xs ys:=fun xs ys h=>vT xs ys h
def y3 (K:PySem.W.Frag)(neg:Bool):R2:=fun x y H Q=>∃ (a p:Addr)(xs:List V)(qs:List Addr)(L:List (List V)),x=.ref a∧y=.ref p∧H a=some (.tup xs)∧SqL K H p (qs.map V.ref)∧qs.length=L.length∧(∀ (i:Nat) q e,qs[i]?=some q→L[i]?=some e→H q=some (.tup e))∧a∉qs∧(∀ e∈L,e.length=xs.length∧e.all dR=true)∧xs.all dR=true∧Q (.bl (neg^^L.any fun e=>pj e xs)) H
section
variable {X:Cx}
theorem lC (hu:X.A.units+1 < cLine):OpR X (compareOp .NotIn) (y3 X.K true):=by
 intro pins s σ H x y v u Q I rx ry h
 obtain⟨a,p,xs,qs,L,rfl,rfl,ha,hp,hlen,hT,hn,hf,fx,q⟩:=h
 cases rx
 cases ry
 obtain⟨its,r,pl,hz⟩:=I.list hp
 obtain⟨it2,r2,pl2,_⟩:=I.tuple (SqT.of ha)
 refine SeqAt.notIn_listAt (tQ H xs) pl.isList (fun w hw=>?_) ⟨.bl _,H,I,rfl,?_⟩
 · obtain⟨i,hi⟩:=List.getElem?_of_mem (show w∈its by simpa using hw)
   have hil:=(List.getElem?_eq_some_iff.mp hi).1
   have rl:=r.length
   rw[List.length_map] at rl
   obtain⟨qq,hq⟩:∃ z,qs[i]?=some z:=⟨_,List.getElem?_eq_getElem (by omega)⟩
   obtain⟨e,he⟩:∃ z,L[i]?=some z:=⟨_,List.getElem?_eq_getElem (by omega)⟩
   obtain⟨u1,hu1,ru1⟩:=r.get (show(qs.map V.ref)[i]?=some (V.ref qq) by rw[List.getElem?_map,hq];rfl)
   rw[hi] at hu1
   cases hu1
   cases ru1
   have hqe:=hT i qq e hq he
   obtain⟨it1,r1,pl1,_⟩:=I.tuple (SqT.of hqe)
   have hfe:=hf e (List.mem_of_getElem? he)
   have l1:=r1.length
   have l2:=r2.length
   have ev:tQ H xs (.ref qq)=((List.range (min it1.toArray.size it2.toArray.size)).all (fun j=>eqV (e.getD j .non) (xs.getD j .non))&&it1.toArray.size==it2.toArray.size):=by
     have e1:it1.toArray.size=e.length:=by simp[l1]
     have e2:it2.toArray.size=e.length:=by simp[←l2,hfe.1]
     rw[e1,e2,Nat.min_self,beq_self_eq_true,Bool.and_true,tm _ _ hfe.1]
     show(match H qq with | some (.tup e)=>pj e xs | _=>false)=_
     rw[hqe]
   rw[ev]
   exact SeqAt.EqAt.of_refs (fun z=>hn (by rw[←z];exact List.mem_of_getElem? hq)) (SeqAt.RcAt.tuples pl1 pl2 hu (tK r1 r2 hfe.2 fx hfe.1))
 · rw[show its.toArray.any (tQ H xs)=its.any (tQ H xs) by simp,pq r hlen hT]
   rw[Bool.true_xor] at q
   exact q
end
end L2

set_option Elab.async false
set_option linter.all false
set_option maxRecDepth 100000
set_option maxHeartbeats 8000000
namespace DM
open PySem L2
def top (i:Nat):Stmt:=PySem.Challenge.pw_dipmaps_k40_whole_cloths_to_one.main.body.getD i (.Pass ⟨0,0,0,0⟩)
abbrev i6:Stmt:=cg (top 39) 0
abbrev fu:Stmt:=cg (top 39) 1
abbrev mo:Stmt:=cg (top 39) 4
abbrev hU:Stmt:=cg (top 39) 7
abbrev fw:Stmt:=cg (top 39) 8
abbrev gB:Stmt:=cg (top 39) 9
abbrev fb:Stmt:=cg (top 39) 11
abbrev ez:Stmt:=cg (top 39) 12
abbrev je:Stmt:=cg (top 39) 13
abbrev lX:Stmt:=top 38
abbrev gn:Stmt:=top 59
abbrev lW:Stmt:=top 24
abbrev sAt:Stmt:=top 47
abbrev jc:Stmt:=top 48
abbrev mr:Stmt:=top 49
abbrev iG:Stmt:=top 50
abbrev gC:Stmt:=top 51
abbrev mh:Stmt:=top 52
abbrev i0:Stmt:=top 53
abbrev iJ:Stmt:=top 54
abbrev i5:Stmt:=top 55
abbrev jg:Stmt:=top 56
abbrev fP:Stmt:=top 57
abbrev gH:Stmt:=top 58
abbrev mP:Stmt:=top 69
abbrev gE:Stmt:=top 28
abbrev e8:Stmt:=top 29
abbrev i9:Stmt:=top 30
abbrev gj:Stmt:=top 31
abbrev jT:Stmt:=cg (top 32) 0
abbrev fe:Stmt:=cg (top 32) 1
abbrev gF:Stmt:=cg (top 32) 2
abbrev fj:Stmt:=cg (top 32) 3
abbrev kH:Stmt:=cg (top 32) 4
abbrev d8:Stmt:=cg (top 32) 6
abbrev eC:Stmt:=cg (top 32) 7
abbrev lS:Stmt:=top 41
abbrev iR:Stmt:=top 42
abbrev kf:Stmt:=top 62
abbrev mf:Stmt:=top 14
abbrev sC:Stmt:=top 61
abbrev g6:Stmt:=top 60
abbrev gq:Stmt:=top 43
abbrev iT:Stmt:=top 44
abbrev mz:Stmt:=top 45
abbrev me:Stmt:=top 64
abbrev d5:Stmt:=top 63
abbrev d9:Stmt:=top 16
abbrev jS:Stmt:=top 17
abbrev ia:Stmt:=top 18
abbrev fU:Stmt:=top 19
abbrev dr:Stmt:=top 20
abbrev iZ:Stmt:=top 65
abbrev gS:Stmt:=top 66
abbrev gG:Stmt:=top 67
abbrev ic:Stmt:=top 68
local macro_rules | `(tactic| walk_at "dm")=>`(tactic| simp only[yo,yA,wW,tOp,tw,tCB,cV,pD,yg,tC,rI0,rI,qu,ye,yi,uB,cT,wQ,wZ,tOr,yE,yh,tB,xn,y7,ym,tIf,yz,xx,vj,wP,wE,tUn,rU,tSl,yq,rn,xg,rIn,yl,uS,rf,rE,pf,wO,wS,uQ,vt,vq,pz,xx,yP,qP,xc,yN,w6,xF,  xj,yR,yT,y9,xl,yV,ipI,yp,xb,yf,yQ,dQ,pS,yj,tBM,yW,x3,tU,yI,om,vU,y1,wV,wM,mF,wB,xv,gP,rEq,rNe,wR,wu,yX,xR,xt,yM,tZ,List.map_cons,List.map_nil,List.length_cons,List.length_nil,List.cons_append,List.nil_append,Nat.sub_self,Nat.reduceSub,Nat.reduceAdd,List.replicate,List.getElem?_cons_zero,List.getElem?_cons_succ,List.getElem?_nil,Option.bind_some,Option.bind_none,id_eq,Option.some.injEq,exists_eq_left',exists_eq_left,V.int.injEq,V.ref.injEq,V.str.injEq,V.bl.injEq,V.ty.injEq,List.cons.injEq,and_true,true_and,List.set_cons_zero,List.set_cons_succ,List.append_nil,exists_and_left,exists_and_right,and_assoc,exists_const,decide_eq_true_eq,Bool.not_eq_true',decide_eq_false_iff_not,if_true,if_false,Bool.false_eq_true])
def bz:Str:="abcdefghijklmnopqrstuvwxyz"
def inS (z:Str):Bool:=!(Builtin.Str.occurrences bz z 0 bz.length 1).isEmpty
def inL (c:Nat):Bool:=inS ⟨#[c]⟩
def bu (z:Str):Bool:=(decide (1≤z.length)&&decide (z.length≤8))&&z.cps.toList.all inL
def atL (ns:List Int) (k:Int):Int:=if k < ns.length then ns.getD k.toNat 0 else 0
def rV (K:PySem.W.Frag):Sp:=fun vs H Q _=>∃ (a:Addr)(ns:List Int) (k:Int),vs=[.ref a,.int k]∧SqL K H a (ns.map V.int)∧0≤k∧Q (.int (atL ns k)) H
def qj:Sp:=fun vs H Q _=>∃ z:Str,vs=[.str z]∧z.length≤1000∧∀ H',af H H'→Q (.bl (bu z)) H'
theorem cO {K:PySem.W.Frag}{H:Hp}{a:Addr}{ns:List Int}{k:Int}{Q:VK}{E:XK}(ha:SqL K H a (ns.map V.int))(h0:0≤k)(q:Q (.int (atL ns k)) H):rV K [.ref a,.int k] H Q E:=⟨a,ns,k,rfl,ha,h0,q⟩
structure Txt (mg:Str→Option Value):Prop where
 len:mg "len"=none
 all:mg "all"=none
 range:mg "range"=none
 isi:mg "isinstance"=none
 list:mg "list"=none
 str:mg "str"=none
 sorted:mg "sorted"=none
 tuple:mg "tuple"=none
 dict:mg "dict"=none
 zip:mg "zip"=none
 set:mg "set"=none
 min:mg "min"=none
 int:mg "int"=none
 lett:∃ t,mg "LETTERS"=some (.str bz t)
 long:∃ t,mg "LONGEST"=some (.int 8 t)
theorem aP:(1000:Nat)≤sizeLine:=by rw[sizeLine_eq];decide
theorem ef {α:Type} (n:Nat)(l:List α)(f:Nat→V)(h:α→V)(hl:l.length=n)(e:∀ i x,l[i]?=some x→f i=h x):(List.range n).map f=l.map h:=by
 refine List.ext_getElem? fun i=>?_
 rw[List.getElem?_map,List.getElem?_map]
 by_cases hi:i < n
 · rw[List.getElem?_range hi,List.getElem?_eq_getElem (by omega)]
   show some (f i)=some (h _)
   rw[e i _ (List.getElem?_eq_getElem (by omega))]
 · rw[List.getElem?_eq_none (by simpa using hi),List.getElem?_eq_none (by omega)]
   rfl
section
variable {P:Program}{w:World}{K:PySem.W.Frag}{mg:Str→Option Value}{base:Heap}
theorem za:au ["_law_script", "_law_k"] ["_law_script", "_law_k"] (ae sAt):=⟨rfl,rfl,rfl,by decide +kernel,rfl,by decide +kernel,by decide +kernel⟩
theorem yJ {f:Addr}{fd:FuncData}(F:Fun K "_law_at" "_law_at" sAt f fd)(T:Txt mg):aw P w K mg base CX0 1 f fd ["_law_script", "_law_k"] (rV K):=by
 refine F.ok za (fun vs H Q E h=>?_) (fun cdv A outer s H vs Q E hr h=>?_)
 · obtain⟨a,ns,k,rfl,_⟩:=h
   rfl
 · obtain⟨a,ns,k,rfl,ha,h0,q⟩:=h
   refine⟨_,am (aR (aF js (pv 1) (al aE (by rfl) T.len PySem.boot_len (aa (pv 0) ad)) (aM _)) (ag (ar (aK aG (pv 0) (pv 1) (fun _ _=>rfl)))) aB) (ag (ar ah)),?_⟩
   walk_at "dm"
   refine⟨_,.inl ha,?_⟩
   rw[List.length_map]
   unfold atL at q
   refine aV (fun hk=>?_) (fun hk=>?_)
   · rw[if_pos hk] at q
     refine⟨_,ha,_,?_,q⟩
     obtain⟨j,rfl⟩:=Int.eq_ofNat_of_zero_le h0
     have hl:j < ns.length:=by omega
     refine eS ?_
     rw[List.getElem?_map,List.getD_eq_getElem?_getD,Int.toNat_natCast,List.getElem?_eq_getElem hl]
     rfl
   · rw[if_neg hk] at q
     exact q
theorem xM:au ["text"] ["text"] (ae lW):=⟨rfl,rfl,rfl,by decide +kernel,rfl,by decide +kernel,by decide +kernel⟩
theorem v6 {f:Addr}{fd:FuncData}(F:Fun K "good_name" "good_name" lW f fd)(T:Txt mg):aw P w K mg base CX0 1 f fd ["text"] qj:=by
 refine F.ok xM (fun vs H Q E h=>?_) (fun cdv A outer s H vs Q E hr h=>?_)
 · obtain⟨z,rfl,_⟩:=h
   rfl
 · obtain⟨z,rfl,hz,q⟩:=h
   obtain⟨tl,hlett⟩:=T.lett
   obtain⟨tg,hlong⟩:=T.long
   refine⟨_,am (aR (PW.pt (fc (aF js (al ix (by rfl) T.len PySem.boot_len (aa (pv 0) ad)) ah (aM _)) (eu (aF iE (al ix (by rfl) T.len PySem.boot_len (aa (pv 0) ad)) (da (v:=.int 8) rfl hlong ⟨_,rfl⟩) (aM _))))) (ag (ar cm)) aB)
     (ag (ar (al (vv rfl) (by rfl) T.all (by decide +kernel) (aa (cM (N':=["sign"]) (pk:=[none]) rfl (cc.of (by rfl)) (xY (pv 0)) (fun s H ex=>ao (i:=0) (by show(["sign"]:List Str).Nodup;decide) rfl (Or.inl rfl)) (fun s H ex=>dA se (pv 0) (da (v:=.str bz) rfl hlett ⟨_,rfl⟩) (by with_unfolding_all rfl))) ad)))),?_⟩
   have hsz:=aP
   walk_at "dm"
   have main:1≤z.length→z.length≤8→∀ (D:Addr),H D=none→l9 (Itw z.cps.size fun i v=>∃ c,z.cps[i]?=some c∧v=V.str ⟨#[c]⟩) (cT 0)
         (tOp (fun x y H Q=>∃ i,x=V.str i∧∃ x,y=V.str x∧Q (V.bl !(Builtin.Str.occurrences x i 0 x.length 1).isEmpty) H) (tw 0) (tC (V.str bz)))
         D (fun H'=>∃ x,SqL K H' D (List.map V.bl x)∧Q (V.bl (x.all id)) H') [none] (upd H D (HO.lst [])):=fun h1 h8 D hD=>by
     have hsize:z.cps.size=z.length:=rfl
     refine cz nV (by omega) hD (fun σ=>∃ o,σ=[o]) (fun i=>.bl (inL (z.cps.getD i 0))) ⟨none,rfl⟩ ?_ ?_
     · rintro i x σ' H' hi ⟨c,hc,rfl⟩ ⟨o,rfl⟩ hS R hR
       walk_at "dm"
       have e:inL (z.cps.getD i 0)=!(Builtin.Str.occurrences bz ⟨#[c]⟩ 0 bz.length 1).isEmpty:=by
         rw[Array.getD_eq_getD_getElem?,hc]
         rfl
       rw[←e]
       exact hR _ ⟨_,rfl⟩
     · have e:(List.range z.cps.size).map (fun i=>V.bl (inL (z.cps.getD i 0)))=(z.cps.toList.map inL).map V.bl:=by
         rw[List.map_map]
         refine ef _ z.cps.toList _ _ (by simp) fun i x hx=>?_
         have hx':z.cps[i]?=some x:=by simpa using hx
         rw[Array.getD_eq_getD_getElem?,hx']
         rfl
       rw[e]
       refine⟨z.cps.toList.map inL,SqL.of ac,?_⟩
       have e2:(z.cps.toList.map inL).all id=bu z:=by
         unfold bu
         rw[List.all_map,decide_eq_true h1,decide_eq_true h8]
         rfl
       rw[e2]
       exact q _ (af.updN hD)
   have f0:¬(1≤z.length∧z.length≤8)→bu z=false:=fun h=>by
     unfold bu
     by_cases h1:1≤z.length
     · rw[decide_eq_false (p:=z.length≤8) (fun h8=>h ⟨h1,h8⟩)];simp
     · rw[decide_eq_false h1];simp
   refine⟨by omega,aV (fun h1=>?_) (fun h1=>⟨by omega,aV (fun h2=>?_) (fun h2=>main (by omega) (by omega))⟩)⟩
   · rw[←f0 (by omega)];exact q H (af.refl H)
   · rw[←f0 (by omega)];exact q H (af.refl H)
def dst (cell bound mixed:Int):Nat→Int×Int×List Int
 | 0=>(cell,(cell % 2147483647*48271+11) % 2147483647,[])
 | i+1=>((dst cell bound mixed i).1 / bound,((dst cell bound mixed i).2.1*69621+40014+i) % 2147483647,
     (dst cell bound mixed i).2.2++[if mixed=0 then(dst cell bound mixed i).1 % bound else((dst cell bound mixed i).2.1*69621+40014+i) % 2147483647 / 8 % bound])
def g9 (cell bound mixed:Int) (n:Nat):List Int:=(dst cell bound mixed n).2.2
theorem fh (cell bound mixed:Int):∀ n,(g9 cell bound mixed n).length=n
 | 0=>rfl
 | n+1=>by
   have ih:=fh cell bound mixed n
   unfold g9 at ih ⊢
   show((dst cell bound mixed n).2.2++_).length=n+1
   rw[List.length_append,ih]
   rfl
theorem iW {cell bound mixed:Int}(hb:0 < bound):∀ n,∀ x∈g9 cell bound mixed n,0≤x∧x < bound
 | 0,x,h=>by cases h
 | n+1,x,h=>by
   have h':x∈(dst cell bound mixed n).2.2++[if mixed=0 then(dst cell bound mixed n).1 % bound else((dst cell bound mixed n).2.1*69621+40014+n) % 2147483647 / 8 % bound]:=h
   rcases List.mem_append.mp h' with q | q
   · exact iW hb n x q
   · rw[List.mem_singleton.mp q]
     split
     · exact⟨Int.emod_nonneg _ (by omega),Int.emod_lt_of_pos _ hb⟩
     · exact⟨Int.emod_nonneg _ (by omega),Int.emod_lt_of_pos _ hb⟩
def jI:Sp:=fun vs H Q _=>∃ cell many bound mixed:Int,vs=[.int cell,.int many,.int bound,.int mixed]∧0≤many∧many≤1000∧0 < bound∧bound < 2 ^ 62∧(mixed=0∨mixed=1) ∧
 ∀ l H',H l=none→af H H'→H' l=some (.lst ((g9 cell bound mixed many.toNat).map V.int))→Q (.ref l) H'
theorem fk:au ["_law_cell", "_law_many", "_law_bound", "_law_mixed", "_law_drawn_here", "_law_rest", "_law_spun", "_law_k"] ["_law_cell", "_law_many", "_law_bound", "_law_mixed"] (ae jc):=⟨rfl,rfl,rfl,by decide +kernel,rfl,by decide +kernel,by decide +kernel⟩
theorem t7 {f:Addr}{fd:FuncData}(F:Fun K "_law_draws" "_law_draws" jc f fd)(T:Txt mg):aw P w K mg base CX0 1 f fd ["_law_cell", "_law_many", "_law_bound", "_law_mixed"] jI:=by
 refine F.ok fk (fun vs H Q E h=>?_) (fun cdv A outer s H vs Q E hr h=>?_)
 · obtain⟨_,_,_,_,rfl,_⟩:=h
   rfl
 · obtain⟨cell,many,bound,mixed,rfl,hm0,hm1,hb0,hb1,hmix,q⟩:=h
   refine⟨_,am (ay (i:=4) fk.nd rfl (Or.inl rfl) (bp ad))
     (am (ay (i:=5) fk.nd rfl (Or.inl rfl) (pv 0))
     (am (ay (i:=6) fk.nd rfl (Or.inl rfl) (aC bn (aC bQ (aC gf (aC bn (pv 0) ah) ah) ah) ah))
     (am (bj PassesOwn.never rfl (cC rfl T.range (aa (pv 1) ad)) (ao (i:=7) fk.nd rfl (Or.inl rfl))
       (am (ay (i:=6) fk.nd rfl (Or.inl rfl) (aC bn (aC bQ (aC bQ (aC gf (pv 6) ah) ah) (pv 7)) ah))
       (am (aU (cX PySem.F.plainAttrs_list PySem.F.slot_list_append PySem.F.type_list_append cj (pv 4) (aa (aK aG (bp (aa (aC bn (pv 5) (pv 2)) (aa (aC bn (aC cq (pv 6) ah) (pv 2)) ad))) (pv 3) (fun _ _=>rfl)) ad)))
       (ag (ay (i:=5) fk.nd rfl (Or.inl rfl) (aC cq (pv 5) (pv 2)))))))
     (ag (ar (pv 4)))))),?_⟩
   have hs:=aP
   walk_at "dm"
   refine⟨by omega,fun l hl=>⟨by omega,.inr ⟨by omega,by omega⟩,by omega,by omega,by omega,?_⟩⟩
   refine a9 (H0:=H) bM (fun i σ H'=>∃ o,σ=[some (V.int cell),some (V.int many),some (V.int bound),some (V.int mixed),some (V.ref l),some (V.int (dst cell bound mixed i).1),some (V.int (dst cell bound mixed i).2.1),o]∧af H H'∧H' l=some (.lst ((g9 cell bound mixed i).map V.int)))
     ⟨none,rfl,af.updN hl,ac⟩ (fun _ _ _ _ ⟨_,_,h,_⟩=>h) ?_ ?_
   · rintro i x σ H' hi rfl ⟨o,rfl,hS,hH⟩
     walk_at "dm"
     have ne:∀ p,H' p=none→l≠p:=fun p hp=>ak hH hp
     refine⟨.inr ⟨by omega,by omega⟩,by omega,.inl ⟨rfl,_,SqL.of hH⟩,hb0,by omega,by omega,hb0,by omega,fun p hp=>?_⟩
     have hz:(0:Int)+(i:Int)=i:=by omega
     rw[hz]
     refine⟨_,SqL.of ac,(V.int (if mixed=0 then(dst cell bound mixed i).1 % bound else((dst cell bound mixed i).2.1*69621+40014+i) % 2147483647 / 8 % bound)),?_,_,by rw[ai (ne p hp)];exact hH,?_,hb0,by omega,rfl,rfl,?_,?_⟩
     · rcases hmix with rfl | rfl
       · rfl
       · rfl
     · rw[List.length_map,fh];omega
     · exact(hS.step (hS.free hp)).step hl
     · rw[ac]
       unfold g9
       rw[show(dst cell bound mixed (i+1)).2.2=(dst cell bound mixed i).2.2++[if mixed=0 then(dst cell bound mixed i).1 % bound else((dst cell bound mixed i).2.1*69621+40014+i) % 2147483647 / 8 % bound] from rfl,List.map_append]
       rfl
   · rintro σ H' ⟨o,rfl,hS,hH⟩
     walk_at "dm"
     exact q l H' hl hS hH
end

section
variable {P:Program}{w:World}{K:PySem.W.Frag}{mg:Str→Option Value}{base:Heap}
def cU (c:Nat):Prop:=97≤c∧c≤122
theorem uU:bz.cps.toList=(List.range 26).map (fun i=>97+i):=by decide +kernel
theorem vR {j:Nat}(h:j < 26):bz.cps.toList[j]?=some (97+j):=by rw[uU,List.getElem?_map,List.getElem?_range h];rfl
theorem pW {i:Int}(h0:0≤i)(h1:i < 26):atI bz.cps.toList i=some (97+i.toNat):=by
 obtain⟨j,rfl⟩:=Int.eq_ofNat_of_zero_le h0
 exact eS (vR (by omega))
theorem wc {c:Nat}(h:cU c):inL c=true:=by
 have key:∀ i:_root_.Fin 26,inL (97+i.val)=true:=by decide +kernel
 have:=key ⟨c - 97,by unfold cU at h;omega⟩
 have e:97+(c - 97)=c:=by unfold cU at h;omega
 rw[show(97+(⟨c - 97,by unfold cU at h;omega⟩:_root_.Fin 26).val)=c from e] at this
 exact this
theorem vd {c:Nat}(h:cU c):Txt.find bz ⟨#[c]⟩=((c - 97:Nat):Int):=by
 have key:∀ i:_root_.Fin 26,Txt.find bz ⟨#[97+i.val]⟩=(i.val:Int):=by decide +kernel
 have:=key ⟨c - 97,by unfold cU at h;omega⟩
 have e:97+(c - 97)=c:=by unfold cU at h;omega
 rw[show(97+(⟨c - 97,by unfold cU at h;omega⟩:_root_.Fin 26).val)=c from e] at this
 exact this
structure Nm (z:Str):Prop where
 lo:1≤z.length
 hi:z.length≤8
 all:∀ c∈z.cps.toList,cU c
theorem Nm.good {z:Str}(h:Nm z):bu z=true:=by
 unfold bu
 rw[decide_eq_true h.lo,decide_eq_true h.hi,Bool.true_and,Bool.true_and]
 exact List.all_eq_true.mpr fun c hc=>wc (h.all c hc)
theorem Nm.of_list {z:Str}{l:List Nat}(e:z.cps.toList=l)(h1:1≤l.length)(h8:l.length≤8)(ha:∀ c∈l,cU c):Nm z:=by
 have hl:z.length=l.length:=by rw[←e];exact Array.length_toList.symm
 exact⟨by omega,by omega,by rw[e];exact ha⟩
theorem ii (a y:Str):(a++y).cps.toList=a.cps.toList++y.cps.toList:=by
 rw[Str.cps_append,Array.toList_append]
theorem eT (a y:Str):(a++y).length=a.length+y.length:=PySem.Str.length_append a y
theorem eI (z:Str):z.length=z.cps.toList.length:=Array.length_toList.symm
theorem qB:(Str.ofString "").cps.toList=[]:=by decide +kernel
def uo:Sp:=fun vs H Q _=>∃ seed style:Int,vs=[.int seed,.int style]∧0≤style∧style < 4∧∀ z H',Nm z→af H H'→Q (.str z) H'
theorem sS:∀ (i:_root_.Fin 8),(Txt.slice (Str.ofString "mmmmmmmm") none (some (i.val:Int))).cps.toList=List.replicate i.val 109∧(Txt.slice (Str.ofString "mmmmmmmm") (some ((i.val:Int)+1)) none).cps.toList=List.replicate (7 - i.val) 109:=by decide +kernel
end

section
variable {P:Program}{w:World}{K:PySem.W.Frag}{mg:Str→Option Value}{base:Heap}
theorem gi:au ["_law_seed", "_law_style", "_law_letters", "_law_rest", "_law_wide", "_law_word", "_law_k"] ["_law_seed", "_law_style"] (ae mr):=⟨rfl,rfl,rfl,by decide +kernel,rfl,by decide +kernel,by decide +kernel⟩
theorem vJ {f:Addr}{fd:FuncData}(F:Fun K "_law_name" "_law_name" mr f fd)(T:Txt mg):aw P w K mg base CX0 1 f fd ["_law_seed", "_law_style"] uo:=by
 refine F.ok gi (fun vs H Q E h=>?_) (fun cdv A outer s H vs Q E hr h=>?_)
 · obtain⟨_,_,rfl,_⟩:=h
   rfl
 · obtain⟨seed,style,rfl,h0,h4,q⟩:=h
   refine⟨_,am (ay (i:=2) gi.nd rfl (Or.inl rfl) ba)
     (am (ay (i:=3) gi.nd rfl (Or.inl rfl) (aC cq (pv 0) ah))
     (aj (aR (aF dn (pv 1) ah (aM _)) (ag (ar (aC cv (aC cv (dc pV ba eV (dC (aC bn (pv 3) ah))) (aK nv (pv 2) (aC bn (aC cq (pv 3) ah) ah) (fun _ _=>rfl))) (dc pV ba (dC (aC bQ (aC bn (pv 3) ah) ah)) eV)))) aB)
     (aj (aR (aF dn (pv 1) ah (aM _)) (ag (ar (aK aG (bp yH) (aC bn (pv 0) ah) (fun _ _=>rfl)))) aB)
     (aj (ay (i:=4) gi.nd rfl (Or.inl rfl) (aK aG (bp (aa ah (aa ah ad))) (pv 1) (fun _ _=>rfl)))
     (am (ay (i:=5) gi.nd rfl (Or.inl rfl) ba)
     (am (bj PassesOwn.never rfl (cC rfl T.range (aa (aC bQ ah (aC bn (pv 0) ah)) ad)) (ao (i:=6) gi.nd rfl (Or.inl rfl))
       (am (ay (i:=5) gi.nd rfl (Or.inl rfl) (aC cv (pv 5) (aK nv (pv 2) (aC bn (pv 3) (pv 4)) (fun _ _=>rfl))))
       (ag (ay (i:=3) gi.nd rfl (Or.inl rfl) (aC cq (pv 3) (pv 4))))))
     (ag (ar (pv 5))))))))),?_⟩
   have hs:=aP
   walk_at "dm"
   refine⟨by decide,by decide,?_⟩
   refine cut (fun σ' H'=>σ'=[some (.int seed),some (.int style),some (.str bz),some (.int (seed / 8)),none,none,none]∧H'=H∧style≠2) ?_ ?_
   · walk_at "dm"
     refine⟨rfl,aV (fun _=>?_) (fun h=>⟨rfl,h⟩)⟩
     have hi:∃ i:_root_.Fin 8,seed / 8 % 8=(i.val:Int):=⟨⟨(seed / 8 % 8).toNat,by omega⟩,by show seed / 8 % 8=(((seed / 8 % 8).toNat:Nat):Int);omega⟩
     obtain⟨i,hi⟩:=hi
     rw[hi]
     obtain⟨m1,m2⟩:=sS i
     have l1:(Txt.slice (Str.ofString "mmmmmmmm") none (some (i.val:Int))).length=i.val:=by rw[eI,m1,List.length_replicate]
     have l2:(Txt.slice (Str.ofString "mmmmmmmm") (some ((i.val:Int)+1)) none).length=7 - i.val:=by rw[eI,m2,List.length_replicate]
     have hl:=i.isLt
     refine⟨by decide,by decide +kernel,by decide,by decide,by decide,by decide +kernel,_,pW (by omega) (by omega),?_⟩
     have l3:∀ c:Nat,(⟨#[c]⟩:Str).length=1:=fun _=>rfl
     rw[l1,l3,eT,l1,l3,l2]
     refine⟨by omega,by decide,by decide +kernel,by omega,q _ H (Nm.of_list (l:=List.replicate i.val 109++[97+(seed / 8 / 8 % 26).toNat]++List.replicate (7 - i.val) 109) ?_ ?_ ?_ ?_) (af.refl H)⟩
     · rw[ii,ii,m1,m2]
     · simp only[List.length_append,List.length_replicate,List.length_singleton];omega
     · simp only[List.length_append,List.length_replicate,List.length_singleton];omega
     · intro c hc
       rcases List.mem_append.mp hc with hc | hc
       · rcases List.mem_append.mp hc with hc | hc
         · rw[(List.mem_replicate.mp hc).2];exact⟨by decide,by decide⟩
         · rw[List.mem_singleton.mp hc];unfold cU;omega
       · rw[(List.mem_replicate.mp hc).2];exact⟨by decide,by decide⟩
   rintro σ1 H1 ⟨rfl,rfl,h2⟩
   refine cut (fun σ' H'=>σ'=[some (.int seed),some (.int style),some (.str bz),some (.int (seed / 8)),none,none,none]∧H'=H1∧style≠3) ?_ ?_
   · walk_at "dm"
     refine⟨rfl,aV (fun _=>⟨by omega,fun p hp=>⟨by decide,_,SqL.of ac,?_⟩⟩) (fun h=>h)⟩
     have h8:seed % 8=0∨seed % 8=1∨seed % 8=2∨seed % 8=3∨seed % 8=4∨seed % 8=5∨seed % 8=6∨seed % 8=7:=by omega
     have nm:∀ z:Str,(decide (1≤z.length)&&decide (z.length≤8)&&z.cps.toList.all fun c=>decide (97≤c)&&decide (c≤122))=true→Nm z:=fun z h=>by
       rw[Bool.and_eq_true,Bool.and_eq_true] at h
       refine⟨by simpa using h.1.1,by simpa using h.1.2,fun c hc=>?_⟩
       have:=List.all_eq_true.mp h.2 c hc
       simpa [cU] using this
     rcases h8 with e | e | e | e | e | e | e | e<;>(rw[e];exact⟨_,rfl,q _ _ (nm _ (by decide +kernel)) (af.updN hp)⟩)
   rintro σ2 H2 ⟨rfl,rfl,h3⟩
   refine cut (fun σ' H'=>∃ wd:Int,(wd=26∨wd=2)∧σ'=[some (.int seed),some (.int style),some (.str bz),some (.int (seed / 8)),some (.int wd),none,none]∧af H2 H') ?_ ?_
   · walk_at "dm"
     refine⟨by omega,fun p hp=>⟨_,SqL.of ac,?_⟩⟩
     have h01:style=0∨style=1:=by omega
     rcases h01 with e | e
     · rw[e];exact⟨_,rfl,26,.inl rfl,rfl,af.updN hp⟩
     · rw[e];exact⟨_,rfl,2,.inr rfl,rfl,af.updN hp⟩
   rintro σ3 H3 ⟨wd,hwd,rfl,S3⟩
   walk_at "dm"
   refine⟨by decide,by omega,by omega,?_⟩
   refine a9 (H0:=H3) bM (fun i σ' H'=>∃ (cf:Int) (z:Str)(o:Option V),σ'=[some (.int seed),some (.int style),some (.str bz),some (.int cf),some (.int wd),some (.str z),o]∧H'=H3∧z.length=i∧∀ c∈z.cps.toList,cU c)
     ⟨_,_,none,rfl,rfl,by decide +kernel,fun c hc=>by rw[qB] at hc;cases hc⟩ (fun _ _ _ _ ⟨_,_,_,_,e,_⟩=>by rw[e];exact af.refl _) ?_ ?_
   · rintro i x σ H' hi rfl ⟨cf,z,o,rfl,rfl,hl,ha⟩
     have hw0:0 < wd:=by omega
     have hm0:=Int.emod_nonneg cf (show wd≠0 by omega)
     have hm1:=Int.emod_lt_of_pos cf hw0
     have hi8:i < 8:=by omega
     have l3:∀ c:Nat,(⟨#[c]⟩:Str).length=1:=fun _=>rfl
     walk_at "dm"
     refine⟨hw0,by decide +kernel,_,pW hm0 (by omega),by rw[l3];omega,⟨_,rfl⟩,hw0,by omega,by rw[eT,l3,hl],fun c hc=>?_⟩
     rw[ii] at hc
     rcases List.mem_append.mp hc with hc | hc
     · exact ha c hc
     · rw[List.mem_singleton.mp hc];unfold cU;omega
   · rintro σ H' ⟨cf,z,o,rfl,rfl,hl,ha⟩
     walk_at "dm"
     exact q z _ ⟨by omega,by omega,ha⟩ S3
end

section
variable {P:Program}{w:World}{K:PySem.W.Frag}{mg:Str→Option Value}{base:Heap}
theorem kn (l:List Nat):∀ n,n≤l.length→(List.range n).filterMap (fun i=>l[i]?)=l.take n
 | 0,_=>by simp
 | n+1,h=>by
   rw[List.range_succ,List.filterMap_append,kn l n (by omega),List.take_succ,List.getElem?_eq_getElem (by omega)]
   simp[List.getElem?_eq_getElem (show n < l.length by omega)]
theorem vh (n:Nat)(h:1≤n):Builtin.Str.strSliceIndices none (some (-1)) 1 n=List.range (n - 1):=by
 rw[StrLaws.sliceIdx_neg_hi none n (by decide) (by omega)]
 have e:(-1:Int)+(n:Int)=((n - 1:Nat):Int):=by omega
 rw[e]
 have h0:=StrLaws.strSliceIndices_plain (a:=0) (b:=n - 1) (len:=n) (by omega) (by omega)
 have e0:Builtin.Str.strSliceIndices none (some ((n - 1:Nat):Int)) 1 n=Builtin.Str.strSliceIndices (some ((0:Nat):Int)) (some ((n - 1:Nat):Int)) 1 n:=by
   have m0:max (0:Int) (min (0:Int) (n:Int))=0:=by omega
   simp[Builtin.Str.strSliceIndices,m0]
 rw[e0,h0]
 simp
theorem pE (z:Str)(h:1≤z.length):(Txt.slice z none (some (-1))).cps.toList=z.cps.toList.dropLast:=by
 unfold Txt.slice
 rw[vh _ h,List.length_range]
 have hne:¬((1:Int)==1&&(z.length - 1)==z.length)=true:=by
   rw[Bool.and_eq_true]
   intro hh
   have:=of_decide_eq_true hh.2
   omega
 rw[if_neg hne]
 show(List.filterMap (fun i=>z.cps[i]?) (List.range (z.length - 1))).toArray.toList=_
 have e:(fun i:Nat=>z.cps[i]?)=fun i=>z.cps.toList[i]?:=by funext i;simp
 rw[e,kn _ _ (by rw[Array.length_toList];exact Nat.sub_le _ _),List.dropLast_eq_take,←eI]
def mkN (p:List Nat) (k:Nat):Str:=⟨(p++[97+k % 26]).toArray⟩
theorem eF (p:List Nat) (k:Nat):(mkN p k).cps.toList=p++[97+k % 26]:=by simp[mkN]
theorem ra (p:List Nat) (k:Nat):(mkN p k).length=p.length+1:=by rw[eI,eF];simp
theorem vN {p:List Nat}{j k:Nat}(h:mkN p j=mkN p k):j % 26=k % 26:=by
 have:=congrArg (fun z:Str=>z.cps.toList) h
 simp only[eF] at this
 have:=List.append_cancel_left this
 simp at this
 exact this
theorem gm {a b:Str}(h:a.cps.toList=b.cps.toList):a=b:=by
 have e2:a.cps=b.cps:=Array.toList_inj.mp h
 cases a
 cases b
 simp only at e2
 rw[e2]
theorem Nm.toMk {z:Str}(h:Nm z):∃ p k,z=mkN p k∧p.length≤7∧∀ c∈p,cU c:=by
 have hne:z.cps.toList≠[]:=by
   intro e
   have:=h.lo
   rw[eI,e] at this
   simp at this
 have hl:=h.all _ (List.getLast_mem hne)
 refine⟨z.cps.toList.dropLast,z.cps.toList.getLast hne - 97,gm ?_,?_,fun c hc=>h.all c (List.dropLast_subset _ hc)⟩
 · rw[eF]
   have e:97+(z.cps.toList.getLast hne - 97) % 26=z.cps.toList.getLast hne:=by unfold cU at hl;omega
   rw[e];exact(List.dropLast_concat_getLast hne).symm
 · have:=h.hi
   rw[eI] at this
   rw[List.length_dropLast]
   omega
theorem Nm.of_mk {p:List Nat}{k:Nat}(hp:p.length≤7)(ha:∀ c∈p,cU c):Nm (mkN p k):=by
 refine Nm.of_list (eF p k) (by simp) (by simp;omega) fun c hc=>?_
 rcases List.mem_append.mp hc with hc | hc
 · exact ha c hc
 · rw[List.mem_singleton.mp hc];unfold cU;omega
theorem uI:∀ {l m:List Str},l.Nodup→(∀ x∈l,x∈m)→l.length≤m.length
 | [],m,_,_=>Nat.zero_le _
 | a::l,m,hn,hs=>by
   obtain⟨h1,h2⟩:=List.nodup_cons.mp hn
   have ham:a∈m:=hs a List.mem_cons_self
   have:=uI (l:=l) (m:=m.erase a) h2 fun x hx=>(List.mem_erase_of_ne (fun e=>h1 (by rw[←e];exact hx))).mpr (hs x (List.mem_cons_of_mem _ hx))
   rw[List.length_erase_of_mem ham] at this
   have hpos:=List.length_pos_of_mem ham
   rw[List.length_cons]
   omega
theorem nE (p:List Nat) (k:Nat)(ws:List Str)(h:ws.length≤25):∃ t,t≤25∧mkN p (k+t)∉ws:=by
 refine Classical.byContradiction fun hno=>?_
 have hall:∀ t,t≤25→mkN p (k+t)∈ws:=fun t ht=>Classical.byContradiction fun hn=>hno ⟨t,ht,hn⟩
 have hnd:((List.range 26).map fun t=>mkN p (k+t)).Nodup:=by
   refine List.pairwise_map.mpr ?_
   refine List.Pairwise.imp_of_mem ?_ List.nodup_range
   intro a b ha hb hab e
   have:=vN e
   have:=List.mem_range.mp ha
   have:=List.mem_range.mp hb
   omega
 have:=uI hnd fun x hx=>by
   obtain⟨t,ht,rfl⟩:=List.mem_map.mp hx
   exact hall t (by have:=List.mem_range.mp ht;omega)
 rw[List.length_map,List.length_range] at this
 omega
theorem fF (x:Str):∀ ws:List Str,inV (.str x) (ws.map V.str)=decide (x∈ws)
 | []=>rfl
 | y::r=>by
   have ih:=fF x r
   unfold inV at ih ⊢
   rw[List.map_cons,List.any_cons,ih]
   show((y==x)||decide (x∈r))=decide (x∈y::r)
   rw[Bool.eq_iff_iff]
   simp only[Bool.or_eq_true,beq_iff_eq,decide_eq_true_eq,List.mem_cons]
   constructor
   · rintro(h | h)
     · exact .inl h.symm
     · exact .inr h
   · rintro(h | h)
     · exact .inl h.symm
     · exact .inr h
theorem ee (ws:List Str):(ws.map V.str).all dR=true:=by
 rw[List.all_map]
 exact List.all_eq_true.mpr fun _ _=>rfl
end

section
variable {P:Program}{w:World}{K:PySem.W.Frag}{mg:Str→Option Value}{base:Heap}
def qT:Sp:=fun vs H Q _=>∃ cell many style mixed:Int,vs=[.int cell,.int many,.int style,.int mixed]∧0≤many∧many≤20∧0≤style∧style < 4∧(mixed=0∨mixed=1) ∧
 ∀ l (ws:List Str) H',H l=none→af H H'→H' l=some (.lst (ws.map V.str))→(ws.length:Int)=many→ws.Nodup→(∀ x∈ws,Nm x)→Q (.ref l) H'
theorem gx:au ["_law_cell", "_law_many", "_law_style", "_law_mixed", "_law_letters", "_law_words", "_law_seed", "_law_one"] ["_law_cell", "_law_many", "_law_style", "_law_mixed"] (ae iG):=⟨rfl,rfl,rfl,by decide +kernel,rfl,by decide +kernel,by decide +kernel⟩
theorem vk {f fD fN:Addr}{fd fdD fdN:FuncData}(F:Fun K "_law_names" "_law_names" iG f fd)(T:Txt mg)(GD:aw P w K mg base CX0 1 fD fdD ["_law_cell", "_law_many", "_law_bound", "_law_mixed"] jI)(kD:PySem.W.keepIn K (.ref fD)=true)(bD:az K fdD ["_law_cell", "_law_many", "_law_bound", "_law_mixed"] [])(mD:mg "_law_draws"=some (.ref fD))
   (GN:aw P w K mg base CX0 1 fN fdN ["_law_seed", "_law_style"] uo)(kN:PySem.W.keepIn K (.ref fN)=true)(bN:az K fdN ["_law_seed", "_law_style"] [])(mN:mg "_law_name"=some (.ref fN)) :
   aw P w K mg base CX0 2 f fd ["_law_cell", "_law_many", "_law_style", "_law_mixed"] qT:=by
 refine F.ok gx (fun vs H Q E h=>?_) (fun cdv A outer s H vs Q E hr h=>?_)
 · obtain⟨_,_,_,_,rfl,_⟩:=h
   rfl
 · obtain⟨cell,many,style,mixed,rfl,hm0,hm1,hs0,hs4,hmix,q⟩:=h
   refine⟨_,am (ay (i:=4) gx.nd rfl (Or.inl rfl) ba)
     (am (ay (i:=5) gx.nd rfl (Or.inl rfl) (bp ad))
     (am (bj PassesOwn.never rfl (aQ (aq GD hr rfl mD kD bD .nil aH (aa (pv 0) (aa (pv 1) (aa (aC gf ah (aC xW ah ah)) (aa (pv 3) ad)))))) (ao (i:=6) gx.nd rfl (Or.inl rfl))
       (am (ay (i:=7) gx.nd rfl (Or.inl rfl) (aq GN hr rfl mN kN bN .nil aH (aa (pv 6) (aa (pv 2) ad))))
       (aj (lh PassesOwn.never (aF sK (pv 7) (pv 5) (by with_unfolding_all rfl)) (ag (ay (i:=7) gx.nd rfl (Or.inl rfl) (aC cv (dc pV (pv 7) eV (dC (k6 g8 ah))) (aK nv (pv 4) (aC bn (aC bQ (cX PySem.F.plainAttrs_str PySem.F.slot_str_index PySem.F.type_str_index (uj rfl) (pv 4) (aa (aK nv (pv 7) (k6 g8 ah) (fun _ _=>rfl)) ad)) ah) ah) (fun _ _=>rfl))))))
       (ag (aU (cX PySem.F.plainAttrs_list PySem.F.slot_list_append PySem.F.type_list_append cj (pv 5) (aa (pv 7) ad)))))))
     (ag (ar (pv 5))))),?_⟩
   have hs:=aP
   walk_at "dm"
   refine⟨by omega,fun p hp=>⟨⟨by decide,by decide,by decide⟩,.inl ⟨by decide,by decide⟩,_,_,_,_,rfl,hm0,by omega,by decide,by decide,hmix,fun l H1 hl S1 hH1=>?_⟩⟩
   walk_at "dm"
   have hpl:p≠l:=fun e=>by rw[e,ac] at hl;cases hl
   have hHl:H l=none:=by rw[ai (Ne.symm hpl)] at hl;exact hl
   have hL:=fh cell (8*26 ^ Int.toNat 8) mixed many.toNat
   generalize g9 cell (8*26 ^ Int.toNat 8) mixed many.toNat=L at hH1 hL
   have S0:af (upd H l (.lst (L.map V.int))) H1:=fun b o e=>by
     by_cases hb:b=l
     · rw[hb,ac] at e;rw[hb,←e];exact hH1
     · rw[ai hb] at e
       exact S1 b o (by rw[ai (ak e hp)];exact e)
   have hp0:(upd H l (.lst (L.map V.int))) p=none:=by rw[ai hpl];exact hp
   refine⟨⟨_,SqL.of hH1⟩,?_⟩
   refine a9 (H0:=upd H l (.lst (L.map V.int))) (ax (SqL.of ac)) (fun i σ' H'=>∃ (ws:List Str)(o1 o2:Option V),σ'=[some (.int cell),some (.int many),some (.int style),some (.int mixed),some (.str bz),some (.ref p),o1,o2] ∧
     af (upd H l (.lst (L.map V.int))) H'∧H' p=some (.lst (ws.map V.str))∧ws.length=i∧ws.Nodup∧∀ x∈ws,Nm x)
     ⟨[],none,none,rfl,S0,S1 _ _ ac,rfl,List.nodup_nil,fun x hx=>by cases hx⟩ (fun _ _ _ _ ⟨_,_,_,_,h,_⟩=>h) ?_ ?_
   · rintro i x σ H' hi hx ⟨ws,o1,o2,rfl,hS,hH,hwl,hnd,hnm⟩
     rw[List.getElem?_map] at hx
     obtain⟨y,hy,rfl⟩:=Option.map_eq_some_iff.mp hx
     rw[List.length_map] at hi
     walk_at "dm"
     refine⟨_,_,rfl,hs0,hs4,fun z H2 hz S2=>?_⟩
     have hH2:H2 p=some (.lst (ws.map V.str)):=S2 _ _ hH
     refine cut (fun σ' H'=>∃ z',Nm z'∧z'∉ws∧σ'=[some (.int cell),some (.int many),some (.int style),some (.int mixed),some (.str bz),some (.ref p),some (.int y),some (.str z')]∧H'=H2) ?_ ?_
     · obtain⟨pp,k0,rfl,hp7,hpa⟩:=hz.toMk
       obtain⟨t0,ht0,hfree⟩:=nE pp k0 ws (by omega)
       refine⟨fun m σ' H'=>∃ k t,t≤m∧mkN pp (k+t)∉ws∧σ'=[some (.int cell),some (.int many),some (.int style),some (.int mixed),some (.str bz),some (.ref p),some (.int y),some (.str (mkN pp k))]∧H'=H2,⟨25,k0,t0,ht0,hfree,rfl,rfl⟩,?_⟩
       rintro m σ' H' ⟨k,t,htm,hfr,rfl,rfl⟩
       walk_at "dm"
       refine⟨_,.inl (SqL.of hH2),rfl,ee ws,?_⟩
       rw[fF]
       refine aV (fun hin=>?_) (fun hin=>?_)
       · have hin':mkN pp k∈ws:=of_decide_eq_true hin
         have ht:t≠0:=fun e=>hfr (by rw[e];exact hin')
         have hlen8:(mkN pp k).length≤8:=by rw[ra];omega
         have hlet:cU (97+k % 26):=by unfold cU;omega
         have hf:=vd hlet
         have hn1:97+k % 26 - 97=k % 26:=by omega
         rw[hn1] at hf
         have hsl:(Txt.slice (mkN pp k) none (some (-1))).cps.toList=pp:=by rw[pE _ (by rw[ra];omega),eF,List.dropLast_concat]
         have hsll:(Txt.slice (mkN pp k) none (some (-1))).length=pp.length:=by rw[eI,hsl]
         have e1:(((k % 26:Nat):Int)+1) % 26=(((k+1) % 26:Nat):Int):=by omega
         have hnew:Txt.slice (mkN pp k) none (some (-1))++(⟨#[97+(((k+1) % 26:Nat):Int).toNat]⟩:Str)=mkN pp (k+1):=by
           refine gm ?_
           rw[ii,hsl,eF,Int.toNat_natCast]
         refine⟨fun σ' H''=>σ'=[some (.int cell),some (.int many),some (.int style),some (.int mixed),some (.str bz),some (.ref p),some (.int y),some (.str (mkN pp (k+1)))]∧H''=H',?_,by omega,rfl,by omega,_,by rw[eF];exact iB _ _,by rw[hf];omega,by decide,by decide +kernel,_,by rw[hf,e1];exact pW (by omega) (by omega),?_,?_⟩
         · rintro σ' H'' ⟨rfl,rfl⟩
           refine⟨m - 1,by omega,k+1,t - 1,by omega,?_,rfl,rfl⟩
           rw[show k+1+(t - 1)=k+t by omega]
           exact hfr
         · rw[hsll];show pp.length+1≤sizeLine;omega
         · rw[hnew];exact⟨rfl,rfl⟩
       · have hin':mkN pp k∉ws:=of_decide_eq_false (by simpa using hin)
         exact⟨mkN pp k,Nm.of_mk hp7 hpa,hin',rfl⟩
     rintro σ2 H3 ⟨z',hz',hnin,rfl,rfl⟩
     walk_at "dm"
     have hnd':(ws++[z']).Nodup:=mK hnd hnin
     refine⟨.inl ⟨rfl,_,SqL.of hH2⟩,_,hH2,by rw[List.length_map];omega,⟨_,rfl⟩,(fun b o e=>by rw[ai (ak e hp0)];exact S2 b o (hS b o e)),ws++[z'],?_,?_,hnd',?_⟩
     · rw[ac,List.map_append];rfl
     · rw[List.length_append,hwl];rfl
     · intro x hx
       rcases List.mem_append.mp hx with hx | hx
       · exact hnm x hx
       · rw[List.mem_singleton.mp hx];exact hz'
   · rintro σ H' ⟨ws,o1,o2,rfl,hS,hH,hwl,hnd,hnm⟩
     walk_at "dm"
     refine q p ws H' hp (fun b o e=>hS b o (by rw[ai (ak e hHl)];exact e)) hH ?_ hnd hnm
     rw[hwl,List.length_map];omega
end

section
variable {P:Program}{w:World}{K:PySem.W.Frag}{mg:Str→Option Value}{base:Heap}
def inR (n:Nat)(l:List Int):Prop:=l.length=n∧∀ x∈l,0≤x∧x < n
def oU (K:PySem.W.Frag):Sp:=fun vs H Q _=>∃ (n:Nat) (shape:Int)(a:Addr)(L:List Int),vs=[.int n,.int shape,.ref a]∧1≤n∧n≤12∧SqL K H a (L.map V.int)∧inR n L ∧
 ∀ l (os:List Int) H',H l=none→af H H'→H' l=some (.lst (os.map V.int))→inR n os→Q (.ref l) H'
theorem jO {n:Nat}{l:List Int}(h:inR n l){i:Nat}(hi:i < n):∃ x,l[i]?=some x∧0≤x∧x < n:=by
 have hl:i < l.length:=by rw[h.1];exact hi
 exact⟨l[i],List.getElem?_eq_getElem hl,h.2 _ (List.getElem_mem hl)⟩
theorem ky {n k:Nat}{l:List Int}{x:Int}(h:l.length=k∧∀ y∈l,0≤y∧y < n)(h0:0≤x)(h1:x < n):(l++[x]).length=k+1∧∀ y∈l++[x],0≤y∧y < n:=by
 refine⟨by rw[List.length_append,h.1];rfl,fun y hy=>?_⟩
 rcases List.mem_append.mp hy with hy | hy
 · exact h.2 y hy
 · rw[List.mem_singleton.mp hy];exact⟨h0,h1⟩
theorem jP {L:List Int}{i:Nat}{x:Int}(h:L[i]?=some x):atI (L.map V.int) (i:Int)=some (V.int x):=eS (by rw[List.getElem?_map,h];rfl)
theorem eG:au ["_law_many", "_law_shape_here", "_law_drawn_here", "_law_outs_here", "_law_k", "_law_low", "_law_high"] ["_law_many", "_law_shape_here", "_law_drawn_here"] (ae gC):=⟨rfl,rfl,rfl,by decide +kernel,rfl,by decide +kernel,by decide +kernel⟩
theorem tD {f:Addr}{fd:FuncData}(F:Fun K "_law_turned" "_law_turned" gC f fd)(T:Txt mg):aw P w K mg base CX0 1 f fd ["_law_many", "_law_shape_here", "_law_drawn_here"] (oU K):=by
 refine F.ok eG (fun vs H Q E h=>?_) (fun cdv A outer s H vs Q E hr h=>?_)
 · obtain⟨_,_,_,_,rfl,_⟩:=h
   rfl
 · obtain⟨n,shape,a,L,rfl,hn1,hn12,ha,hL,q⟩:=h
   refine⟨_,aj (aR (aF dn (pv 1) ah (aM _)) (ag (ar (cM (N':=["_law_k", "_law_many", "_law_drawn_here"]) (pk:=[none,some 0,some 2]) rfl (cc.of (by rfl)) (cC rfl T.range (aa (pv 0) ad)) (fun s H ex=>ao (i:=0) (by show(["_law_k", "_law_many", "_law_drawn_here"]:List Str).Nodup;decide +kernel) rfl (Or.inl rfl))
         (fun s H ex=>al (gk rfl) (by rfl) T.min (by decide +kernel) (aa (aC bQ (pv 0) (aC bn (aK (aG:IxR _ (qu K)) (pv 2) (pv 0) (fun _ _=>rfl)) ah)) (aa (aC tV (pv 1) ah) ad)))))) aB)
     (aj (aR (aF dn (pv 1) ah (aM _)) (ag (ar (aC x6 (bp (aa (aK aG (pv 2) ah (fun _ _=>rfl)) ad)) (pv 0)))) aB)
     (am (ay (i:=3) eG.nd rfl (Or.inl rfl) (bp ad))
     (am (bj PassesOwn.never rfl (cC rfl T.range (aa (pv 0) ad)) (ao (i:=4) eG.nd rfl (Or.inl rfl))
       (aj (ay (i:=5) eG.nd rfl (Or.inl rfl) (aK aG (bp (aa ah (aa (aC cq (pv 0) ah) ad))) (aZ dw (by rfl) T.int (by decide +kernel) (aa (dA jr (pv 4) (aC cq (pv 0) ah) (aM _)) ad)) (fun _ _=>rfl)))
       (aj (ay (i:=6) eG.nd rfl (Or.inl rfl) (aK aG (bp (aa (aC cq (pv 0) ah) (aa (pv 0) ad))) (aZ dw (by rfl) T.int (by decide +kernel) (aa (dA jr (pv 4) (aC cq (pv 0) ah) (aM _)) ad)) (fun _ _=>rfl)))
       (ag (aR (aF dn (pv 1) ah (aM _))
         (aj (ay (i:=5) eG.nd rfl (Or.inl rfl) (aK aG (bp (aa ah (aa ah (aa ah ad)))) (aC bQ (aZ dw (by rfl) T.int (by decide +kernel) (aa (dA jr (pv 4) ah (aM _)) ad)) (aZ dw (by rfl) T.int (by decide +kernel) (aa (dA jr (pv 4) ah (aM _)) ad))) (fun _ _=>rfl)))
         (aj (ay (i:=6) eG.nd rfl (Or.inl rfl) (al (gk rfl) (by rfl) T.min (by decide +kernel) (aa (aK aG (bp (aa ah (aa ah (aa ah ad)))) (aC bQ (aZ dw (by rfl) T.int (by decide +kernel) (aa (dA jr (pv 4) ah (aM _)) ad)) (aZ dw (by rfl) T.int (by decide +kernel) (aa (dA jr (pv 4) ah (aM _)) ad))) (fun _ _=>rfl)) (aa (pv 0) ad))))
         (ag (aU (cX PySem.F.plainAttrs_list PySem.F.slot_list_append PySem.F.type_list_append cj (pv 3) (aa (aK aG (bp (aa (pv 5) (aa (aC bQ (pv 4) ah) ad))) (aZ dw (by rfl) T.int (by decide +kernel) (aa (dA js (aC bQ (pv 4) ah) (pv 6) (aM _)) ad)) (fun _ _=>rfl)) ad))))))
         (ag (aU (cX PySem.F.plainAttrs_list PySem.F.slot_list_append PySem.F.type_list_append cj (pv 3) (aa (aC bQ (pv 5) (aC bn (aK aG (pv 2) (pv 4) (fun _ _=>rfl)) (aC tV (pv 6) (pv 5)))) ad)))))))))
     (ag (ar (pv 3)))))),?_⟩
   have hs:=aP
   refine cut (fun σ' H'=>σ'=[some (.int n),some (.int shape),some (.ref a),none,none,none,none]∧H'=H) ?_ ?_
   · walk_at "dm"
     refine⟨rfl,aV (fun h4=>⟨by omega,by omega,fun D hD=>?_⟩) (fun _=>trivial)⟩
     have out:∀ i,∃ y:Int,i < n→∃ x,L[i]?=some x∧(0≤y∧y < n)∧y=(if(n:Int) - 1 < (0+(i:Int))+x % 2 then(n:Int) - 1 else(0+(i:Int))+x % 2):=fun i=>by
       by_cases hi:i < n
       · obtain⟨x,hx,h0,h1⟩:=jO hL hi
         refine⟨_,fun _=>⟨x,hx,?_,rfl⟩⟩
         split<;>omega
       · exact⟨0,fun h=>absurd h hi⟩
     refine cz bM (by omega) hD (fun σ=>∃ o,σ=[o,some (.int n),some (.ref a)]) (fun i=>.int (out i).choose) ⟨none,rfl⟩ ?_ ?_
     · rintro i x σ' H' hi rfl ⟨o,rfl⟩ hS R hR
       obtain⟨x,hx,_,e⟩:=(out i).choose_spec (by omega)
       walk_at "dm"
       refine⟨_,hS.seq ha,V.int x,?_,_,rfl,by decide,?_⟩
       · rw[show(0:Int)+(i:Int)=(i:Int) by omega];exact jP hx
       · rw[←e];exact hR _ ⟨_,rfl⟩
     · have en:((n:Int)).toNat=n:=by omega
       rw[en]
       refine q D ((List.range n).map fun i=>(out i).choose) _ hD (af.updN hD) ?_ ⟨by rw[List.length_map,List.length_range],fun x hx=>?_⟩
       · rw[ac,List.map_map];rfl
       · obtain⟨i,hi,rfl⟩:=List.mem_map.mp hx
         obtain⟨_,_,h,_⟩:=(out i).choose_spec (List.mem_range.mp hi)
         exact h
   rintro σ1 H1 ⟨rfl,rfl⟩
   refine cut (fun σ' H'=>σ'=[some (.int n),some (.int shape),some (.ref a),none,none,none,none]∧H'=H1) ?_ ?_
   · walk_at "dm"
     refine⟨rfl,aV (fun h6=>?_) (fun _=>trivial)⟩
     obtain⟨x,hx,h0,h1⟩:=jO hL (show 0 < n by omega)
     refine⟨_,ha,_,jP hx,by omega,fun p hp=>⟨_,ac,by omega,by omega,?_,fun p1 hp1=>?_⟩⟩
     · rw[List.length_singleton];omega
     · have en:((n:Int)).toNat=n:=by omega
       rw[en]
       have hp1':H1 p1=none:=(af.updN hp).free hp1
       refine q p1 (List.replicate n x) _ hp1' ((af.updN hp).step hp1') ?_ ⟨List.length_replicate,fun y hy=>?_⟩
       · rw[ac,List.map_replicate,List.flatten_replicate_singleton]
       · rw[(List.mem_replicate.mp hy).2];exact⟨h0,h1⟩
   rintro σ2 H2 ⟨rfl,rfl⟩
   walk_at "dm"
   refine⟨by omega,fun p hp=>⟨by omega,by omega,?_⟩⟩
   refine a9 (H0:=H2) bM (fun i σ' H'=>∃ (os:List Int)(o4 o5 o6:Option V),σ'=[some (.int n),some (.int shape),some (.ref a),some (.ref p),o4,o5,o6]∧af H2 H'∧H' p=some (.lst (os.map V.int))∧os.length=i∧∀ y∈os,0≤y∧y < n)
     ⟨[],none,none,none,rfl,af.updN hp,ac,rfl,fun y hy=>by cases hy⟩ (fun _ _ _ _ ⟨_,_,_,_,_,h,_⟩=>h) ?_ ?_
   · rintro i x σ H' hi rfl ⟨os,o4,o5,o6,rfl,hS,hH,hl⟩
     have hin:i < n:=by omega
     have ei:(0:Int)+(i:Int)=i:=by omega
     rw[ei]
     walk_at "dm"
     refine cut (fun σ' H''=>∃ lo:Int,lo=(if(n:Int) / 2≤i then(n:Int) / 2 else 0)∧σ'=[some (.int n),some (.int shape),some (.ref a),some (.ref p),some (.int i),some (.int lo),o6]∧af H2 H''∧H'' p=some (.lst (os.map V.int))) ?_ ?_
     · walk_at "dm"
       refine⟨by decide,by decide,by omega,fun p1 hp1=>⟨by decide,by decide,.inr ⟨_,SqL.of ac,V.int (if(n:Int) / 2≤i then(n:Int) / 2 else 0),?_,rfl,hS.step (hS.free hp1),?_⟩⟩⟩
       · split<;>rfl
       · rw[ai (ak hH hp1)];exact hH
     rintro σ3 H3 ⟨lo,hlo,rfl,S3,hH3⟩
     refine cut (fun σ' H''=>∃ hi:Int,hi=(if(n:Int) / 2≤i then(n:Int) else(n:Int) / 2)∧σ'=[some (.int n),some (.int shape),some (.ref a),some (.ref p),some (.int i),some (.int lo),some (.int hi)]∧af H2 H''∧H'' p=some (.lst (os.map V.int))) ?_ ?_
     · walk_at "dm"
       refine⟨by decide,by decide,by omega,fun p1 hp1=>⟨by decide,by decide,.inr ⟨_,SqL.of ac,V.int (if(n:Int) / 2≤i then(n:Int) else(n:Int) / 2),?_,rfl,S3.step (S3.free hp1),?_⟩⟩⟩
       · split<;>rfl
       · rw[ai (ak hH3 hp1)];exact hH3
     rintro σ4 H4 ⟨hi,hhi,rfl,S4,hH4⟩
     walk_at "dm"
     refine⟨rfl,aV (fun h7=>?_) (fun h7=>?_)⟩
     · refine cut (fun σ' H''=>∃ lo:Int,(0≤lo∧lo≤i)∧σ'=[some (.int n),some (.int shape),some (.ref a),some (.ref p),some (.int i),some (.int lo),some (.int hi)]∧af H2 H''∧H'' p=some (.lst (os.map V.int))) ?_ ?_
       · walk_at "dm"
         refine⟨by omega,fun p1 hp1=>.inr (.inr ?_)⟩
         refine⟨_,SqL.of ac,V.int (if(7:Int)≤i then 7 else if(3:Int)≤i then 3 else 0),?_,_,?_,?_,rfl,S4.step (S4.free hp1),?_⟩
         · by_cases c7:(7:Int)≤i
           · rw[if_pos c7,if_pos c7,if_pos (show(3:Int)≤i by omega)];rfl
           · rw[if_neg c7,if_neg c7];split<;>rfl
         · split<;>(try split)<;>omega
         · split<;>(try split)<;>omega
         · rw[ai (ak hH4 hp1)];exact hH4
       rintro σ5 H5 ⟨lo',hlo',rfl,S5,hH5⟩
       refine cut (fun σ' H''=>∃ hi:Int,hi≤n∧σ'=[some (.int n),some (.int shape),some (.ref a),some (.ref p),some (.int i),some (.int lo'),some (.int hi)]∧af H2 H''∧H'' p=some (.lst (os.map V.int))) ?_ ?_
       · walk_at "dm"
         refine⟨by omega,fun p1 hp1=>.inr (.inr ?_)⟩
         refine⟨_,SqL.of ac,V.int (if(7:Int)≤i then 12 else if(3:Int)≤i then 7 else 3),?_,_,rfl,_,?_,rfl,S5.step (S5.free hp1),?_⟩
         · by_cases c7:(7:Int)≤i
           · rw[if_pos c7,if_pos c7,if_pos (show(3:Int)≤i by omega)];rfl
           · rw[if_neg c7,if_neg c7];split<;>rfl
         · split<;>omega
         · rw[ai (ak hH5 hp1)];exact hH5
       rintro σ6 H6 ⟨hi',hhi',rfl,S6,hH6⟩
       walk_at "dm"
       refine⟨.inl ⟨rfl,_,SqL.of hH6⟩,by omega,fun p1 hp1=>.inr ⟨_,SqL.of ac,V.int (if(i:Int)+1 < hi' then(i:Int)+1 else lo'),?_,_,by rw[ai (ak hH6 hp1)];exact hH6,by rw[List.length_map];omega,⟨_,rfl⟩,(S6.step (S6.free hp1)).step hp,os++[if(i:Int)+1 < hi' then(i:Int)+1 else lo'],?_,ky hl ?_ ?_⟩⟩
       · split<;>rfl
       · rw[ac,List.map_append];rfl
       · split<;>omega
       · split<;>omega
     · obtain⟨x,hx,h0,h1⟩:=jO hL hin
       have hpos:0 < hi - lo:=by rw[hhi,hlo];split<;>omega
       have hm0:=Int.emod_nonneg x (show hi - lo≠0 by omega)
       have hm1:=Int.emod_lt_of_pos x hpos
       have hlo0:0≤lo:=by rw[hlo];split<;>omega
       have hhin:hi≤n:=by rw[hhi];split<;>omega
       refine⟨.inl ⟨rfl,_,SqL.of hH4⟩,_,S4.seq ha,_,jP hx,_,rfl,hpos,_,hH4,by rw[List.length_map];omega,⟨_,rfl⟩,S4.step hp,os++[lo+x % (hi - lo)],?_,ky hl (by omega) (by omega)⟩
       rw[ac,List.map_append];rfl
   · rintro σ H' ⟨os,o4,o5,o6,rfl,hS,hH,hl⟩
     walk_at "dm"
     have en:((n:Int)).toNat=n:=by omega
     rw[en] at hl
     exact q p os H' hp hS hH hl
end

section
variable {P:Program}{w:World}{K:PySem.W.Frag}{mg:Str→Option Value}{base:Heap}
def u5:Sp:=fun vs H Q _=>∃ (cell:Int) (n:Nat) (shape mixed:Int),vs=[.int cell,.int n,.int shape,.int mixed]∧1≤n∧n≤12∧(mixed=0∨mixed=1) ∧
 ∀ l (os:List Int) H',H l=none→af H H'→H' l=some (.lst (os.map V.int))→inR n os→Q (.ref l) H'
theorem qM {n j:Nat}(h:j < n):ixN n (j:Int)=some j:=by
 unfold ixN
 rw[if_pos (by omega),if_pos (by omega)]
 simp
theorem xB {n:Nat}{k:Int}(h0:0≤k)(h1:k < n):seqIndex? k n=some k.toNat:=by
 obtain⟨j,rfl⟩:=Int.eq_ofNat_of_zero_le h0
 rw[Int.toNat_natCast]
 exact(nc (qM (by omega))).1
theorem wx {n i:Nat}{l:List Int}{x:Int}(h:inR n l)(h0:0≤x)(h1:x < n):inR n (l.set i x):=by
 refine⟨by rw[List.length_set];exact h.1,fun y hy=>?_⟩
 rcases List.mem_or_eq_of_mem_set hy with hy | hy
 · exact h.2 y hy
 · rw[hy];exact⟨h0,h1⟩
theorem sq {L:List Int}(h:1≤L.length):∃ x∈L,atI (L.map V.int) (-1)=some (V.int x):=by
 have hne:L≠[]:=fun e=>by rw[e] at h;simp at h
 refine⟨L.getLast hne,List.getLast_mem hne,?_⟩
 have e:L.map V.int=L.dropLast.map V.int++[V.int (L.getLast hne)]:=by
   rw[←List.map_singleton,←List.map_append,List.dropLast_concat_getLast hne]
 rw[e]
 exact iB _ _
theorem r9 {n m i:Nat}{l:List Int}(h:l.length=m+1∧∀ y∈l,0≤y∧y < n)(hi:i < m+1):(l.eraseIdx i).length=m∧∀ y∈l.eraseIdx i,0≤y∧y < n:=by
 refine⟨by rw[List.length_eraseIdx_of_lt (by omega)];omega,fun y hy=>h.2 y (List.mem_of_mem_eraseIdx hy)⟩
theorem ut {α β:Type}(f:α→β):∀ (l:List α) (i:Nat),(l.map f).eraseIdx i=(l.eraseIdx i).map f
 | [],_=>rfl
 | _::_,0=>rfl
 | x::r,i+1=>congrArg (f x::·) (ut f r i)
theorem nP (n:Nat):(List.range n).map (fun i:Nat=>V.int i)=((List.range n).map fun i:Nat=>(i:Int)).map V.int:=by rw[List.map_map];rfl
theorem uZ (n:Nat):inR n ((List.range n).map fun i:Nat=>(i:Int)):=⟨by rw[List.length_map,List.length_range],fun x hx=>by
 obtain⟨i,hi,rfl⟩:=List.mem_map.mp hx
 have:=List.mem_range.mp hi
 omega⟩
theorem iV:au ["_law_cell", "_law_many", "_law_shape_here", "_law_mixed", "_law_drawn_here", "_law_left", "_law_outs_here", "_law_one"] ["_law_cell", "_law_many", "_law_shape_here", "_law_mixed"] (ae mh):=⟨rfl,rfl,rfl,by decide +kernel,rfl,by decide +kernel,by decide +kernel⟩
theorem vD {f fD fT:Addr}{fd fdD fdT:FuncData}(F:Fun K "_law_outs" "_law_outs" mh f fd)(T:Txt mg)(GD:aw P w K mg base CX0 1 fD fdD ["_law_cell", "_law_many", "_law_bound", "_law_mixed"] jI)(kD:PySem.W.keepIn K (.ref fD)=true)(bD:az K fdD ["_law_cell", "_law_many", "_law_bound", "_law_mixed"] [])(mD:mg "_law_draws"=some (.ref fD))
   (GT:aw P w K mg base CX0 1 fT fdT ["_law_many", "_law_shape_here", "_law_drawn_here"] (oU K))(kT:PySem.W.keepIn K (.ref fT)=true)(bT:az K fdT ["_law_many", "_law_shape_here", "_law_drawn_here"] [])(mT:mg "_law_turned"=some (.ref fT)) :
   aw P w K mg base CX0 2 f fd ["_law_cell", "_law_many", "_law_shape_here", "_law_mixed"] u5:=by
 refine F.ok iV (fun vs H Q E h=>?_) (fun cdv A outer s H vs Q E hr h=>?_)
 · obtain⟨_,_,_,_,rfl,_⟩:=h
   rfl
 · obtain⟨cell,n,shape,mixed,rfl,hn1,hn12,hmix,q⟩:=h
   refine⟨_,aj (ay (i:=4) iV.nd rfl (Or.inl rfl) (aq GD hr rfl mD kD bD .nil aH (aa (pv 0) (aa (pv 1) (aa (pv 1) (aa (pv 3) ad))))))
     (aj (aR (aF dn (pv 2) ah (aM _)) (ag (ar (pv 4))) aB)
     (aj (aR (aF dn (pv 2) ah (aM _))
       (am (ay (i:=5) iV.nd rfl (Or.inl rfl) (aZ (kC rfl) (by rfl) T.list (by decide +kernel) (aa (aZ jn (by rfl) T.range (by decide +kernel) (aa (pv 1) ad)) ad)))
       (am (ay (i:=6) iV.nd rfl (Or.inl rfl) (bp ad))
       (am (bj PassesOwn.never rfl (aQ (pv 4)) (ao (i:=7) iV.nd rfl (Or.inl rfl))
         (ag (aU (cX PySem.F.plainAttrs_list PySem.F.slot_list_append PySem.F.type_list_append cj (pv 6) (aa (cX PySem.F.plainAttrs_list PySem.F.slot_list_pop PySem.F.type_list_pop uC (pv 5) (aa (aC bn (pv 7) (al aE (by rfl) T.len PySem.boot_len (aa (pv 5) ad))) ad)) ad)))))
       (ag (ar (pv 6)))))) aB)
     (aj (aR (aF dn (pv 2) ah (aM _)) (ag (ar (cM (N':=["_law_k", "_law_many"]) (pk:=[none,some 1]) rfl (cc.of (by rfl)) (cC rfl T.range (aa (pv 1) ad)) (fun s H ex=>ao (i:=0) (by show(["_law_k", "_law_many"]:List Str).Nodup;decide +kernel) rfl (Or.inl rfl))
         (fun s H ex=>aC bn (aC bQ (pv 0) ah) (pv 1))))) aB)
     (aj (aR (aF dn (pv 2) ah (aM _))
       (am (ay (i:=6) iV.nd rfl (Or.inl rfl) (aZ (kC rfl) (by rfl) T.list (by decide +kernel) (aa (aZ jn (by rfl) T.range (by decide +kernel) (aa (pv 1) ad)) ad)))
       (am (qi (aK aG (pv 4) (k6 g8 ah) (fun _ _=>rfl)) (xQ (pv 6) (aK aG (pv 4) ah (fun _ _=>rfl)) u4))
       (ag (ar (pv 6))))) aB)
     (ag (ar (aq GT hr rfl mT kT bT .nil aH (aa (pv 1) (aa (pv 2) (aa (pv 4) ad)))))))))),?_⟩
   have hs:=aP
   refine cut (fun σ' H'=>∃ d L,σ'=[some (.int cell),some (.int n),some (.int shape),some (.int mixed),some (.ref d),none,none,none]∧H d=none∧af H H'∧H' d=some (.lst (L.map V.int))∧inR n L) ?_ ?_
   · walk_at "dm"
     refine⟨_,_,_,_,rfl,by omega,by omega,by omega,by omega,hmix,fun l H' hl S1 hH=>⟨l,rfl,hl,S1,_,hH,?_⟩⟩
     have en:((n:Int)).toNat=n:=by omega
     rw[en]
     exact⟨fh _ _ _ _,iW (by omega) _⟩
   rintro σ1 H1 ⟨d,L,rfl,hd,S1,hH1,hL⟩
   refine cut (fun σ' H'=>σ'=[some (.int cell),some (.int n),some (.int shape),some (.int mixed),some (.ref d),none,none,none]∧H'=H1) ?_ ?_
   · walk_at "dm"
     exact⟨rfl,aV (fun _=>q d L H1 hd S1 hH1 hL) (fun _=>trivial)⟩
   rintro σ2 H2 ⟨rfl,rfl⟩
   refine cut (fun σ' H'=>σ'=[some (.int cell),some (.int n),some (.int shape),some (.int mixed),some (.ref d),none,none,none]∧H'=H2) ?_ ?_
   · walk_at "dm"
     refine⟨rfl,aV (fun _ p hp=>⟨n,ac,by omega,fun l hl=>⟨by omega,fun p1 hp1=>?_⟩⟩) (fun _=>trivial)⟩
     have Sa:af H2 (upd H2 p (.rng 0 n)):=af.updN hp
     have hl2:H2 l=none:=Sa.free hl
     have Sb:af H2 (upd (upd H2 p (.rng 0 n)) l (.lst ((List.range n).map fun i:Nat=>V.int i))):=Sa.step hl2
     have hp12:H2 p1=none:=Sb.free hp1
     have hlp1:l≠p1:=fun e=>by rw[←e,ac] at hp1;cases hp1
     have Sc:=Sb.step (o:=HO.lst []) hp12
     refine⟨⟨_,SqL.of (Sc _ _ hH1)⟩,?_⟩
     refine a9 (H0:=H2) (ax (SqL.of hH1)) (fun i σ' H'=>∃ (ls os:List Int)(o:Option V),σ'=[some (.int cell),some (.int n),some (.int shape),some (.int mixed),some (.ref d),some (.ref l),some (.ref p1),o]∧af H2 H'∧H' l=some (.lst (ls.map V.int))∧H' p1=some (.lst (os.map V.int)) ∧
       (ls.length=n - i∧∀ y∈ls,0≤y∧y < n)∧(os.length=i∧∀ y∈os,0≤y∧y < n))
       ⟨(List.range n).map fun i:Nat=>(i:Int),[],none,rfl,Sc,?_,ac,uZ n,rfl,fun y hy=>by cases hy⟩ (fun _ _ _ _ ⟨_,_,_,_,h,_⟩=>h) ?_ ?_
     · rw[ai hlp1,ac,nP]
     · rintro i x σ H' hi hx ⟨ls,os,o,rfl,hS,hHl,hHp,hls,hos⟩
       rw[List.getElem?_map] at hx
       obtain⟨y,hy,rfl⟩:=Option.map_eq_some_iff.mp hx
       rw[List.length_map,hL.1] at hi
       have hpos:(0:Int) < (ls.length:Nat):=by rw[hls.1];omega
       have hm0:=Int.emod_nonneg y (show((ls.length:Nat):Int)≠0 by omega)
       have hm1:=Int.emod_lt_of_pos y hpos
       have hk:(y % (ls.length:Nat)).toNat < ls.length:=by omega
       obtain⟨z,hz⟩:∃ z,ls[(y % (ls.length:Nat)).toNat]?=some z:=⟨_,List.getElem?_eq_getElem hk⟩
       have hzm:z∈ls:=List.mem_of_getElem? hz
       walk_at "dm"
       refine⟨.inl ⟨rfl,_,SqL.of hHp⟩,.inl ⟨rfl,_,SqL.of hHl⟩,_,.inl (SqL.of hHl),?_⟩
       rw[List.length_map]
       refine⟨hpos,_,hHl,by omega,by omega,_,by rw[List.length_map];exact xB hm0 hm1,_,by rw[List.getElem?_map,hz];rfl,_,by rw[ai (Ne.symm hlp1)];exact hHp,by rw[List.length_map];omega,(hS.step hl2).step hp12,ls.eraseIdx (y % (ls.length:Nat)).toNat,?_,?_⟩
       · rw[ai hlp1,ac,ut]
       · have e1:=r9 (m:=n - (i+1)) (n:=n) (l:=ls) (i:=(y % (ls.length:Nat)).toNat) ⟨by omega,hls.2⟩ (by omega)
         have e2:=ky hos (hls.2 z hzm).1 (hls.2 z hzm).2
         exact⟨os++[z],by rw[ac,List.map_append];rfl,e1.1,e1.2,e2.1,e2.2⟩
     · rintro σ H' ⟨ls,os,o,rfl,hS,hHl,hHp,hls,hos⟩
       walk_at "dm"
       rw[List.length_map,hL.1] at hos
       exact q p1 os H' (S1.free hp12) (S1.trans hS) hHp hos
   rintro σ3 H3 ⟨rfl,rfl⟩
   refine cut (fun σ' H'=>σ'=[some (.int cell),some (.int n),some (.int shape),some (.int mixed),some (.ref d),none,none,none]∧H'=H3) ?_ ?_
   · walk_at "dm"
     refine⟨rfl,aV (fun _=>⟨by omega,by omega,fun D hD=>?_⟩) (fun _=>trivial)⟩
     refine cz bM (by omega) hD (fun σ=>∃ o,σ=[o,some (.int n)]) (fun i=>.int ((0+(i:Int)+1) % n)) ⟨none,rfl⟩ ?_ ?_
     · rintro i x σ' H' hi rfl ⟨o,rfl⟩ hS R hR
       walk_at "dm"
       exact⟨by omega,hR _ ⟨_,rfl⟩⟩
     · have en:((n:Int)).toNat=n:=by omega
       rw[en]
       refine q D ((List.range n).map fun i:Nat=>(0+(i:Int)+1) % n) _ (S1.free hD) (S1.step (S1.free hD)) ?_ ⟨by rw[List.length_map,List.length_range],fun x hx=>?_⟩
       · rw[ac,List.map_map];rfl
       · obtain⟨i,hi,rfl⟩:=List.mem_map.mp hx
         exact⟨Int.emod_nonneg _ (by omega),Int.emod_lt_of_pos _ (by omega)⟩
   rintro σ4 H4 ⟨rfl,rfl⟩
   refine cut (fun σ' H'=>σ'=[some (.int cell),some (.int n),some (.int shape),some (.int mixed),some (.ref d),none,none,none]∧H'=H4) ?_ ?_
   · walk_at "dm"
     refine⟨rfl,aV (fun _ p hp=>⟨n,ac,by omega,fun l hl=>?_⟩) (fun _=>trivial)⟩
     have Sa:af H4 (upd H4 p (.rng 0 n)):=af.updN hp
     have hl2:H4 l=none:=Sa.free hl
     have Sb:af H4 (upd (upd H4 p (.rng 0 n)) l (.lst ((List.range n).map fun i:Nat=>V.int i))):=Sa.step hl2
     obtain⟨z,hzm,hz⟩:=sq (L:=L) (by rw[hL.1];omega)
     obtain⟨y,hy,hy0,hy1⟩:=jO hL (show 0 < n by omega)
     refine⟨_,SqL.of (Sb _ _ hH1),_,hz,_,SqL.of (Sb _ _ hH1),_,jP hy,_,_,rfl,ac,y.toNat,?_,?_⟩
     · rw[List.length_map,List.length_range]
       have:=qM (n:=n) (j:=y.toNat) (by omega)
       rwa [Int.toNat_of_nonneg hy0] at this
     · refine q l (((List.range n).map fun i:Nat=>(i:Int)).set y.toNat z) _ (S1.free hl2) (S1.trans (Sb.step hl2)) ?_ (wx (uZ n) (hL.2 z hzm).1 (hL.2 z hzm).2)
       rw[ac,nP,List.map_set]
   rintro σ5 H5 ⟨rfl,rfl⟩
   walk_at "dm"
   refine⟨_,_,_,_,rfl,hn1,hn12,SqL.of hH1,hL,fun l os H' hl S2 hH hos=>q l os H' (S1.free hl) (S1.trans S2) hH hos⟩
end

section
variable {P:Program}{w:World}{K:PySem.W.Frag}{mg:Str→Option Value}{base:Heap}
def q8:Sp:=fun vs H Q _=>∃ pick k:Int,vs=[.int pick,.int k]∧∀ r H',af H H'→Q (.int r) H'
theorem vZ:au ["_law_pick", "_law_k"] ["_law_pick", "_law_k"] (ae i0):=⟨rfl,rfl,rfl,by decide +kernel,rfl,by decide +kernel,by decide +kernel⟩
theorem wT {a0 a1 a2 a3 a4 a5 a6 a7:Int}{k:Int}(h0:0≤k)(h8:k < 8):∃ r,atI [V.int a0,V.int a1,V.int a2,V.int a3,V.int a4,V.int a5,V.int a6,V.int a7] k=some (V.int r):=by
 have h:k=0∨k=1∨k=2∨k=3∨k=4∨k=5∨k=6∨k=7:=by omega
 rcases h with e | e | e | e | e | e | e | e<;>(rw[e];exact⟨_,rfl⟩)
theorem tS {f:Addr}{fd:FuncData}(F:Fun K "_law_shape" "_law_shape" i0 f fd)(T:Txt mg):aw P w K mg base CX0 1 f fd ["_law_pick", "_law_k"] q8:=by
 refine F.ok vZ (fun vs H Q E h=>?_) (fun cdv A outer s H vs Q E hr h=>?_)
 · obtain⟨_,_,rfl,_⟩:=h
   rfl
 · obtain⟨pick,k,rfl,q⟩:=h
   refine⟨_,am (aR (aF dn (aC bn (pv 0) ah) ah (aM _)) (ag (ar (aC bn (aC bQ (pv 1) (aC cq (pv 0) ah)) ah))) aB)
     (am (aR (aF dn (pv 1) ah (aM _)) (ag (ar (aK aG (bp wU) (aC bn (pv 0) ah) (fun _ _=>rfl)))) aB)
     (ag (ar (aK aG (bp wU) (aC bn (pv 0) ah) (fun _ _=>rfl))))),?_⟩
   have hs:=aP
   walk_at "dm"
   refine⟨by decide,rfl,aV (fun _=>⟨by decide,by decide,by decide,q _ H (af.refl H)⟩) (fun _=>⟨rfl,aV (fun _=>⟨by omega,fun p hp=>⟨by decide,_,SqL.of ac,?_⟩⟩) (fun _=>⟨by omega,fun p hp=>⟨by decide,_,SqL.of ac,?_⟩⟩)⟩)⟩
   · obtain⟨r,hr⟩:=wT (k:=pick % 8) (a0:=0) (a1:=1) (a2:=0) (a3:=2) (a4:=4) (a5:=5) (a6:=3) (a7:=7) (by omega) (by omega)
     exact⟨_,hr,q _ _ (af.updN hp)⟩
   · obtain⟨r,hr⟩:=wT (k:=pick % 8) (a0:=0) (a1:=1) (a2:=0) (a3:=3) (a4:=4) (a5:=5) (a6:=1) (a7:=1) (by omega) (by omega)
     exact⟨_,hr,q _ _ (af.updN hp)⟩
structure NmL (ws:List Str) (n:Nat):Prop where
 len:ws.length=n
 nd:ws.Nodup
 nm:∀ x∈ws,Nm x
def qX (K:PySem.W.Frag):Sp:=fun vs H Q _=>∃ (a:Addr)(ns:List Int) (n c:Nat),vs=[.ref a,.int n,.int c]∧SqL K H a (ns.map V.int)∧n≤12∧c≤12 ∧
 ∀ p l1 l2 (ws ts:List Str) H',af H H'→H' p=some (.tup [.ref l1,.ref l2])→H' l1=some (.lst (ws.map V.str))→H' l2=some (.lst (ts.map V.str))→NmL ws (n+1)→NmL ts (c+1)→Q (.ref p) H'
abbrev pAt:List Str:=["_law_script", "_law_k"]
abbrev uv:List Str:=["_law_cell", "_law_many", "_law_style", "_law_mixed"]
theorem jE:au ["_law_script", "_law_many", "_law_count", "_law_mixed", "_law_style", "_law_shades"] ["_law_script", "_law_many", "_law_count"] (ae iJ):=⟨rfl,rfl,rfl,by decide +kernel,rfl,by decide +kernel,by decide +kernel⟩
theorem uf {f fA fN:Addr}{fd fdA fdN:FuncData}(F:Fun K "_law_named" "_law_named" iJ f fd)(T:Txt mg)(GA:aw P w K mg base CX0 1 fA fdA pAt (rV K))(kA:PySem.W.keepIn K (.ref fA)=true)(bA:az K fdA pAt [])(mA:mg "_law_at"=some (.ref fA))
   (GN:aw P w K mg base CX0 2 fN fdN uv qT)(kN:PySem.W.keepIn K (.ref fN)=true)(bN:az K fdN uv [])(mN:mg "_law_names"=some (.ref fN)) :
   aw P w K mg base CX0 3 f fd ["_law_script", "_law_many", "_law_count"] (qX K):=by
 refine F.ok jE (fun vs H Q E h=>?_) (fun cdv A outer s H vs Q E hr h=>?_)
 · obtain⟨_,_,_,_,rfl,_⟩:=h
   rfl
 · obtain⟨a,ns,n,c,rfl,ha,hn,hc,q⟩:=h
   have hr1:=hr.mono (j:=1) (by omega)
   refine⟨_,am (ay (i:=3) jE.nd rfl (Or.inl rfl) (aC bn (aq GA hr1 rfl mA kA bA .nil aH (aa (pv 0) (aa ah ad))) ah))
     (am (ay (i:=4) jE.nd rfl (Or.inl rfl) (aC bn (aC cq (aq GA hr1 rfl mA kA bA .nil aH (aa (pv 0) (aa ah ad))) ah) ah))
     (am (ay (i:=5) jE.nd rfl (Or.inl rfl) (aq GN hr rfl mN kN bN .nil aH (aa (aq GA hr1 rfl mA kA bA .nil aH (aa (pv 0) (aa ah ad))) (aa (aC bQ (pv 1) ah) (aa (pv 4) (aa (pv 3) ad))))))
     (ag (ar (de (aa (pv 5) (aa (aq GN hr rfl mN kN bN .nil aH (aa (aq GA hr1 rfl mA kA bA .nil aH (aa (pv 0) (aa ah ad))) (aa (aC bQ (pv 2) ah) (aa (pv 4) (aa (pv 3) ad))))) ad))))))),?_⟩
   have hs:=aP
   walk_at "dm"
   refine cO ha (by decide) ⟨_,rfl,by decide,cO ha (by decide) ⟨_,rfl,by decide,by decide,by decide,cO ha (by decide) ⟨_,_,_,_,rfl,by omega,by omega,by omega,by omega,by omega,fun l1 ws H1 hl1 S1 hH1 hw1 hd1 hm1=>?_⟩⟩⟩
   refine cO (S1.seq ha) (by decide) ⟨_,_,_,_,rfl,by omega,by omega,by omega,by omega,by omega,fun l2 ts H2 hl2 S2 hH2 hw2 hd2 hm2=>⟨by omega,fun p hp=>?_⟩⟩
   have S3:=(S1.trans S2)
   refine q p l1 l2 ws ts _ (S3.step (S3.free hp)) ac ?_ ?_ ⟨by omega,hd1,hm1⟩ ⟨by omega,hd2,hm2⟩
   · rw[ai (ak (S2 _ _ hH1) hp)];exact S2 _ _ hH1
   · rw[ai (ak hH2 hp)];exact hH2
end

section
variable {P:Program}{w:World}{K:PySem.W.Frag}{mg:Str→Option Value}{base:Heap}
def l5 (H:Hp)(p:Addr)(b:Str×List Str):Prop:=∃ o,H p=some (.tup [.str b.1,.ref o])∧H o=some (.lst (b.2.map V.str))
def jw (H:Hp)(lb:Addr)(bs:List (Str×List Str)):Prop:=∃ ps:List Addr,H lb=some (.lst (ps.map V.ref))∧ps.length=bs.length∧∀ (i:Nat) p b,ps[i]?=some p→bs[i]?=some b→l5 H p b
theorem af.bthAt {H H':Hp}{p:Addr}{b:Str×List Str}(S:af H H')(h:l5 H p b):l5 H' p b:=by
 obtain⟨o,h1,h2⟩:=h
 exact⟨o,S _ _ h1,S _ _ h2⟩
theorem af.bths {H H':Hp}{lb:Addr}{bs:List (Str×List Str)}(S:af H H')(h:jw H lb bs):jw H' lb bs:=by
 obtain⟨ps,h1,h2,h3⟩:=h
 exact⟨ps,S _ _ h1,h2,fun i p b hp hb=>af.bthAt S (h3 i p b hp hb)⟩
def Shw (z:Str):Prop:=z.length≤1000∧∀ c∈z.cps.toList,c < 1114112
theorem Nm.shw {z:Str}(h:Nm z):Shw z:=⟨by have:=h.hi;omega,fun c hc=>by have:=(h.all c hc).2;omega⟩
structure aO (ss:List Str)(bs:List (Str×List Str)):Prop where
 s1:1≤ss.length
 s12:ss.length≤12
 snd:ss.Nodup
 snm:∀ x∈ss,bu x=true
 snw:∀ x∈ss,Shw x
 b8:bs.length≤8
 bnd:(bs.map (·.1)).Nodup
 bnm:∀ b∈bs,bu b.1=true
 bnw:∀ b∈bs,Shw b.1
 bln:∀ b∈bs,b.2.length=ss.length
 bin:∀ b∈bs,∀ x∈b.2,x∈ss
theorem uT {ws:List Str}{n:Nat}(h:n≤ws.length):eY (ws.map V.str) none (some (n:Int))=(ws.take n).map V.str:=by
 unfold eY
 have e1:HT.sIx (ws.map V.str).length 0 none=0:=rfl
 have e2:HT.sIx (ws.map V.str).length (ws.map V.str).length (some (n:Int))=n:=by
   rw[List.length_map,HT.sIx_nat]
   omega
 rw[e1,e2,List.drop_zero,Nat.sub_zero,List.map_take]
theorem dg {L:List Str}{i:Nat}{x:Str}(h:L[i]?=some x):atI (L.map V.str) (i:Int)=some (V.str x):=eS (by rw[List.getElem?_map,h];rfl)
def rL (K:PySem.W.Frag):Sp:=fun vs H Q _=>∃ (a:Addr)(ns:List Int) (n c:Nat),vs=[.ref a,.int n,.int c]∧SqL K H a (ns.map V.int)∧1≤n∧n≤12∧c≤8 ∧
 ∀ p l lb (ss:List Str)(bs:List (Str×List Str)) (spare other:Str) H',af H H'→H' p=some (.tup [.ref l,.ref lb,.str spare,.str other])→H l=none→H' l=some (.lst (ss.map V.str))→H lb=none→jw H' lb bs→aO ss bs →
   ss.length=n→bs.length=c→Nm spare→spare∉ss→Nm other→other∉bs.map (·.1)→Q (.ref p) H'
abbrev xi:List Str:=["_law_cell", "_law_many", "_law_shape_here", "_law_mixed"]
abbrev uP:List Str:=["_law_pick", "_law_k"]
abbrev mJ:List Str:=["_law_script", "_law_many", "_law_count"]
theorem eM:au ["_law_script", "_law_many", "_law_count", "_law_mixed", "_law_shades", "_law_titles", "_law_baths", "_law_k", "_law_cell", "_law_outs_here"] ["_law_script", "_law_many", "_law_count"] (ae i5):=⟨rfl,rfl,rfl,by decide +kernel,rfl,by decide +kernel,by decide +kernel⟩
theorem kX {ws:List Str}{n:Nat}{x:Str}(hd:ws.Nodup)(hx:ws[n]?=some x):x∉ws.take n:=fun hm=>by
 rw[←List.take_append_drop n ws] at hd
 have hx2:x∈ws.drop n:=List.mem_of_getElem? (i:=0) (by rw[List.getElem?_drop];exact hx)
 exact(List.nodup_append.mp hd).2.2 x hm x hx2 rfl
def hide (H:Hp)(p:Addr):Hp:=fun b=>if b=p then none else H b
theorem af.hide {H H2:Hp}{p:Addr}(S:af H H2):af (hide H p) (DM.hide H2 p):=fun b o e=>by
 unfold DM.hide at e ⊢
 by_cases h:b=p
 · rw[if_pos h] at e;cases e
 · rw[if_neg h] at e ⊢;exact S b o e
theorem dF {H:Hp}{p:Addr}{o:HO}:hide (upd H p o) p=hide H p:=by
 funext b
 unfold hide upd
 by_cases h:b=p
 · rw[if_pos h,if_pos h]
 · rw[if_neg h,if_neg h,if_neg h]
theorem cu {H:Hp}{p:Addr}:af (hide H p) H:=fun b o e=>by
 unfold hide at e
 by_cases h:b=p
 · rw[if_pos h] at e;cases e
 · rw[if_neg h] at e;exact e
theorem bq {H:Hp}{p q:Addr}(h:q≠p):hide H p q=H q:=by unfold hide;rw[if_neg h]
theorem iP {K:PySem.W.Frag}{H:Hp}{a:Addr}{x y:V}{i j:Nat}{σ:St}{Q:St→Hp→Prop}(h:H a=some (.tup [x,y]))(q:Q ((σ.set i (some x)).set j (some y)) H):rM K 2 (dQ (cT i) (dQ (cT j) pS)) (.ref a) σ H Q :=
 ⟨a,[x,y],rfl,SqT.of h,rfl,x,[y],rfl,y,[],rfl,rfl,q⟩
theorem xC {K:PySem.W.Frag}{H:Hp}{a:Addr}{x y z u:V}{i j k l:Nat}{σ:St}{Q:St→Hp→Prop}(h:H a=some (.tup [x,y,z,u]))(q:Q ((((σ.set i (some x)).set j (some y)).set k (some z)).set l (some u)) H):rM K 4 (dQ (cT i) (dQ (cT j) (dQ (cT k) (dQ (cT l) pS)))) (.ref a) σ H Q :=
 ⟨a,[x,y,z,u],rfl,SqT.of h,rfl,x,[y,z,u],rfl,y,[z,u],rfl,z,[u],rfl,u,[],rfl,rfl,q⟩
def iA (ws:List Str) (x:Int):Str:=ws.getD x.toNat ⟨#[]⟩
theorem n6 {ws:List Str}{x:Int}(h0:0≤x)(h1:x.toNat < ws.length):atI (ws.map V.str) x=some (V.str (iA ws x)):=by
 have e:ws[x.toNat]?=some (iA ws x):=by
   unfold iA
   rw[List.getD_eq_getElem?_getD,List.getElem?_eq_getElem h1]
   rfl
 have:=dg e
 rwa [Int.toNat_of_nonneg h0] at this
theorem nS {ws:List Str}{x:Int}{n:Nat}(h0:0≤x)(h1:x < n)(hn:n≤ws.length):iA ws x∈ws.take n:=by
 have hl:x.toNat < ws.length:=by omega
 refine List.mem_of_getElem? (i:=x.toNat) ?_
 rw[List.getElem?_take,if_pos (by omega)]
 unfold iA
 rw[List.getD_eq_getElem?_getD,List.getElem?_eq_getElem hl]
 rfl
theorem t3 {f fA fN fS fO:Addr}{fd fdA fdN fdS fdO:FuncData}(F:Fun K "_law_sized" "_law_sized" i5 f fd)(T:Txt mg)(GA:aw P w K mg base CX0 1 fA fdA pAt (rV K))(kA:PySem.W.keepIn K (.ref fA)=true)(bA:az K fdA pAt [])(mA:mg "_law_at"=some (.ref fA))
   (GN:aw P w K mg base CX0 3 fN fdN mJ (qX K))(kN:PySem.W.keepIn K (.ref fN)=true)(bN:az K fdN mJ [])(mN:mg "_law_named"=some (.ref fN))
   (GS:aw P w K mg base CX0 1 fS fdS uP q8)(kS:PySem.W.keepIn K (.ref fS)=true)(bS:az K fdS uP [])(mS:mg "_law_shape"=some (.ref fS))
   (GO:aw P w K mg base CX0 2 fO fdO xi u5)(kO:PySem.W.keepIn K (.ref fO)=true)(bO:az K fdO xi [])(mO:mg "_law_outs"=some (.ref fO)) :
   aw P w K mg base CX0 4 f fd ["_law_script", "_law_many", "_law_count"] (rL K):=by
 refine F.ok eM (fun vs H Q E h=>?_) (fun cdv A outer s H vs Q E hr h=>?_)
 · obtain⟨_,_,_,_,rfl,_⟩:=h
   rfl
 · obtain⟨a,ns,n,c,rfl,ha,hn1,hn,hc,q⟩:=h
   have hr1:=hr.mono (j:=1) (by omega)
   have hr2:=hr.mono (j:=2) (by omega)
   refine⟨_,am (ay (i:=3) eM.nd rfl (Or.inl rfl) (aC bn (aq GA hr1 rfl mA kA bA .nil aH (aa (pv 0) (aa ah ad))) ah))
     (aj (qi (aq GN hr rfl mN kN bN .nil aH (aa (pv 0) (aa (pv 1) (aa (pv 2) ad)))) (fK rfl (bc (ao (i:=4) eM.nd rfl (Or.inr rfl)) (bc (ao (i:=5) eM.nd rfl (Or.inl rfl)) dY))))
     (am (ay (i:=6) eM.nd rfl (Or.inl rfl) (bp ad))
     (am (bj PassesOwn.never rfl (cC rfl T.range (aa (pv 2) ad)) (ao (i:=7) eM.nd rfl (Or.inl rfl))
       (am (ay (i:=8) eM.nd rfl (Or.inl rfl) (aC bQ (aq GA hr1 rfl mA kA bA .nil aH (aa (pv 0) (aa (aC bQ ah (pv 7)) ad))) (aC gf (aC gf ah (pv 7)) (pv 3))))
       (aj (ay (i:=9) eM.nd rfl (Or.inl rfl) (aq GO hr2 rfl mO kO bO .nil aH (aa (pv 8) (aa (pv 1) (aa (aq GS hr1 rfl mS kS bS .nil aH (aa (aq GA hr1 rfl mA kA bA .nil aH (aa (pv 0) (aa ah ad))) (aa (pv 7) ad))) (aa (pv 3) ad))))))
       (ag (aU (cX PySem.F.plainAttrs_list PySem.F.slot_list_append PySem.F.type_list_append cj (pv 6) (aa (de (aa (aK aG (pv 5) (pv 7) (fun _ _=>rfl)) (aa (cM (N':=["_law_j", "_law_shades"]) (pk:=[none,some 4]) rfl (cc.of (by rfl)) (aQ (pv 9)) (fun s H ex=>ao (i:=0) (by show(["_law_j", "_law_shades"]:List Str).Nodup;decide +kernel) rfl (Or.inl rfl))
         (fun s H ex=>aK (aG:IxR _ (qu K)) (pv 1) (pv 0) (fun _ _=>rfl))) ad))) ad)))))))
     (ag (ar (de (aa (dc gw (pv 4) eV (dC (pv 1))) (aa (pv 6) (aa (aK aG (pv 4) (pv 1) (fun _ _=>rfl)) (aa (aK aG (pv 5) (pv 2) (fun _ _=>rfl)) ad)))))))))),?_⟩
   have hs:=aP
   walk_at "dm"
   refine cO ha (by decide) ⟨_,rfl,by decide,?_⟩
   generalize hmx:atL ns 3 % 2=mixed
   have hmix:mixed=0∨mixed=1:=by omega
   refine cut (fun σ' H'=>∃ l1 l2 ws ts,σ'=[some (.ref a),some (.int n),some (.int c),some (.int mixed),some (.ref l1),some (.ref l2),none,none,none,none]∧af H H'∧H' l1=some (.lst (ws.map V.str))∧H' l2=some (.lst (ts.map V.str))∧NmL ws (n+1)∧NmL ts (c+1)) ?_ ?_
   · walk_at "dm"
     refine⟨a,ns,n,c,rfl,ha,hn,by omega,fun p l1 l2 ws ts H' S hp h1 h2 w1 w2=>?_⟩
     refine iP hp ?_
     exact⟨l1,l2,rfl,S,ws,h1,ts,h2,w1,w2⟩
   rintro σ1 H1 ⟨l1,l2,ws,ts,rfl,S1,hH1,hH2,hws,hts⟩
   walk_at "dm"
   refine⟨by omega,fun p hp=>⟨by omega,by omega,?_⟩⟩
   have hb:∀ i,i < n→∃ x,(ws.take n)[i]?=some x∧ws[i]?=some x:=fun i hi=>by
     have hl:i < ws.length:=by rw[hws.len];omega
     refine⟨ws[i],?_,List.getElem?_eq_getElem hl⟩
     rw[List.getElem?_take,if_pos hi];exact List.getElem?_eq_getElem hl
   refine a9 (H0:=H1) bM (fun i σ' H'=>∃ (ps:List Addr)(bs:List (Str×List Str))(o7 o8 o9:Option V),σ'=[some (.ref a),some (.int n),some (.int c),some (.int mixed),some (.ref l1),some (.ref l2),some (.ref p),o7,o8,o9]∧af H1 H'∧H' p=some (.lst (ps.map V.ref)) ∧
     ps.length=i∧bs.length=i∧(∀ (j:Nat) r b,ps[j]?=some r→bs[j]?=some b→l5 (hide H' p) r b)∧bs.map (·.1)=ts.take i∧∀ b∈bs,b.2.length=n∧∀ x∈b.2,x∈ws.take n)
     ⟨[],[],none,none,none,rfl,af.updN hp,ac,rfl,rfl,(by intro j r b h;simp at h),rfl,(by intro b h;cases h)⟩ (fun _ _ _ _ ⟨_,_,_,_,_,_,h,_⟩=>h) ?_ ?_
   · rintro i x σ H' hi rfl ⟨ps,bs,o7,o8,o9,rfl,hS,hH,hpl,hbl,hB,hT,hO⟩
     have ei:(0:Int)+(i:Int)=i:=by omega
     rw[ei]
     have hi9:i < c:=by omega
     have hm9:(1009:Int)*i*mixed < 2 ^ 62:=by rcases hmix with e | e<;>(rw[e];omega)
     walk_at "dm"
     refine cO ((S1.trans hS).seq ha) (by omega) ⟨.inl ⟨by omega,by omega⟩,.inl ⟨by omega,by omega⟩,_,rfl,?_⟩
     refine cut (fun σ' H''=>∃ lo os v8,σ'=[some (.ref a),some (.int n),some (.int c),some (.int mixed),some (.ref l1),some (.ref l2),some (.ref p),some (.int i),v8,some (.ref lo)]∧af H' H''∧H'' lo=some (.lst (os.map V.int))∧inR n os) ?_ ?_
     · walk_at "dm"
       refine cO ((S1.trans hS).seq ha) (by omega) ⟨_,_,rfl,fun r H2 S2=>⟨_,_,_,_,rfl,hn1,hn,hmix,fun lo os H3 hlo S3 hH3 hos=>⟨lo,rfl,S2.trans S3,os,hH3,hos⟩⟩⟩
     rintro σ2 H2 ⟨lo,os,v8,rfl,S2,hlo,hos⟩
     have hH1':H2 l1=some (.lst (ws.map V.str)):=S2 _ _ (hS _ _ hH1)
     have hH2':H2 l2=some (.lst (ts.map V.str)):=S2 _ _ (hS _ _ hH2)
     have hp2:H2 p=some (.lst (ps.map V.ref)):=S2 _ _ hH
     obtain⟨tt,htt⟩:∃ tt,ts[i]?=some tt:=⟨_,List.getElem?_eq_getElem (by rw[hts.len];omega)⟩
     walk_at "dm"
     refine⟨.inl ⟨rfl,_,SqL.of hp2⟩,_,SqL.of hH2',_,dg htt,⟨_,SqL.of hlo⟩,fun D hD=>?_⟩
     have hDp:D≠p:=fun e=>by rw[e,hp2] at hD;cases hD
     refine cz (ax (SqL.of hlo)) (by rw[List.length_map,hos.1];omega) hD (fun σ=>∃ o,σ=[o,some (.ref l1)]) (fun k=>V.str (iA ws (os.getD k 0))) ⟨none,rfl⟩ ?_ ?_
     · rintro k x σ' H3 hk hx ⟨o,rfl⟩ hS3 R hR
       rw[List.getElem?_map] at hx
       obtain⟨y,hy,rfl⟩:=Option.map_eq_some_iff.mp hx
       have hyr:=hos.2 y (List.mem_of_getElem? hy)
       walk_at "dm"
       refine⟨_,hS3.seq (SqL.of hH1'),_,n6 hyr.1 (by rw[hws.len];omega),?_⟩
       have e:os.getD k 0=y:=by rw[List.getD_eq_getElem?_getD,hy];rfl
       have:=hR [some (V.int y),some (V.ref l1)] ⟨_,rfl⟩
       rw[e] at this
       exact this
     · have e:(List.range (os.map V.int).length).map (fun k=>V.str (iA ws (os.getD k 0)))=(os.map (iA ws)).map V.str:=by
         rw[List.map_map]
         refine ef _ os _ _ (by rw[List.length_map]) fun k x hx=>?_
         rw[List.getD_eq_getElem?_getD,hx]
         rfl
       rw[e]
       refine⟨by omega,fun t ht=>?_⟩
       have ht2:H2 t=none:=(af.updN hD).free ht
       have htp:t≠p:=fun e=>by rw[e,hp2] at ht2;cases ht2
       have htD:D≠t:=fun e=>by rw[←e,ac] at ht;cases ht
       have S3:af H2 (upd (upd H2 D (.lst ((os.map (iA ws)).map V.str))) t (.tup [.str tt,.ref D])):=(af.updN hD).step ht2
       refine⟨_,S3 _ _ hp2,by rw[List.length_map];omega,⟨_,rfl⟩,((hS.trans S2).trans S3).step hp,ps++[t],?_,?_,bs++[(tt,os.map (iA ws))],?_,?_,?_,?_⟩
       · rw[ac,List.map_append];rfl
       · rw[List.length_append,hpl];rfl
       · rw[List.length_append,hbl];rfl
       · intro j r b hr hb
         rw[dF]
         by_cases hj:j < i
         · rw[List.getElem?_append_left (by omega)] at hr hb
           exact af.bthAt (af.hide (S2.trans S3)) (hB j r b hr hb)
         · have hj2:j=i:=by
             have:=(List.getElem?_eq_some_iff.mp hr).1
             rw[List.length_append,hpl] at this
             simp only[List.length_singleton] at this
             omega
           subst hj2
           rw[List.getElem?_append_right (by omega),hpl,Nat.sub_self] at hr
           rw[List.getElem?_append_right (by omega),hbl,Nat.sub_self] at hb
           cases hr
           cases hb
           refine⟨D,?_,?_⟩
           · rw[bq htp];exact ac
           · rw[bq hDp,ai htD];exact ac
       · rw[List.map_append,hT,List.take_add_one,htt];rfl
       · intro b hb
         rcases List.mem_append.mp hb with hb | hb
         · exact hO b hb
         · rw[List.mem_singleton.mp hb]
           refine⟨by rw[List.length_map];exact hos.1,fun x hx=>?_⟩
           obtain⟨y,hy,rfl⟩:=List.mem_map.mp hx
           exact nS (hos.2 y hy).1 (hos.2 y hy).2 (by rw[hws.len];omega)
   · rintro σ H' ⟨ps,bs,o7,o8,o9,rfl,hS,hH,hpl,hbl,hB,hT,hO⟩
     have en:((c:Int)).toNat=c:=by omega
     rw[en] at hpl hbl hT
     walk_at "dm"
     obtain⟨spare,hsp⟩:∃ x,ws[n]?=some x:=⟨_,List.getElem?_eq_getElem (by rw[hws.len];omega)⟩
     obtain⟨other,hot⟩:∃ x,ts[c]?=some x:=⟨_,List.getElem?_eq_getElem (by rw[hts.len];omega)⟩
     refine⟨_,SqL.of (hS _ _ hH1),fun l hl=>?_⟩
     rw[uT (by rw[hws.len];omega)]
     have Sl:af H' (upd H' l (.lst ((ws.take n).map V.str))):=af.updN hl
     refine⟨_,SqL.of (Sl _ _ (hS _ _ hH1)),_,dg hsp,_,SqL.of (Sl _ _ (hS _ _ hH2)),_,dg hot,by omega,fun t ht=>?_⟩
     have St:=Sl.step (o:=.tup [.ref l,.ref p,.str spare,.str other]) (Sl.free ht)
     have hlt:l≠t:=fun e=>by rw[←e,ac] at ht;cases ht
     have htn:(ts.take c).Nodup:=hts.nd.sublist (List.take_sublist _ _)
     refine q t l p (ws.take n) bs spare other _ ((S1.trans hS).trans St) ac ((S1.trans hS).free hl) (by rw[ai hlt];exact ac) (S1.free hp) ⟨ps,St _ _ hH,by omega,fun j r b hr hb=>af.bthAt (cu.trans St) (hB j r b hr hb)⟩ ⟨?_,?_,?_,?_,?_,?_,?_,?_,?_,?_,?_⟩ ?_ hbl ?_ ?_ ?_ ?_
     · rw[List.length_take,hws.len];omega
     · rw[List.length_take,hws.len];omega
     · exact hws.nd.sublist (List.take_sublist _ _)
     · exact fun x hx=>(hws.nm x (List.mem_of_mem_take hx)).good
     · exact fun x hx=>(hws.nm x (List.mem_of_mem_take hx)).shw
     · omega
     · rw[hT];exact htn
     · intro b hb
       exact(hts.nm b.1 (List.mem_of_mem_take (by rw[←hT];exact List.mem_map_of_mem hb))).good
     · intro b hb
       exact(hts.nm b.1 (List.mem_of_mem_take (by rw[←hT];exact List.mem_map_of_mem hb))).shw
     · intro b hb
       rw[(hO b hb).1,List.length_take,hws.len];omega
     · exact fun b hb=>(hO b hb).2
     · rw[List.length_take,hws.len];omega
     · exact hws.nm _ (List.mem_of_getElem? hsp)
     · exact kX hws.nd hsp
     · exact hts.nm _ (List.mem_of_getElem? hot)
     · rw[hT];exact kX hts.nd hot
end

section
variable {P:Program}{w:World}{K:PySem.W.Frag}{mg:Str→Option Value}{base:Heap}
def rh (K:PySem.W.Frag):Sp:=fun vs H Q _=>∃ (a:Addr)(ns:List Int),vs=[.ref a]∧SqL K H a (ns.map V.int) ∧
 ∀ p l lb (ss:List Str)(bs:List (Str×List Str)) (spare other:Str) H',af H H'→H' p=some (.tup [.ref l,.ref lb,.str spare,.str other])→H l=none→H' l=some (.lst (ss.map V.str))→H lb=none→jw H' lb bs→aO ss bs →
   Nm spare→spare∉ss→Nm other→other∉bs.map (·.1)→Q (.ref p) H'
theorem wn:au ["_law_script"] ["_law_script"] (ae jg):=⟨rfl,rfl,rfl,by decide +kernel,rfl,by decide +kernel,by decide +kernel⟩
theorem uq {f fA fS:Addr}{fd fdA fdS:FuncData}(F:Fun K "_law_drawn" "_law_drawn" jg f fd)(GA:aw P w K mg base CX0 1 fA fdA pAt (rV K))(kA:PySem.W.keepIn K (.ref fA)=true)(bA:az K fdA pAt [])(mA:mg "_law_at"=some (.ref fA))
   (GS:aw P w K mg base CX0 4 fS fdS mJ (rL K))(kS:PySem.W.keepIn K (.ref fS)=true)(bS:az K fdS mJ [])(mS:mg "_law_sized"=some (.ref fS)) :
   aw P w K mg base CX0 5 f fd ["_law_script"] (rh K):=by
 refine F.ok wn (fun vs H Q E h=>?_) (fun cdv A outer s H vs Q E hr h=>?_)
 · obtain⟨_,_,rfl,_⟩:=h
   rfl
 · obtain⟨a,ns,rfl,ha,q⟩:=h
   have hr1:=hr.mono (j:=1) (by omega)
   refine⟨_,ag (ar (aq GS hr rfl mS kS bS .nil aH (aa (pv 0) (aa (aC bQ ah (aC bn (aq GA hr1 rfl mA kA bA .nil aH (aa (pv 0) (aa ah ad))) ah)) (aa (aC bn (aq GA hr1 rfl mA kA bA .nil aH (aa (pv 0) (aa ah ad))) ah) ad))))),?_⟩
   walk_at "dm"
   refine cO ha (by decide) ⟨_,rfl,by decide,cO ha (by decide) ⟨_,rfl,by decide,a,ns,(1+atL ns 0 % 12).toNat,(atL ns 1 % 9).toNat,?_,ha,by omega,by omega,by omega,fun p l lb ss bs spare other H' h1 h2 h3 h4 h5 h6 h7 _ _ h8 h9 h10 h11=>q p l lb ss bs spare other H' h1 h2 h3 h4 h5 h6 h7 h8 h9 h10 h11⟩⟩
   rw[Int.toNat_of_nonneg (by omega),Int.toNat_of_nonneg (by omega)]
end

section
variable {P:Program}{w:World}{K:PySem.W.Frag}{mg:Str→Option Value}{base:Heap}
theorem gy (k:Str)(ks:List Str) (v:V)(vs:List V):cF (k::ks) (v::vs)=(Sum.inr k,v)::cF ks vs:=rfl
theorem dH:∀ (ks:List Str)(vs:List V) (i:Nat) (k:Str) (v:V),ks.Nodup→ks[i]?=some k→vs[i]?=some v→bP (cF ks vs) (Sum.inr k)=some v
 | [],_,_,_,_,_,h,_=>by simp at h
 | _::_,[],_,_,_,_,_,h=>by simp at h
 | k0::ks,v0::vs,0,k,v,hd,h1,h2=>by
   cases h1
   cases h2
   rw[gy]
   exact dG rfl
 | k0::ks,v0::vs,i+1,k,v,hd,h1,h2=>by
   have h1':ks[i]?=some k:=h1
   have h2':vs[i]?=some v:=h2
   have hm:k∈ks:=List.mem_of_getElem? h1'
   have hne:k0≠k:=fun e=>(List.nodup_cons.mp hd).1 (by rw[e];exact hm)
   rw[gy,cW (fun e=>hne (Sum.inr.inj e))]
   exact dH ks vs i k v (List.nodup_cons.mp hd).2 h1' h2'
theorem cK:∀ (ks:List Str)(vs:List V) (k:Str),k∉ks→bP (cF ks vs) (Sum.inr k)=none
 | [],_,_,_=>rfl
 | _::_,[],_,_=>rfl
 | k0::ks,v0::vs,k,h=>by
   rw[gy,cW (fun e=>h (by rw[←Sum.inr.inj e];exact List.mem_cons_self))]
   exact cK ks vs k (fun hm=>h (List.mem_cons_of_mem _ hm))
theorem iK {ks:List Str}{vs:List V} (k:Str) (v:V)(h:ks.length=vs.length):cF (ks++[k]) (vs++[v])=cF ks vs++[(Sum.inr k,v)]:=by
 unfold cF
 rw[List.map_append,List.zip_append (by rw[List.length_map];exact h)]
 rfl
theorem kK {ks:List Str}{vs:List V}(h:ks.length=vs.length):(cF ks vs).length=ks.length:=by
 unfold cF
 rw[List.length_zip,List.length_map,h];simp
theorem lO {ks:List Str}{vs:List V}(h:ks.length=vs.length):(cF ks vs).map (·.1)=ks.map Sum.inr:=by
 unfold cF
 rw[List.map_fst_zip (by rw[List.length_map];omega)]
def kF (ss:List Str)(b:Str×List Str):List (Key×V):=cF ss (b.2.map V.str)
def gJ (H:Hp)(d:Addr)(ss:List Str)(bs:List (Str×List Str)):Prop :=
 ∃ ds:List Addr,Rd H d (.dK (cF (bs.map (·.1)) (ds.map V.ref)))∧ds.length=bs.length∧∀ (i:Nat) r b,ds[i]?=some r→bs[i]?=some b→Rd H r (.dK (kF ss b))
theorem af.rd {H H':Hp}{a:Addr}{o:HO}(S:af H H')(h:Rd H a o):Rd H' a o:=by
 rcases h with h | ⟨u,h⟩
 · exact .inl (S _ _ h)
 · exact .inr ⟨u,S _ _ h⟩
theorem af.tabs {H H':Hp}{d:Addr}{ss:List Str}{bs:List (Str×List Str)}(S:af H H')(h:gJ H d ss bs):gJ H' d ss bs:=by
 obtain⟨ds,h1,h2,h3⟩:=h
 exact⟨ds,af.rd S h1,h2,fun i r b hr hb=>af.rd S (h3 i r b hr hb)⟩
theorem bx {α:Type}{l:List α}{i:Nat}{x:α}(h:l[i]?=some x):l.take (i+1)=l.take i++[x]:=by rw[List.take_add_one,h];rfl
theorem io {l:List Str}{i:Nat}{x:Str}(hd:l.Nodup)(h:l[i]?=some x):x∉l.take i:=kX hd h
def oW (K:PySem.W.Frag):Sp:=fun vs H Q _=>∃ (l lb:Addr)(ss:List Str)(bs:List (Str×List Str)),vs=[.ref l,.ref lb]∧SqL K H l (ss.map V.str)∧jw H lb bs∧aO ss bs ∧
 ∀ d H',H d=none→af H H'→gJ H' d ss bs→Q (.ref d) H'
theorem ge:au ["_law_shades", "_law_baths", "_law_tables_here", "_law_title", "_law_outs_here", "_law_k"] ["_law_shades", "_law_baths"] (ae fP):=⟨rfl,rfl,rfl,by decide +kernel,rfl,by decide +kernel,by decide +kernel⟩
theorem tF {f:Addr}{fd:FuncData}(F:Fun K "_law_tables" "_law_tables" fP f fd)(T:Txt mg):aw P w K mg base CX0 1 f fd ["_law_shades", "_law_baths"] (oW K):=by
 refine F.ok ge (fun vs H Q E h=>?_) (fun cdv A outer s H vs Q E hr h=>?_)
 · obtain⟨_,_,_,_,rfl,_⟩:=h
   rfl
 · obtain⟨l,lb,ss,bs,rfl,hl,hb,B,q⟩:=h
   have hu:(cr CX0 P w K mg base ["_law_shades", "_law_baths", "_law_tables_here", "_law_title", "_law_outs_here", "_law_k"] "_law_tables" (ae fP) f cdv A outer s H E).A.units+1 < cLine:=by
     have:=hr.units
     exact Nat.lt_of_le_of_lt (Nat.add_le_add_left (by decide) _) this
   refine⟨_,am (ay (i:=2) ge.nd rfl (Or.inl rfl) iz)
     (am (bj PassesOwn.never rfl (aQ (pv 1)) (fK (n:=2) rfl (bc (ao (i:=3) ge.nd rfl (Or.inl rfl)) (bc (ao (i:=4) ge.nd rfl (Or.inl rfl)) dY)))
       (aj (gu hu (pv 2) (pv 3) iz rfl)
       (ag (bj PassesOwn.never rfl (cC rfl T.range (aa (al aE (by rfl) T.len PySem.boot_len (aa (pv 0) ad)) ad)) (ao (i:=5) ge.nd rfl (Or.inl rfl))
         (ag (gu hu (ca hu (pv 2) (pv 3) (fun _ _=>rfl)) (aK aG (pv 0) (pv 5) (fun _ _=>rfl)) (aK aG (pv 4) (pv 5) (fun _ _=>rfl)) rfl))))))
     (ag (ar (pv 2)))),?_⟩
   have hs:=aP
   walk_at "dm"
   intro d hd
   obtain⟨ps,hlb,hpl,hB⟩:=hb
   have hb8:=B.b8
   have S0:af H (upd H d (.dK [])):=af.updN hd
   refine⟨⟨_,SqL.of (S0 _ _ hlb)⟩,?_⟩
   refine a9 (H0:=H) (ax (SqL.of hlb)) (fun i σ' H'=>∃ (ds:List Addr)(o3 o4 o5:Option V),σ'=[some (.ref l),some (.ref lb),some (.ref d),o3,o4,o5]∧af H H'∧H' d=some (.dK (cF ((bs.map (·.1)).take i) (ds.map V.ref))) ∧
     ds.length=i∧∀ (j:Nat) r b,ds[j]?=some r→bs[j]?=some b→hide H' d r=some (.dK (kF ss b)))
     ⟨[],none,none,none,rfl,S0,ac,rfl,(by intro j r b h;simp at h)⟩ (fun _ _ _ _ ⟨_,_,_,_,_,h,_⟩=>h) ?_ ?_
   · rintro i x σ H' hi hx ⟨ds,o3,o4,o5,rfl,hS,hH,hdl,hD⟩
     rw[List.getElem?_map] at hx
     obtain⟨pr,hpr,rfl⟩:=Option.map_eq_some_iff.mp hx
     rw[List.length_map,hpl] at hi
     obtain⟨b,hb⟩:∃ b,bs[i]?=some b:=⟨_,List.getElem?_eq_getElem hi⟩
     obtain⟨lo,ht,hlo⟩:=hB i pr b hpr hb
     have hbm:b∈bs:=List.mem_of_getElem? hb
     have hk:(bs.map (·.1))[i]?=some b.1:=by rw[List.getElem?_map,hb];rfl
     have hnk:b.1∉(bs.map (·.1)).take i:=io B.bnd hk
     have hln:((bs.map (·.1)).take i).length=(ds.map V.ref).length:=by rw[List.length_take,List.length_map,List.length_map,hdl];omega
     refine iP (hS _ _ ht) ?_
     walk_at "dm"
     refine cut (fun σ' H''=>∃ r,σ'=[some (.ref l),some (.ref lb),some (.ref d),some (.str b.1),some (.ref lo),o5]∧H' r=none∧r≠d∧H''=upd (upd H' r (.dK [])) d (.dK (cF ((bs.map (·.1)).take (i+1)) ((ds++[r]).map V.ref)))) ?_ ?_
     · walk_at "dm"
       intro r hr
       have hrd:r≠d:=fun e=>by rw[e,hH] at hr;cases hr
       refine⟨_,.inl ⟨_,Sum.inr b.1,by rw[ai (Ne.symm hrd)];exact hH,rfl,by rw[kK hln,List.length_take];omega,rfl⟩,r,hr,hrd,?_⟩
       rw[eA _ (cK _ _ _ hnk),bx hk,List.map_append]
       exact congrArg (fun z=>upd (upd H' r (HO.dK [])) d (HO.dK z)) (iK b.1 (V.ref r) hln).symm
     rintro σ2 H2 ⟨r,rfl,hr,hrd,rfl⟩
     have hrH:H r=none:=hS.free hr
     generalize hG:(upd (upd H' r (.dK [])) d (.dK (cF ((bs.map (·.1)).take (i+1)) ((ds++[r]).map V.ref))))=G
     have hGr:G r=some (.dK []):=by rw[←hG,ai hrd];exact ac
     have hGd:G d=some (.dK (cF ((bs.map (·.1)).take (i+1)) ((ds++[r]).map V.ref))):=by rw[←hG];exact ac
     have SG:af H G:=by rw[←hG];exact(hS.step hrH).step hd
     have SG':af (hide H' d) (hide G d):=by rw[←hG,dF];exact af.hide (af.updN hr)
     have hval:bP (cF ((bs.map (·.1)).take (i+1)) ((ds++[r]).map V.ref)) (Sum.inr b.1)=some (V.ref r):=by
       refine dH _ _ i _ _ (B.bnd.sublist (List.take_sublist _ _)) ?_ ?_
       · rw[List.getElem?_take,if_pos (Nat.lt_succ_self i)];exact hk
       · rw[List.getElem?_map,List.getElem?_append_right (by omega),hdl,Nat.sub_self];rfl
     have hbl:b.2.length=ss.length:=B.bln b hbm
     have hs12:=B.s12
     walk_at "dm"
     refine⟨_,.inl (SG.seq hl),?_⟩
     rw[List.length_map]
     refine⟨by omega,by omega,?_⟩
     refine a9 (H0:=H) bM (fun k σ' H''=>∃ o5,σ'=[some (.ref l),some (.ref lb),some (.ref d),some (.str b.1),some (.ref lo),o5]∧H''=upd G r (.dK (cF (ss.take k) ((b.2.take k).map V.str))))
       ⟨o5,rfl,?_⟩ (fun _ _ _ _ ⟨_,_,e⟩=>by rw[e];exact SG.step hrH) ?_ ?_
     · funext y
       by_cases e:y=r
       · rw[e,ac];exact hGr
       · rw[ai e]
     · rintro k x σ H'' hk2 rfl ⟨o5,rfl,rfl⟩
       have ek:(0:Int)+(k:Int)=k:=by omega
       rw[ek]
       have hkn:k < ss.length:=by omega
       obtain⟨sk,hsk⟩:∃ y,ss[k]?=some y:=⟨_,List.getElem?_eq_getElem hkn⟩
       obtain⟨ok,hok⟩:∃ y,b.2[k]?=some y:=⟨_,List.getElem?_eq_getElem (by omega)⟩
       have S2:af H (upd G r (.dK (cF (ss.take k) ((b.2.take k).map V.str)))):=SG.step hrH
       have hl2:(ss.take k).length=((b.2.take k).map V.str).length:=by rw[List.length_map,List.length_take,List.length_take];omega
       walk_at "dm"
       refine⟨_,SqL.of (S2 _ _ hlo),_,dg hok,V.ref r,.inl ⟨_,Sum.inr b.1,.inl (by rw[ai (Ne.symm hrd)];exact hGd),rfl,hval.symm⟩,_,S2.seq hl,_,dg hsk,r,rfl,_,.inl ⟨_,Sum.inr sk,ac,rfl,by rw[kK hl2,List.length_take];omega,rfl⟩,?_⟩
       rw[jC,eA _ (cK _ _ _ (io B.snd hsk)),bx hsk,bx hok,List.map_append]
       exact congrArg (fun z=>upd G r (HO.dK z)) (iK sk (V.str ok) hl2).symm
     · rintro σ H'' ⟨o5,rfl,rfl⟩
       have e1:ss.take ((ss.length:Int)).toNat=ss:=by rw[Int.toNat_natCast,List.take_length]
       have e2:b.2.take ((ss.length:Int)).toNat=b.2:=by rw[Int.toNat_natCast,←hbl,List.take_length]
       rw[e1,e2]
       refine⟨⟨_,_,_,rfl⟩,SG.step hrH,ds++[r],by rw[ai (Ne.symm hrd)];exact hGd,by rw[List.length_append,hdl];rfl,fun j r2 b2 hr2 hb2=>?_⟩
       by_cases hj:j < i
       · rw[List.getElem?_append_left (by omega)] at hr2
         have h1:=SG' _ _ (hD j r2 b2 hr2 hb2)
         have h2:H' r2=some (.dK (kF ss b2)):=cu _ _ (hD j r2 b2 hr2 hb2)
         have hne:r2≠r:=fun e=>by rw[e,hr] at h2;cases h2
         unfold hide at h1 ⊢
         by_cases e:r2=d
         · rw[if_pos e] at h1;cases h1
         · rw[if_neg e] at h1 ⊢;rw[ai hne];exact h1
       · have hj2:j=i:=by
           have:=(List.getElem?_eq_some_iff.mp hr2).1
           rw[List.length_append,hdl] at this
           simp only[List.length_singleton] at this
           omega
         subst hj2
         rw[List.getElem?_append_right (by omega),hdl,Nat.sub_self] at hr2
         cases hr2
         rw[hb] at hb2
         cases hb2
         rw[bq hrd,ac]
         rfl
   · rintro σ H' ⟨ds,o3,o4,o5,rfl,hS,hH,hdl,hD⟩
     rw[List.length_map,hpl] at hH hdl
     walk_at "dm"
     refine q d H' hd hS ⟨ds,.inl ?_,hdl,fun j r b hr hb=>.inl (cu _ _ (hD j r b hr hb))⟩
     rw[hH,List.take_of_length_le (by rw[List.length_map];exact Nat.le_refl _)]
end

section
variable {P:Program}{w:World}{K:PySem.W.Frag}{mg:Str→Option Value}{base:Heap}
structure xX (mg:Str→Option Value):Prop where
 mostS:∃ t,mg "MOST_SHADES"=some (.int 12 t)
 mostB:∃ t,mg "MOST_BATHS"=some (.int 8 t)
theorem qR:∀ (l acc:List Str),(acc++l).Nodup→l.foldl jz acc=acc++l
 | [],acc,_=>by simp
 | x::l,acc,h=>by
   have hx:x∉acc:=fun hm=>(List.nodup_append.mp h).2.2 x hm x List.mem_cons_self rfl
   have e:jz acc x=acc++[x]:=by unfold jz;rw[if_neg hx]
   rw[List.foldl_cons,e,qR l (acc++[x]) (by rw[List.append_assoc];exact h),List.append_assoc]
   rfl
theorem vA {l:List Str}(h:l.Nodup):eK l=l:=by unfold eK;rw[qR l [] h];rfl
theorem ke {z:Str}(h:bu z=true):z.length≤8:=by
 unfold bu at h
 rw[Bool.and_eq_true,Bool.and_eq_true] at h
 exact of_decide_eq_true h.1.2
def ki (K:PySem.W.Frag):Sp:=fun vs H Q _=>∃ (l:Addr)(ws:List Str),vs=[.ref l]∧SqL K H l (ws.map V.str)∧ws.length≤100∧ws.Nodup∧(∀ x∈ws,bu x=true)∧∀ H',af H H'→Q .non H'
theorem oa:au ["texts", "text"] ["texts"] (ae gE):=⟨rfl,rfl,rfl,by decide +kernel,rfl,by decide +kernel,by decide +kernel⟩
theorem sj {f fG:Addr}{fd fdG:FuncData}(F:Fun K "check_names" "check_names" gE f fd)(T:Txt mg)(GG:aw P w K mg base CX0 1 fG fdG ["text"] qj)(kG:PySem.W.keepIn K (.ref fG)=true)(bG:az K fdG ["text"] [])(mG:mg "good_name"=some (.ref fG)) :
   aw P w K mg base CX0 2 f fd ["texts"] (ki K):=by
 refine F.ok oa (fun vs H Q E h=>?_) (fun cdv A outer s H vs Q E hr h=>?_)
 · obtain⟨_,_,rfl,_⟩:=h
   rfl
 · obtain⟨l,ws,rfl,hl,hlen,hnd,hnm,q⟩:=h
   refine⟨_,am (bj PassesOwn.never rfl (aQ (pv 0)) (ao (i:=1) oa.nd rfl (Or.inl rfl))
       (ag (aR (cE (cw (aq GG hr rfl mG kG bG .nil aH (aa (pv 1) ad)))) ck aB)))
     (ag (aR (aF qU (al rW (by rfl) T.len PySem.boot_len (aa (aZ (vg rfl) (by rfl) T.set (by decide +kernel) (aa (pv 0) ad)) ad)) (al aE (by rfl) T.len PySem.boot_len (aa (pv 0) ad)) (aM _)) ck aB)),?_⟩
   have hs:=aP
   walk_at "dm"
   refine⟨⟨_,hl⟩,?_⟩
   refine a9 (H0:=H) (ax hl) (fun i σ' H'=>∃ o,σ'=[some (.ref l),o]∧af H H') ⟨none,rfl,af.refl H⟩ (fun _ _ _ _ ⟨_,_,h⟩=>h) ?_ ?_
   · rintro i x σ H' hi hx ⟨o,rfl,hS⟩
     rw[List.getElem?_map] at hx
     obtain⟨z,hz,rfl⟩:=Option.map_eq_some_iff.mp hx
     have hzm:=hnm z (List.mem_of_getElem? hz)
     have h8:=ke hzm
     walk_at "dm"
     refine⟨z,rfl,by omega,fun H2 S2=>?_⟩
     rw[hzm]
     exact⟨_,rfl,hS.trans S2⟩
   · rintro σ H' ⟨o,rfl,hS⟩
     walk_at "dm"
     refine⟨_,hS.seq hl,by omega,fun p hp=>⟨_,ac,_,.inl ((hS.step (hS.free hp)).seq hl),rfl,?_⟩⟩
     rw[List.length_map,vA hnd]
     refine aV (fun h=>absurd rfl h) (fun _=>q _ (hS.step (hS.free hp)))
def lw (K:PySem.W.Frag):Sp:=fun vs H Q _=>∃ (l:Addr)(ws:List Str),vs=[.ref l]∧SqL K H l (ws.map V.str)∧1≤ws.length∧ws.length≤12∧ws.Nodup∧(∀ x∈ws,bu x=true)∧∀ H',af H H'→Q .non H'
theorem rP:au ["shades"] ["shades"] (ae e8):=⟨rfl,rfl,rfl,by decide +kernel,rfl,by decide +kernel,by decide +kernel⟩
theorem qC {f fG:Addr}{fd fdG:FuncData}(F:Fun K "check_shades" "check_shades" e8 f fd)(T:Txt mg)(TB:xX mg)(GG:aw P w K mg base CX0 2 fG fdG ["texts"] (ki K))(kG:PySem.W.keepIn K (.ref fG)=true)(bG:az K fdG ["texts"] [])(mG:mg "check_names"=some (.ref fG)) :
   aw P w K mg base CX0 3 f fd ["shades"] (lw K):=by
 refine F.ok rP (fun vs H Q E h=>?_) (fun cdv A outer s H vs Q E hr h=>?_)
 · obtain⟨_,_,rfl,_⟩:=h
   rfl
 · obtain⟨l,ws,rfl,hl,hlen1,hlen,hnd,hnm,q⟩:=h
   obtain⟨tg,hms⟩:=TB.mostS
   refine⟨_,am (aR (aF js (al aE (by rfl) T.len PySem.boot_len (aa (pv 0) ad)) ah (aM _)) ck aB)
     (am (aR (aF iE (al aE (by rfl) T.len PySem.boot_len (aa (pv 0) ad)) (da (v:=.int 12) rfl hms ⟨_,rfl⟩) (aM _)) ck aB)
     (ag (aU (aq GG hr rfl mG kG bG .nil aH (aa (pv 0) ad))))),?_⟩
   have hs:=aP
   walk_at "dm"
   refine⟨_,.inl hl,?_⟩
   rw[List.length_map]
   refine aV (fun h=>absurd h (by omega)) (fun _=>⟨_,.inl hl,?_⟩)
   rw[List.length_map]
   refine aV (fun h=>absurd h (by omega)) (fun _=>⟨l,ws,rfl,hl,by omega,hnd,hnm,q⟩)
def qZ (K:PySem.W.Frag):Sp:=fun vs H Q _=>∃ (l lo:Addr)(ss os:List Str),vs=[.ref l,.ref lo]∧SqL K H l (ss.map V.str)∧SqL K H lo (os.map V.str)∧os.length=ss.length∧ss.length≤100∧(∀ x∈os,x∈ss)∧∀ H',af H H'→Q .non H'
theorem rg:au ["shades", "outs", "shade"] ["shades", "outs"] (ae i9):=⟨rfl,rfl,rfl,by decide +kernel,rfl,by decide +kernel,by decide +kernel⟩
theorem tP {f:Addr}{fd:FuncData}(F:Fun K "check_outs" "check_outs" i9 f fd)(T:Txt mg) :
   aw P w K mg base CX0 1 f fd ["shades", "outs"] (qZ K):=by
 refine F.ok rg (fun vs H Q E h=>?_) (fun cdv A outer s H vs Q E hr h=>?_)
 · obtain⟨_,_,_,_,rfl,_⟩:=h
   rfl
 · obtain⟨l,lo,ss,os,rfl,hl,hlo,hlen,hlen2,hin,q⟩:=h
   refine⟨_,am (aR (aF qU (al aE (by rfl) T.len PySem.boot_len (aa (pv 1) ad)) (al aE (by rfl) T.len PySem.boot_len (aa (pv 0) ad)) (aM _)) ck aB)
     (ag (bj PassesOwn.never rfl (aQ (pv 1)) (ao (i:=2) rg.nd rfl (Or.inl rfl))
       (ag (aR (aF dW (pv 2) (pv 0) (by with_unfolding_all rfl)) ck aB)))),?_⟩
   have hs:=aP
   walk_at "dm"
   refine⟨_,.inl hlo,_,.inl hl,rfl,?_⟩
   rw[List.length_map,List.length_map]
   refine aV (fun h=>absurd (by rw[hlen]) h) (fun _=>⟨⟨_,hlo⟩,?_⟩)
   refine a9 (H0:=H) (ax hlo) (fun i σ' H'=>∃ o,σ'=[some (.ref l),some (.ref lo),o]∧H'=H) ⟨none,rfl,rfl⟩ (fun _ _ _ _ ⟨_,_,h⟩=>by rw[h];exact af.refl _) ?_ ?_
   · rintro i x σ H' hi hx ⟨o,rfl,rfl⟩
     rw[List.getElem?_map] at hx
     obtain⟨z,hz,rfl⟩:=Option.map_eq_some_iff.mp hx
     walk_at "dm"
     refine⟨_,.inl hl,rfl,ee ss,?_⟩
     rw[fF,decide_eq_true (hin z (List.mem_of_getElem? hz))]
     exact⟨_,rfl⟩
   · rintro σ H' ⟨o,rfl,rfl⟩
     exact q _ (af.refl _)
def o0 (K:PySem.W.Frag):Sp:=fun vs H Q _=>∃ (l lb:Addr)(ss:List Str)(bs:List (Str×List Str)),vs=[.ref l,.ref lb]∧SqL K H l (ss.map V.str)∧jw H lb bs∧aO ss bs∧∀ H',af H H'→Q .non H'
theorem ko:au ["shades", "baths", "name", "outs"] ["shades", "baths"] (ae gj):=⟨rfl,rfl,rfl,by decide +kernel,rfl,by decide +kernel,by decide +kernel⟩
theorem tH {f fG fO:Addr}{fd fdG fdO:FuncData}(F:Fun K "check_baths" "check_baths" gj f fd)(T:Txt mg)(TB:xX mg)(GG:aw P w K mg base CX0 2 fG fdG ["texts"] (ki K))(kG:PySem.W.keepIn K (.ref fG)=true)(bG:az K fdG ["texts"] [])(mG:mg "check_names"=some (.ref fG))
   (GO:aw P w K mg base CX0 1 fO fdO ["shades", "outs"] (qZ K))(kO:PySem.W.keepIn K (.ref fO)=true)(bO:az K fdO ["shades", "outs"] [])(mO:mg "check_outs"=some (.ref fO)) :
   aw P w K mg base CX0 3 f fd ["shades", "baths"] (o0 K):=by
 refine F.ok ko (fun vs H Q E h=>?_) (fun cdv A outer s H vs Q E hr h=>?_)
 · obtain⟨_,_,_,_,rfl,_⟩:=h
   rfl
 · obtain⟨l,lb,ss,bs,rfl,hl,⟨ps,hlb,hpl,hB⟩,B,q⟩:=h
   obtain⟨tg,hms⟩:=TB.mostB
   have hr1:=hr.mono (j:=1) (by omega)
   refine⟨_,am (aR (aF iE (al aE (by rfl) T.len PySem.boot_len (aa (pv 1) ad)) (da (v:=.int 8) rfl hms ⟨_,rfl⟩) (aM _)) ck aB)
     (aj (aU (aq GG hr rfl mG kG bG .nil aH (aa (cM (N':=["name", "outs"]) (pk:=[none,none]) rfl (cc.of (by rfl)) (aQ (pv 1)) (fun s H ex=>(fK (n:=2) rfl (bc (ao (i:=0) (by show(["name", "outs"]:List Str).Nodup;decide +kernel) rfl (Or.inl rfl)) (bc (ao (i:=1) (by show(["name", "outs"]:List Str).Nodup;decide +kernel) rfl (Or.inl rfl)) dY)):PG _ _ (rM K 2 (dQ (cT 0) (dQ (cT 1) pS)))))
         (fun s H ex=>pv 0)) ad)))
     (ag (bj PassesOwn.never rfl (aQ (pv 1)) (fK (n:=2) rfl (bc (ao (i:=2) ko.nd rfl (Or.inl rfl)) (bc (ao (i:=3) ko.nd rfl (Or.inl rfl)) dY)))
       (ag (aU (aq GO hr1 rfl mO kO bO .nil aH (aa (pv 0) (aa (pv 3) ad)))))))),?_⟩
   have hs:=aP
   walk_at "dm"
   have hb8:=B.b8
   have hs12:=B.s12
   refine⟨_,.inl (SqL.of hlb),?_⟩
   rw[List.length_map]
   refine aV (fun h=>absurd h (by omega)) (fun _=>?_)
   refine cut (fun σ' H'=>σ'=[some (.ref l),some (.ref lb),none,none]∧af H H') ?_ ?_
   · walk_at "dm"
     refine⟨⟨_,SqL.of hlb⟩,fun D hD=>?_⟩
     refine cz (ax (SqL.of hlb)) (by rw[List.length_map];omega) hD (fun σ=>∃ o1 o2,σ=[o1,o2]) (fun k=>V.str (bs.getD k (⟨#[]⟩,[])).1) ⟨none,none,rfl⟩ ?_ ?_
     · rintro k x σ' H3 hk hx ⟨o1,o2,rfl⟩ hS3 R hR
       rw[List.getElem?_map] at hx
       obtain⟨y,hy,rfl⟩:=Option.map_eq_some_iff.mp hx
       obtain⟨b,hb⟩:∃ b,bs[k]?=some b:=⟨_,List.getElem?_eq_getElem (by rw[List.length_map] at hk;omega)⟩
       obtain⟨lo,ht,hlo⟩:=hB k y b hy hb
       refine iP (hS3 _ _ ht) ?_
       walk_at "dm"
       have e:(bs.getD k (⟨#[]⟩,[]))=b:=by rw[List.getD_eq_getElem?_getD,hb];rfl
       have:=hR [some (V.str b.1),some (V.ref lo)] ⟨_,_,rfl⟩
       rw[e] at this
       exact this
     · have e:(List.range (ps.map V.ref).length).map (fun k=>V.str (bs.getD k (⟨#[]⟩,[])).1)=(bs.map (·.1)).map V.str:=by
         rw[List.map_map]
         refine ef _ bs _ _ (by rw[List.length_map,hpl]) fun k x hx=>?_
         rw[List.getD_eq_getElem?_getD,hx]
         rfl
       rw[e]
       refine⟨D,bs.map (·.1),rfl,SqL.of ac,by rw[List.length_map];omega,B.bnd,fun x hx=>?_,fun H' S'=>(af.updN hD).trans S'⟩
       obtain⟨b,hb,rfl⟩:=List.mem_map.mp hx
       exact B.bnm b hb
   rintro σ1 H1 ⟨rfl,S1⟩
   walk_at "dm"
   refine⟨⟨_,SqL.of (S1 _ _ hlb)⟩,?_⟩
   refine a9 (H0:=H) (ax (SqL.of hlb)) (fun i σ' H'=>∃ o2 o3,σ'=[some (.ref l),some (.ref lb),o2,o3]∧af H H') ⟨none,none,rfl,S1⟩ (fun _ _ _ _ ⟨_,_,_,h⟩=>h) ?_ ?_
   · rintro i x σ H' hi hx ⟨o2,o3,rfl,hS⟩
     rw[List.getElem?_map] at hx
     obtain⟨y,hy,rfl⟩:=Option.map_eq_some_iff.mp hx
     obtain⟨b,hb⟩:∃ b,bs[i]?=some b:=⟨_,List.getElem?_eq_getElem (by rw[List.length_map] at hi;omega)⟩
     obtain⟨lo,ht,hlo⟩:=hB i y b hy hb
     have hbm:b∈bs:=List.mem_of_getElem? hb
     refine iP (hS _ _ ht) ?_
     walk_at "dm"
     exact⟨l,lo,ss,b.2,rfl,hS.seq hl,SqL.of (hS _ _ hlo),B.bln b hbm,by omega,B.bin b hbm,fun H2 S2=>hS.trans S2⟩
   · rintro σ H' ⟨o2,o3,rfl,hS⟩
     exact q _ hS
end

section
variable {P:Program}{w:World}{K:PySem.W.Frag}{mg:Str→Option Value}{base:Heap}
def bg (H:Hp)(C x:Addr)(ss:List Str)(bs:List (Str×List Str)):Prop :=
 ∃ (dx t d:Addr)(so:List Str),H x=some (.ins C dx [("order",.ref t),("tables",.ref d)])∧H t=some (.tup (so.map V.str))∧so.Perm ss∧PyProof.Rows.sortedS so=true∧gJ H d ss bs
theorem af.book {H H':Hp}{C x:Addr}{ss:List Str}{bs:List (Str×List Str)}(S:af H H')(h:bg H C x ss bs):bg H' C x ss bs:=by
 obtain⟨dx,t,d,so,h1,h2,h3,h4,h5⟩:=h
 exact⟨dx,t,d,so,S _ _ h1,S _ _ h2,h3,h4,af.tabs S h5⟩
theorem vE {H:Hp}{x C dx l:Addr}{fs:List (Str×V)}{xs:List V}(hx:H x=some (.ins C dx fs))(h:SqL K H l xs):SqL K (hide H x) l xs:=by
 rcases h with (h | ⟨o,h⟩) | h
 · exact .inl (.inl (by rw[bq (fun e=>by rw[e,hx] at h;cases h)];exact h))
 · exact .inl (.inr ⟨o,by rw[bq (fun e=>by rw[e,hx] at h;cases h)];exact h⟩)
 · exact .inr h
theorem rZ {H:Hp}{x C dx lb:Addr}{fs:List (Str×V)}{bs:List (Str×List Str)}(hx:H x=some (.ins C dx fs))(h:jw H lb bs):jw (hide H x) lb bs:=by
 obtain⟨ps,h1,h2,h3⟩:=h
 refine⟨ps,by rw[bq (fun e=>by rw[e,hx] at h1;cases h1)];exact h1,h2,fun i p b hp hb=>?_⟩
 obtain⟨o,e1,e2⟩:=h3 i p b hp hb
 exact⟨o,by rw[bq (fun e=>by rw[e,hx] at e1;cases e1)];exact e1,by rw[bq (fun e=>by rw[e,hx] at e2;cases e2)];exact e2⟩
theorem px {u:V}:cP (Str.ofString "order") u []=[(Str.ofString "order",u)]:=rfl
theorem oy {u v:V}:cP (Str.ofString "tables") v [(Str.ofString "order",u)]=[(Str.ofString "order",u),(Str.ofString "tables",v)]:=by
 unfold cP
 rw[if_neg (by decide +kernel)]
 rfl
theorem gb {u v:V}:List.lookup (Str.ofString "order") [(Str.ofString "order",u),(Str.ofString "tables",v)]=some u:=by
 rw[List.lookup_cons,show(Str.ofString "order"==Str.ofString "order")=true by decide +kernel]
theorem dt {u v:V}:List.lookup (Str.ofString "tables") [(Str.ofString "order",u),(Str.ofString "tables",v)]=some v:=by
 rw[List.lookup_cons,show(Str.ofString "tables"==Str.ofString "order")=false by decide +kernel]
 show List.lookup _ [(Str.ofString "tables",v)]=some v
 rw[List.lookup_cons,show(Str.ofString "tables"==Str.ofString "tables")=true by decide +kernel]
theorem ly:∀ (ks:List Str)(vs:List V)(acc:List (Key×V)),ks.Nodup→(∀ k∈ks,bP acc (Sum.inr k)=none)→cQ acc (cF ks vs)=acc++cF ks vs
 | [],vs,acc,_,_=>by
   show cQ acc []=acc++[]
   rw[List.append_nil];rfl
 | k::ks,[],acc,_,_=>by
   show cQ acc []=acc++[]
   rw[List.append_nil];rfl
 | k::ks,v::vs,acc,hd,hn=>by
   rw[gy]
   show cQ (fr acc (Sum.inr k) v) (cF ks vs)=_
   rw[eA _ (hn k List.mem_cons_self),ly ks vs _ (List.nodup_cons.mp hd).2 (fun y hy=>?_),List.append_assoc]
   · rfl
   · have hne:¬(Sum.inr y:Key)=Sum.inr k:=fun e=>(List.nodup_cons.mp hd).1 (by rw[←Sum.inr.inj e];exact hy)
     rw[lP _ _ _ _ (hn k List.mem_cons_self),if_neg hne]
     exact hn y (List.mem_cons_of_mem _ hy)
theorem qv {ks:List Str}{vs:List V}(h:ks.Nodup):cQ [] (cF ks vs)=cF ks vs:=by
 rw[ly ks vs [] h (fun _ _=>rfl)];rfl
def pU (K:PySem.W.Frag)(C:Addr):Sp:=fun vs H Q _=>∃ (x dx l lb:Addr)(ss:List Str)(bs:List (Str×List Str)),vs=[.ref x,.ref l,.ref lb]∧H x=some (.ins C dx [])∧SqL K H l (ss.map V.str)∧jw H lb bs∧aO ss bs ∧
 ∀ H',af (hide H x) H'→bg H' C x ss bs→Q .non H'
theorem qa:au ["self", "shades", "baths", "name", "outs"] ["self", "shades", "baths"] (ae jT):=⟨rfl,rfl,rfl,by decide +kernel,rfl,by decide +kernel,by decide +kernel⟩
theorem wF {C f fS fB:Addr}{fd fdS fdB:FuncData}(F:Fun K "__init__" "Book.__init__" jT f fd)(T:Txt mg)(c:Cls K C)(nO:bV K C "order")(nT:bV K C "tables")
   (GS:aw P w K mg base CX0 3 fS fdS ["shades"] (lw K))(kS:PySem.W.keepIn K (.ref fS)=true)(bS:az K fdS ["shades"] [])(mS:mg "check_shades"=some (.ref fS))
   (GB:aw P w K mg base CX0 3 fB fdB ["shades", "baths"] (o0 K))(kB:PySem.W.keepIn K (.ref fB)=true)(bB:az K fdB ["shades", "baths"] [])(mB:mg "check_baths"=some (.ref fB)) :
   aw P w K mg base CX0 4 f fd ["self", "shades", "baths"] (pU K C):=by
 refine F.ok qa (fun vs H Q E h=>?_) (fun cdv A outer s H vs Q E hr h=>?_)
 · obtain⟨_,_,_,_,_,_,rfl,_⟩:=h
   rfl
 · obtain⟨x,dx,l,lb,ss,bs,rfl,hx,hl,hb,B,q⟩:=h
   have hu:(cr CX0 P w K mg base ["self", "shades", "baths", "name", "outs"] "Book.__init__" (ae jT) f cdv A outer s H E).A.units+1 < cLine:=by
     have:=hr.units
     exact Nat.lt_of_le_of_lt (Nat.add_le_add_left (by decide) _) this
   refine⟨_,aj (aU (aq GS hr rfl mS kS bS .nil aH (aa (pv 1) ad)))
     (aj (aU (aq GB hr rfl mB kB bB .nil aH (aa (pv 1) (aa (pv 2) ad))))
     (aj (gW (pv 0) (aZ eZ (by rfl) T.tuple (by decide +kernel) (aa (al dU (by rfl) T.sorted (by decide +kernel) (aa (pv 1) ad)) ad)) rfl)
     (aj (gW (pv 0) iz rfl)
     (ag (bj PassesOwn.never rfl (aQ (pv 2)) (fK (n:=2) rfl (bc (ao (i:=3) qa.nd rfl (Or.inl rfl)) (bc (ao (i:=4) qa.nd rfl (Or.inl rfl)) dY)))
       (ag (gu hu (cb (pv 0) rfl) (pv 3) (pP rfl (by rfl) T.dict (by rfl) T.zip (aa (pv 1) (aa (pv 4) ad))) rfl))))))),?_⟩
   have hs:=aP
   have hl0:=vE hx hl
   have hb0:=rZ hx hb
   generalize hH0:hide H x=H0 at hl0 hb0 q
   have SH:af H0 H:=by rw[←hH0];exact cu
   have hx0:H0 x=none:=by rw[←hH0];unfold hide;rw[if_pos rfl]
   refine cut (fun σ' H'=>σ'=[some (.ref x),some (.ref l),some (.ref lb),none,none]∧af H H') ?_ ?_
   · walk_at "dm"
     exact⟨l,ss,rfl,hl,B.s1,B.s12,B.snd,B.snm,fun H' S'=>S'⟩
   rintro σ1 H1 ⟨rfl,S1⟩
   refine cut (fun σ' H'=>σ'=[some (.ref x),some (.ref l),some (.ref lb),none,none]∧af H H') ?_ ?_
   · walk_at "dm"
     exact⟨l,lb,ss,bs,rfl,S1.seq hl,af.bths S1 hb,B,fun H' S'=>S1.trans S'⟩
   rintro σ2 H2 ⟨rfl,S2⟩
   have hs12:=B.s12
   refine cut (fun σ' H'=>∃ t so,σ'=[some (.ref x),some (.ref l),some (.ref lb),none,none]∧af H0 H'∧H' x=some (.ins C dx [("order",.ref t)])∧H' t=some (.tup (so.map V.str))∧so.Perm ss∧PyProof.Rows.sortedS so=true) ?_ ?_
   · walk_at "dm"
     have S02:af H0 H2:=SH.trans S2
     have hx2:=S2 _ _ hx
     refine⟨ss,S2.seq hl,by omega,fun p so hp hpm hso=>⟨_,.inl ⟨SqL.of ac,fun t ht=>?_⟩⟩⟩
     have hxp:x≠p:=fun e=>by rw[←e,hx2] at hp;cases hp
     have ht2:H2 t=none:=(af.updN hp).free ht
     have hxt:x≠t:=fun e=>by rw[←e,hx2] at ht2;cases ht2
     refine⟨C,dx,[],by rw[ai hxt,ai hxp];exact hx2,c,nO,by decide,((S02.step (S02.free hp)).step (S02.free ht2)).step hx0,t,by rw[ac,px],so,?_,hpm,hso⟩
     rw[ai (Ne.symm hxt)];exact ac
   rintro σ3 H3 ⟨t,so,rfl,S3,hx3,ht3,hpm,hso⟩
   refine cut (fun σ' H'=>∃ d,σ'=[some (.ref x),some (.ref l),some (.ref lb),none,none]∧H3 d=none∧H'=upd (upd H3 d (.dK [])) x (.ins C dx [("order",.ref t),("tables",.ref d)])) ?_ ?_
   · walk_at "dm"
     intro d hd
     have hxd:x≠d:=fun e=>by rw[←e,hx3] at hd;cases hd
     exact⟨C,dx,_,by rw[ai hxd];exact hx3,c,nT,by rw[List.length_singleton];decide,d,hd,by rw[oy]⟩
   rintro σ4 H4 ⟨d,rfl,hd3,rfl⟩
   have hxd:x≠d:=fun e=>by rw[←e,hx3] at hd3;cases hd3
   have htx:t≠x:=fun e=>by rw[e,hx3] at ht3;cases ht3
   have htd:t≠d:=fun e=>by rw[←e,ht3] at hd3;cases hd3
   have hd0:H0 d=none:=S3.free hd3
   obtain⟨ps,hlb,hpl,hB⟩:=hb0
   have hb8:=B.b8
   have S4:af H0 (upd (upd H3 d (.dK [])) x (.ins C dx [("order",.ref t),("tables",.ref d)])):=(S3.step hd0).step hx0
   walk_at "dm"
   refine⟨⟨_,SqL.of (S4 _ _ hlb)⟩,?_⟩
   refine a9 (H0:=H0) (ax (SqL.of hlb)) (fun i σ' H'=>∃ (ds:List Addr)(o3 o4:Option V),σ'=[some (.ref x),some (.ref l),some (.ref lb),o3,o4]∧af H0 H'∧H' x=some (.ins C dx [("order",.ref t),("tables",.ref d)])∧H' t=some (.tup (so.map V.str)) ∧
     H' d=some (.dK (cF ((bs.map (·.1)).take i) (ds.map V.ref)))∧ds.length=i∧∀ (j:Nat) r b,ds[j]?=some r→bs[j]?=some b→hide H' d r=some (.dK (kF ss b)))
     ⟨[],none,none,rfl,S4,ac,(by rw[ai htx,ai htd];exact ht3),(by rw[ai (Ne.symm hxd)];exact ac),rfl,(by intro j r b h;simp at h)⟩ (fun _ _ _ _ ⟨_,_,_,_,h,_⟩=>h) ?_ ?_
   · rintro i y σ H' hi hy ⟨ds,o3,o4,rfl,hS,hHx,hHt,hHd,hdl,hD⟩
     rw[List.getElem?_map] at hy
     obtain⟨pr,hpr,rfl⟩:=Option.map_eq_some_iff.mp hy
     rw[List.length_map,hpl] at hi
     obtain⟨b,hb⟩:∃ b,bs[i]?=some b:=⟨_,List.getElem?_eq_getElem hi⟩
     obtain⟨lo,ht,hlo⟩:=hB i pr b hpr hb
     have hbm:b∈bs:=List.mem_of_getElem? hb
     have hk:(bs.map (·.1))[i]?=some b.1:=by rw[List.getElem?_map,hb];rfl
     have hnk:b.1∉(bs.map (·.1)).take i:=io B.bnd hk
     have hln:((bs.map (·.1)).take i).length=(ds.map V.ref).length:=by rw[List.length_take,List.length_map,List.length_map,hdl];omega
     have hbl:b.2.length=ss.length:=B.bln b hbm
     refine iP (hS _ _ ht) ?_
     walk_at "dm"
     refine⟨ss,hS.seq hl0,_,SqL.of (hS _ _ hlo),by rw[List.length_map];exact hbl.symm,by omega,fun r hr=>?_⟩
     rw[qv B.snd]
     have hxr:x≠r:=fun e=>by rw[←e,hHx] at hr;cases hr
     have htr:t≠r:=fun e=>by rw[←e,hHt] at hr;cases hr
     have hrd:r≠d:=fun e=>by rw[e,hHd] at hr;cases hr
     refine⟨C,dx,_,by rw[ai hxr];exact hHx,c,nT,_,dt,d,rfl,_,.inl ⟨_,Sum.inr b.1,by rw[ai (Ne.symm hrd)];exact hHd,rfl,by rw[kK hln,List.length_take];omega,rfl⟩,(hS.step (hS.free hr)).step hd0,by rw[ai hxd,ai hxr];exact hHx,by rw[ai htd,ai htr];exact hHt,ds++[r],?_,by rw[List.length_append,hdl];rfl,fun j r2 b2 hr2 hb2=>?_⟩
     · rw[ac,eA _ (cK _ _ _ hnk),bx hk,List.map_append]
       exact congrArg (fun z=>some (HO.dK z)) (iK b.1 (V.ref r) hln).symm
     · rw[dF]
       by_cases hj:j < i
       · rw[List.getElem?_append_left (by omega)] at hr2
         exact af.hide (af.updN hr) _ _ (hD j r2 b2 hr2 hb2)
       · have hj2:j=i:=by
           have:=(List.getElem?_eq_some_iff.mp hr2).1
           rw[List.length_append,hdl] at this
           simp only[List.length_singleton] at this
           omega
         subst hj2
         rw[List.getElem?_append_right (by omega),hdl,Nat.sub_self] at hr2
         cases hr2
         rw[hb] at hb2
         cases hb2
         rw[bq hrd,ac]
         rfl
   · rintro σ H' ⟨ds,o3,o4,rfl,hS,hHx,hHt,hHd,hdl,hD⟩
     rw[List.length_map,hpl] at hHd hdl
     refine q H' hS ⟨dx,t,d,so,hHx,hHt,hpm,hso,ds,.inl ?_,hdl,fun j r b hr hb=>.inl (cu _ _ (hD j r b hr hb))⟩
     rw[hHd,List.take_of_length_le (by rw[List.length_map];exact Nat.le_refl _)]
end

section
variable {P:Program}{w:World}{K:PySem.W.Frag}{mg:Str→Option Value}{base:Heap}
def lkV (ss:List Str)(b:Str×List Str) (z:Str):Str:=match bP (kF ss b) (Sum.inr z) with
 | some (.str y)=>y
 | _=>⟨#[]⟩
theorem pO {ss:List Str}{b:Str×List Str}{z:Str}(hd:ss.Nodup)(hl:b.2.length=ss.length)(hz:z∈ss):bP (kF ss b) (Sum.inr z)=some (V.str (lkV ss b z)):=by
 obtain⟨i,hi⟩:=List.getElem?_of_mem hz
 have hil:i < b.2.length:=by rw[hl];exact(List.getElem?_eq_some_iff.mp hi).1
 have e:bP (kF ss b) (Sum.inr z)=some (V.str b.2[i]):=dH ss (b.2.map V.str) i z _ hd hi (by rw[List.getElem?_map,List.getElem?_eq_getElem hil];rfl)
 unfold lkV
 rw[e]
theorem gJ.get {H:Hp}{d:Addr}{ss:List Str}{bs:List (Str×List Str)}(B:aO ss bs)(h:gJ H d ss bs){b:Str×List Str}(hb:b∈bs):∃ r,eJ H d (.str b.1) (some (.ref r))∧Rd H r (.dK (kF ss b)):=by
 obtain⟨ds,h1,h2,h3⟩:=h
 obtain⟨i,hi⟩:=List.getElem?_of_mem hb
 have hil:i < ds.length:=by rw[h2];exact(List.getElem?_eq_some_iff.mp hi).1
 have hr:=List.getElem?_eq_getElem hil
 refine⟨ds[i],.inl ⟨_,Sum.inr b.1,h1,rfl,?_⟩,h3 i _ b hr hi⟩
 exact(dH _ _ i _ _ B.bnd (by rw[List.getElem?_map,hi];rfl) (by rw[List.getElem?_map,hr];rfl)).symm
theorem bU {m:Str}{u v:V}(h1:(m==Str.ofString "order")=false)(h2:(m==Str.ofString "tables")=false):List.lookup m [(Str.ofString "order",u),(Str.ofString "tables",v)]=none:=by
 rw[List.lookup_cons,h1]
 show List.lookup m [(Str.ofString "tables",v)]=none
 rw[List.lookup_cons,h2]
 rfl
def jY (C:Addr):Sp:=fun vs H Q _=>∃ (x:Addr)(ss:List Str)(bs:List (Str×List Str))(b:Str×List Str),vs=[.ref x,.str b.1]∧bg H C x ss bs∧aO ss bs∧b∈bs∧Q .non H
theorem oM:au ["self", "bath"] ["self", "bath"] (ae d8):=⟨rfl,rfl,rfl,by decide +kernel,rfl,by decide +kernel,by decide +kernel⟩
theorem sE {C f:Addr}{fd:FuncData}(F:Fun K "check_bath" "Book.check_bath" d8 f fd)(c:Cls K C)(nT:bV K C "tables"):aw P w K mg base CX0 1 f fd ["self", "bath"] (jY C):=by
 refine F.ok oM (fun vs H Q E h=>?_) (fun cdv A outer s H vs Q E hr h=>?_)
 · obtain⟨_,_,_,_,rfl,_⟩:=h
   rfl
 · obtain⟨x,ss,bs,b,rfl,⟨dx,t,d,so,h1,h2,h3,h4,h5⟩,B,hb,q⟩:=h
   have hu:(cr CX0 P w K mg base ["self", "bath"] "Book.check_bath" (ae d8) f cdv A outer s H E).A.units+1 < cLine:=by
     have:=hr.units
     exact Nat.lt_of_le_of_lt (Nat.add_le_add_left (by decide) _) this
   refine⟨_,ag (aR (e7 (dz hu (pv 1) (cb (pv 0) rfl))) ck aB),?_⟩
   obtain⟨r,hg,hr⟩:=gJ.get B h5 hb
   walk_at "dm"
   exact⟨C,dx,_,h1,c,nT,_,dt,d,rfl,_,hg,q⟩
def gz (C:Addr):Sp:=fun vs H Q _=>∃ (x:Addr)(ss:List Str)(bs:List (Str×List Str)),vs=[.ref x]∧bg H C x ss bs∧aO ss bs∧∀ l so,H l=none→so.Perm ss→PyProof.Rows.sortedS so=true→Q (.ref l) (upd H l (.lst (so.map V.str)))
theorem su:au ["self"] ["self"] (ae fe):=⟨rfl,rfl,rfl,by decide +kernel,rfl,by decide +kernel,by decide +kernel⟩
theorem qp {C f:Addr}{fd:FuncData}(F:Fun K "shades" "Book.shades" fe f fd)(T:Txt mg)(c:Cls K C)(nO:bV K C "order"):aw P w K mg base CX0 1 f fd ["self"] (gz C):=by
 refine F.ok su (fun vs H Q E h=>?_) (fun cdv A outer s H vs Q E hr h=>?_)
 · obtain⟨_,_,_,rfl,_⟩:=h
   rfl
 · obtain⟨x,ss,bs,rfl,⟨dx,t,d,so,h1,h2,h3,h4,h5⟩,B,q⟩:=h
   refine⟨_,ag (ar (aZ dX (by rfl) T.list (by decide +kernel) (aa (cb (pv 0) rfl) ad))),?_⟩
   walk_at "dm"
   exact⟨C,dx,_,h1,c,nO,_,gb,t,rfl,_,.inr (SqT.of h2),fun l hl=>q l so hl h3 h4⟩
def kY (C:Addr):Sp:=fun vs H Q _=>∃ (x:Addr)(ss:List Str)(bs:List (Str×List Str)),vs=[.ref x]∧bg H C x ss bs∧aO ss bs∧∀ l ns,H l=none→ns.Perm (bs.map (·.1))→PyProof.Rows.sortedS ns=true→Q (.ref l) (upd H l (.lst (ns.map V.str)))
theorem vw:au ["self"] ["self"] (ae gF):=⟨rfl,rfl,rfl,by decide +kernel,rfl,by decide +kernel,by decide +kernel⟩
theorem sw {C f:Addr}{fd:FuncData}(F:Fun K "baths" "Book.baths" gF f fd)(T:Txt mg)(c:Cls K C)(nT:bV K C "tables"):aw P w K mg base CX0 1 f fd ["self"] (kY C):=by
 refine F.ok vw (fun vs H Q E h=>?_) (fun cdv A outer s H vs Q E hr h=>?_)
 · obtain⟨_,_,_,rfl,_⟩:=h
   rfl
 · obtain⟨x,ss,bs,rfl,⟨dx,t,d,so,h1,h2,h3,h4,ds,h5,h6,h7⟩,B,q⟩:=h
   have hb8:=B.b8
   refine⟨_,ag (ar (al (fV rfl) (by rfl) T.sorted (by decide +kernel) (aa (cb (pv 0) rfl) ad))),?_⟩
   walk_at "dm"
   refine⟨C,dx,_,h1,c,nT,_,dt,d,rfl,bs.map (·.1),_,h5,lO (by rw[List.length_map,List.length_map,h6]),by rw[List.length_map];omega,fun l ns hl hp hs=>q l ns hl hp hs⟩
def ou (C:Addr):Sp:=fun vs H Q _=>∃ (x:Addr)(ss:List Str)(bs:List (Str×List Str))(b:Str×List Str),vs=[.ref x,.str b.1]∧bg H C x ss bs∧aO ss bs∧b∈bs ∧
 ∀ l so,H l=none→so.Perm ss→PyProof.Rows.sortedS so=true→Q (.ref l) (upd H l (.lst ((so.map (lkV ss b)).map V.str)))
theorem uY:au ["self", "bath"] ["self", "bath"] (ae fj):=⟨rfl,rfl,rfl,by decide +kernel,rfl,by decide +kernel,by decide +kernel⟩
theorem tz {C f fC:Addr}{fd fdC:FuncData}(F:Fun K "table" "Book.table" fj f fd)(c:Cls K C)(nO:bV K C "order")(nT:bV K C "tables")
   (GC:aw P w K mg base CX0 1 fC fdC ["self", "bath"] (jY C))(hmC:bZ K C "check_bath" fC)(bC:az K fdC ["self", "bath"] []):aw P w K mg base CX0 2 f fd ["self", "bath"] (ou C):=by
 refine F.ok uY (fun vs H Q E h=>?_) (fun cdv A outer s H vs Q E hr h=>?_)
 · obtain⟨_,_,_,_,rfl,_⟩:=h
   rfl
 · obtain⟨x,ss,bs,b,rfl,hbk,B,hb,q⟩:=h
   have hu:(cr CX0 P w K mg base ["self", "bath"] "Book.table" (ae fj) f cdv A outer s H E).A.units+1 < cLine:=by
     have:=hr.units
     exact Nat.lt_of_le_of_lt (Nat.add_le_add_left (by decide) _) this
   refine⟨_,am (aU (br (pv 0) c hmC GC hr bC .nil aH (aa (pv 1) ad)))
     (ag (ar (cM (N':=["shade", "self", "bath"]) (pk:=[none,some 0,some 1]) rfl (cc.of (by rfl)) (uk (cb (pv 0) rfl)) (fun s H ex=>ao (i:=0) (by show(["shade", "self", "bath"]:List Str).Nodup;decide +kernel) rfl (Or.inl rfl))
         (fun s H ex=>ca hu (ca hu ((cb (pv 1) rfl):PE _ _ (x3 K (tw 1) "tables")) (pv 2) (fun _ _=>rfl)) (pv 0) (fun _ _=>rfl))))),?_⟩
   obtain⟨dx,t,d,so,h1,h2,h3,h4,h5⟩:=hbk
   have hs:=aP
   walk_at "dm"
   refine⟨dx,_,h1,bU (by decide +kernel) (by decide +kernel),x,ss,bs,b,rfl,⟨dx,t,d,so,h1,h2,h3,h4,h5⟩,B,hb,C,dx,_,h1,c,nO,_,gb,t,rfl,⟨_,SqT.of h2⟩,fun D hD=>?_⟩
   have hsl:so.length=ss.length:=h3.length_eq
   have hs12:=B.s12
   refine cz (j9 (SqT.of h2)) (by rw[List.length_map];omega) hD (fun σ=>∃ o,σ=[o,some (.ref x),some (.str b.1)]) (fun k=>V.str (lkV ss b (so.getD k ⟨#[]⟩))) ⟨none,rfl⟩ ?_ ?_
   · rintro k y σ' H3 hk hy ⟨o,rfl⟩ hS3 R hR
     rw[List.getElem?_map] at hy
     obtain⟨z,hz,rfl⟩:=Option.map_eq_some_iff.mp hy
     have hzs:z∈ss:=h3.mem_iff.mp (List.mem_of_getElem? hz)
     obtain⟨r,hg,hr⟩:=gJ.get B (af.tabs hS3 h5) hb
     walk_at "dm"
     refine⟨C,dx,_,hS3 _ _ h1,c,nT,_,dt,d,rfl,_,hg,r,rfl,V.str (lkV ss b z),.inl ⟨_,Sum.inr z,hr,rfl,(pO B.snd (B.bln b hb) hzs).symm⟩,?_⟩
     have e:so.getD k ⟨#[]⟩=z:=by rw[List.getD_eq_getElem?_getD,hz];rfl
     have:=hR [some (V.str z),some (V.ref x),some (V.str b.1)] ⟨_,rfl⟩
     rw[e] at this
     exact this
   · have e:(List.range (so.map V.str).length).map (fun k=>V.str (lkV ss b (so.getD k ⟨#[]⟩)))=(so.map (lkV ss b)).map V.str:=by
       rw[List.map_map]
       refine ef _ so _ _ (by rw[List.length_map]) fun k y hy=>?_
       rw[List.getD_eq_getElem?_getD,hy]
       rfl
     rw[e]
     exact q D so hD h3 h4
end

section
variable {P:Program}{w:World}{K:PySem.W.Frag}{mg:Str→Option Value}{base:Heap}
def lU (C:Addr):Sp:=fun vs H Q _=>∃ (x:Addr)(ss:List Str)(bs:List (Str×List Str)) (z:Str),vs=[.ref x,.str z]∧bg H C x ss bs∧z∈ss∧Q .non H
theorem mw:au ["self", "shade"] ["self", "shade"] (ae eC):=⟨rfl,rfl,rfl,by decide +kernel,rfl,by decide +kernel,by decide +kernel⟩
theorem pQ {C f:Addr}{fd:FuncData}(F:Fun K "check_shade" "Book.check_shade" eC f fd)(c:Cls K C)(nO:bV K C "order"):aw P w K mg base CX0 1 f fd ["self", "shade"] (lU C):=by
 refine F.ok mw (fun vs H Q E h=>?_) (fun cdv A outer s H vs Q E hr h=>?_)
 · obtain⟨_,_,_,_,rfl,_⟩:=h
   rfl
 · obtain⟨x,ss,bs,z,rfl,⟨dx,t,d,so,h1,h2,h3,h4,h5⟩,hz,q⟩:=h
   refine⟨_,ag (aR (aF dW (pv 1) (cb (pv 0) rfl) (by with_unfolding_all rfl)) ck aB),?_⟩
   have hzo:z∈so:=h3.mem_iff.mpr hz
   walk_at "dm"
   refine⟨C,dx,_,h1,c,nO,_,gb,t,rfl,_,.inr (SqT.of h2),rfl,ee so,?_⟩
   rw[fF,decide_eq_true hzo]
   exact q
def mZ (C:Addr):Sp:=fun vs H Q _=>∃ (x:Addr)(ss:List Str)(bs:List (Str×List Str))(b:Str×List Str) (z:Str),vs=[.ref x,.str b.1,.str z]∧bg H C x ss bs∧aO ss bs∧b∈bs∧z∈ss∧Q (.str (lkV ss b z)) H
theorem yc:au ["self", "bath", "shade"] ["self", "bath", "shade"] (ae kH):=⟨rfl,rfl,rfl,by decide +kernel,rfl,by decide +kernel,by decide +kernel⟩
theorem wG {C f fC fS:Addr}{fd fdC fdS:FuncData}(F:Fun K "out" "Book.out" kH f fd)(c:Cls K C)(nT:bV K C "tables")
   (GC:aw P w K mg base CX0 1 fC fdC ["self", "bath"] (jY C))(hmC:bZ K C "check_bath" fC)(bC:az K fdC ["self", "bath"] [])
   (GS:aw P w K mg base CX0 1 fS fdS ["self", "shade"] (lU C))(hmS:bZ K C "check_shade" fS)(bS:az K fdS ["self", "shade"] []):aw P w K mg base CX0 2 f fd ["self", "bath", "shade"] (mZ C):=by
 refine F.ok yc (fun vs H Q E h=>?_) (fun cdv A outer s H vs Q E hr h=>?_)
 · obtain⟨_,_,_,_,_,rfl,_⟩:=h
   rfl
 · obtain⟨x,ss,bs,b,z,rfl,hbk,B,hb,hz,q⟩:=h
   have hu:(cr CX0 P w K mg base ["self", "bath", "shade"] "Book.out" (ae kH) f cdv A outer s H E).A.units+1 < cLine:=by
     have:=hr.units
     exact Nat.lt_of_le_of_lt (Nat.add_le_add_left (by decide) _) this
   refine⟨_,am (aU (br (pv 0) c hmC GC hr bC .nil aH (aa (pv 1) ad)))
     (am (aU (br (pv 0) c hmS GS hr bS .nil aH (aa (pv 2) ad)))
     (ag (ar (ca hu (ca hu (cb (pv 0) rfl) (pv 1) (fun _ _=>rfl)) (pv 2) (fun _ _=>rfl))))),?_⟩
   obtain⟨dx,t,d,so,h1,h2,h3,h4,h5⟩:=hbk
   obtain⟨r,hg,hr⟩:=gJ.get B h5 hb
   walk_at "dm"
   refine⟨dx,_,h1,bU (by decide +kernel) (by decide +kernel),x,ss,bs,b,rfl,⟨dx,t,d,so,h1,h2,h3,h4,h5⟩,B,hb,dx,_,h1,bU (by decide +kernel) (by decide +kernel),x,ss,bs,z,rfl,⟨dx,t,d,so,h1,h2,h3,h4,h5⟩,hz,?_⟩
   exact⟨C,dx,_,h1,c,nT,_,dt,d,rfl,_,hg,r,rfl,_,.inl ⟨_,Sum.inr z,hr,rfl,(pO B.snd (B.bln b hb) hz).symm⟩,q⟩
end

section
variable {P:Program}{w:World}{K:PySem.W.Frag}{mg:Str→Option Value}{base:Heap}
def oQ (K:PySem.W.Frag)(C:Addr):Sp:=fun vs H Q _=>∃ (l lb:Addr)(ss:List Str)(bs:List (Str×List Str)),vs=[.ref l,.ref lb]∧SqL K H l (ss.map V.str)∧jw H lb bs∧aO ss bs∧∀ x H',H x=none→af H H'→bg H' C x ss bs→Q (.ref x) H'
theorem t8:au ["_law_shades", "_law_baths"] ["_law_shades", "_law_baths"] (ae gH):=⟨rfl,rfl,rfl,by decide +kernel,rfl,by decide +kernel,by decide +kernel⟩
theorem sO {C f fI:Addr}{fd fdI:FuncData}(F:Fun K "_law_handed" "_law_handed" gH f fd)(T:Txt mg)(M:Mk K C fI)(GI:aw P w K mg base CX0 4 fI fdI ["self", "shades", "baths"] (pU K C))(bI:az K fdI ["self", "shades", "baths"] [])(mC:mg "Book"=some (.ref C)) :
   aw P w K mg base CX0 6 f fd ["_law_shades", "_law_baths"] (oQ K C):=by
 refine F.ok t8 (fun vs H Q E h=>?_) (fun cdv A outer s H vs Q E hr h=>?_)
 · obtain⟨_,_,_,_,rfl,_⟩:=h
   rfl
 · obtain⟨l,lb,ss,bs,rfl,hl,⟨ps,hlb,hpl,hB⟩,B,q⟩:=h
   refine⟨_,ag (ar (jM M GI hr rfl mC bI .nil aH (aa (aZ dX (by rfl) T.list (by decide +kernel) (aa (pv 0) ad)) (aa (cM (N':=["_law_title", "_law_outs_here"]) (pk:=[none,none]) rfl (cc.of (by rfl)) (aQ (pv 1))
       (fun s H ex=>(fK (n:=2) rfl (bc (ao (i:=0) (by show(["_law_title", "_law_outs_here"]:List Str).Nodup;decide +kernel) rfl (Or.inl rfl)) (bc (ao (i:=1) (by show(["_law_title", "_law_outs_here"]:List Str).Nodup;decide +kernel) rfl (Or.inl rfl)) dY)):PG _ _ (rM K 2 (dQ (cT 0) (dQ (cT 1) pS)))))
       (fun s H ex=>de (aa (pv 0) (aa (aZ (dX:cx _ (.type "list") (fun xs H Q=>∃ p ys,xs=[.ref p]∧(SqL K H p ys∨SqT K H p ys)∧∀ l,H l=none→Q (.ref l) (upd H l (.lst ys)))) (by rfl) T.list (by decide +kernel) (aa (pv 1) ad)) ad)))) ad)))),?_⟩
   have hs:=aP
   have hb8:=B.b8
   walk_at "dm"
   refine⟨_,.inl hl,fun l2 hl2=>?_⟩
   have Sa:af H (upd H l2 (.lst (ss.map V.str))):=af.updN hl2
   refine⟨⟨_,SqL.of (Sa _ _ hlb)⟩,fun D hD=>?_⟩
   generalize hG:upd H l2 (.lst (ss.map V.str))=G at Sa hD
   have hGl:G l2=some (.lst (ss.map V.str)):=by rw[←hG];exact ac
   refine nw (H0:=G) (ax (SqL.of (Sa _ _ hlb))) (by rw[List.length_map];omega) (fun i xs σ' H'=>(∃ o1 o2,σ'=[o1,o2])∧af G H'∧H' D=some (.lst xs)∧∃ qs:List Addr,xs=qs.map V.ref∧qs.length=i∧∀ (j:Nat) p b,qs[j]?=some p→bs[j]?=some b→l5 (hide H' D) p b)
     ⟨⟨none,none,rfl⟩,af.updN hD,ac,[],rfl,rfl,(by intro j p b h;simp at h)⟩ (fun i xs σ' H' ⟨_,h1,_,qs,h2,h3,_⟩=>⟨h1,by rw[h2,List.length_map];exact h3⟩) ?_ ?_
   · rintro i xs σ' H' x hi hx ⟨⟨o1,o2,rfl⟩,hS,hHD,qs,rfl,hql,hqB⟩ R hR
     rw[List.getElem?_map] at hx
     obtain⟨p,hp,rfl⟩:=Option.map_eq_some_iff.mp hx
     obtain⟨b,hb⟩:∃ b,bs[i]?=some b:=⟨_,List.getElem?_eq_getElem (by rw[List.length_map] at hi;omega)⟩
     obtain⟨lo,ht,hlo⟩:=hB i p b hp hb
     refine iP (hS _ _ (Sa _ _ ht)) ?_
     walk_at "dm"
     refine⟨_,.inl (SqL.of (hS _ _ (Sa _ _ hlo))),fun l3 hl3=>⟨by omega,fun t ht3=>?_⟩⟩
     have S3:af H' (upd H' l3 (.lst (b.2.map V.str))):=af.updN hl3
     have ht':H' t=none:=S3.free ht3
     have S4:=S3.step (o:=.tup [.str b.1,.ref l3]) ht'
     have hl3D:l3≠D:=fun e=>by rw[e,hHD] at hl3;cases hl3
     have htD:t≠D:=fun e=>by rw[e,hHD] at ht';cases ht'
     have hl3t:l3≠t:=fun e=>by rw[←e,ac] at ht3;cases ht3
     refine hR _ _ _ (S4 _ _ hHD) ⟨⟨_,_,rfl⟩,(hS.trans S4).step hD,ac,qs++[t],by rw[List.map_append];rfl,by rw[List.length_append,hql];rfl,fun j p2 b2 hp2 hb2=>?_⟩
     rw[dF]
     by_cases hj:j < i
     · rw[List.getElem?_append_left (by omega)] at hp2
       exact af.bthAt (af.hide S4) (hqB j p2 b2 hp2 hb2)
     · have hj2:j=i:=by
         have:=(List.getElem?_eq_some_iff.mp hp2).1
         rw[List.length_append,hql] at this
         simp only[List.length_singleton] at this
         omega
       subst hj2
       rw[List.getElem?_append_right (by omega),hql,Nat.sub_self] at hp2
       cases hp2
       rw[hb] at hb2
       cases hb2
       refine⟨l3,?_,?_⟩
       · rw[bq htD];exact ac
       · rw[bq hl3D,ai hl3t];exact ac
   · rintro xs σ' H' ⟨_,hS,hHD,qs,rfl,hql,hqB⟩ x dx hx hdx hne
     rw[List.length_map,hpl] at hql
     have S5:af H' (upd (upd H' dx (.own x)) x (.ins C dx [])):=(af.updN hdx).step hx
     have S6:af H' (hide (upd (upd H' dx (.own x)) x (.ins C dx [])) x):=fun y o e=>by
       rw[bq (ak e hx)];exact S5 y o e
     refine⟨x,dx,l2,D,ss,bs,rfl,ac,SqL.of (S5 _ _ (hS _ _ hGl)),⟨qs,S5 _ _ hHD,hql,fun j p b hp hb=>af.bthAt (cu.trans S5) (hqB j p b hp hb)⟩,B,fun H2 S2 hbk=>⟨rfl,?_⟩⟩
     exact q x H2 ((Sa.trans hS).free hx) (((Sa.trans hS).trans S6).trans S2) hbk
end

section
variable {P:Program}{w:World}{K:PySem.W.Frag}{mg:Str→Option Value}{base:Heap}
def Fz (H H':Hp):Prop:=(∀ b o,H b=some o→(∀ kvs,o≠.dK kvs)→H' b=some o)∧(∀ b o,Rd H b o→Rd H' b o)
theorem af.fz {H H':Hp}(S:af H H'):Fz H H':=⟨fun b o h _=>S b o h,fun b o h=>af.rd S h⟩
theorem Fz.refl (H:Hp):Fz H H:=⟨fun _ _ h _=>h,fun _ _ h=>h⟩
theorem Fz.trans {H H1 H2:Hp}(a:Fz H H1)(b:Fz H1 H2):Fz H H2:=⟨fun c o h n=>b.1 c o (a.1 c o h n) n,fun c o h=>b.2 c o (a.2 c o h)⟩
theorem sJ {H:Hp}{d:Addr}{kvs:List (Key×V)}{u:Obj}(h:H d=some (.dK kvs)):Fz H (upd H d (.frz u (.dK kvs))):=by
 refine⟨fun b o hb n=>?_,fun b o hb=>?_⟩
 · have hne:b≠d:=fun e=>n kvs (by rw[e,h] at hb;cases hb;rfl)
   rw[ai hne];exact hb
 · by_cases e:b=d
   · subst e
     rcases hb with hb | ⟨v,hb⟩
     · rw[h] at hb
       cases hb
       exact .inr ⟨u,ac⟩
     · rw[h] at hb;cases hb
   · rcases hb with hb | ⟨v,hb⟩
     · exact .inl (by rw[ai e];exact hb)
     · exact .inr ⟨v,by rw[ai e];exact hb⟩
theorem Fz.tabs {H H':Hp}{d:Addr}{ss:List Str}{bs:List (Str×List Str)}(S:Fz H H')(h:gJ H d ss bs):gJ H' d ss bs:=by
 obtain⟨ds,h1,h2,h3⟩:=h
 exact⟨ds,S.2 _ _ h1,h2,fun i r b hr hb=>S.2 _ _ (h3 i r b hr hb)⟩
theorem Fz.book {H H':Hp}{C x:Addr}{ss:List Str}{bs:List (Str×List Str)}(S:Fz H H')(h:bg H C x ss bs):bg H' C x ss bs:=by
 obtain⟨dx,t,d,so,h1,h2,h3,h4,h5⟩:=h
 exact⟨dx,t,d,so,S.1 _ _ h1 (fun _ e=>by cases e),S.1 _ _ h2 (fun _ e=>by cases e),h3,h4,Fz.tabs S h5⟩
theorem Fz.seq {H H':Hp}{a:Addr}{xs:List V}(S:Fz H H')(h:SqL K H a xs):SqL K H' a xs:=by
 rcases h with h | h
 · exact .inl (S.2 _ _ h)
 · exact .inr h
def nA (H:Hp)(d:Addr)(ss ns:List Str)(lk:Str→Str→Str):Prop :=
 ∃ kvs:List (Key×V),Rd H d (.dK kvs)∧kvs.map (·.1)=ns.map Sum.inr∧∀ n∈ns,∃ r kv,bP kvs (Sum.inr n)=some (.ref r)∧Rd H r (.dK kv)∧∀ z∈ss,bP kv (Sum.inr z)=some (.str (lk n z))
theorem Fz.tabG {H H':Hp}{d:Addr}{ss ns:List Str}{lk:Str→Str→Str}(S:Fz H H')(h:nA H d ss ns lk):nA H' d ss ns lk:=by
 obtain⟨kvs,h1,h2,h3⟩:=h
 refine⟨kvs,S.2 _ _ h1,h2,fun n hn=>?_⟩
 obtain⟨r,kv,e1,e2,e3⟩:=h3 n hn
 exact⟨r,kv,e1,S.2 _ _ e2,e3⟩
theorem nA.get {H:Hp}{d:Addr}{ss ns:List Str}{lk:Str→Str→Str}(h:nA H d ss ns lk){n z:Str}(hn:n∈ns)(hz:z∈ss):∃ r,eJ H d (.str n) (some (.ref r))∧eJ H r (.str z) (some (.str (lk n z))):=by
 obtain⟨kvs,h1,h2,h3⟩:=h
 obtain⟨r,kv,e1,e2,e3⟩:=h3 n hn
 exact⟨r,.inl ⟨_,Sum.inr n,h1,rfl,e1.symm⟩,.inl ⟨_,Sum.inr z,e2,rfl,(e3 z hz).symm⟩⟩
def lkB (ss:List Str)(bs:List (Str×List Str)) (n z:Str):Str:=match bs.find? (fun b=>decide (b.1=n)) with
 | some b=>lkV ss b z
 | none=>⟨#[]⟩
theorem dL {ss:List Str}:∀ {bs:List (Str×List Str)}{b:Str×List Str} (z:Str),(bs.map (·.1)).Nodup→b∈bs→lkB ss bs b.1 z=lkV ss b z
 | [],_,_,_,h=>by cases h
 | a::bs,b,z,hd,h=>by
   unfold lkB
   by_cases e:a.1=b.1
   · rw[List.find?_cons_of_pos (by simp[e])]
     rcases List.mem_cons.mp h with rfl | hm
     · rfl
     · exact absurd (List.mem_map_of_mem (f:=(·.1)) hm) (by rw[List.map_cons,List.nodup_cons] at hd;rw[←e];exact hd.1)
   · rw[List.find?_cons_of_neg (by simp[e])]
     have hm:b∈bs:=by
       rcases List.mem_cons.mp h with rfl | hm
       · exact absurd rfl e
       · exact hm
     rw[List.map_cons,List.nodup_cons] at hd
     exact dL z hd.2 hm
theorem gJ.toG {H:Hp}{d:Addr}{ss:List Str}{bs:List (Str×List Str)}(B:aO ss bs)(h:gJ H d ss bs):nA H d ss (bs.map (·.1)) (lkB ss bs):=by
 obtain⟨ds,h1,h2,h3⟩:=h
 refine⟨_,h1,lO (by rw[List.length_map,List.length_map,h2]),fun n hn=>?_⟩
 obtain⟨b,hb,rfl⟩:=List.mem_map.mp hn
 obtain⟨i,hi⟩:=List.getElem?_of_mem hb
 have hil:i < ds.length:=by rw[h2];exact(List.getElem?_eq_some_iff.mp hi).1
 have hr:=List.getElem?_eq_getElem hil
 refine⟨ds[i],_,dH _ _ i _ _ B.bnd (by rw[List.getElem?_map,hi];rfl) (by rw[List.getElem?_map,hr];rfl),h3 i _ b hr hi,fun z hz=>?_⟩
 rw[dL z B.bnd hb]
 exact pO B.snd (B.bln b hb) hz
theorem vF {H1:Hp}{d:Addr}{kvs:List (Key×V)}{W:Obj→Hp→Prop}(h:Rd H1 d (.dK kvs))(k:∀ o HF,HF d=some (.frz o (.dK kvs))→Fz H1 HF→W o HF) :
   (H1 d=some (.dK kvs)∧∀ o,W o (upd H1 d (.frz o (.dK kvs))))∨∃ o,H1 d=some (.frz o (.dK kvs))∧W o H1:=by
 rcases h with h | ⟨o,h⟩
 · exact .inl ⟨h,fun o=>k o _ ac (sJ h)⟩
 · exact .inr ⟨o,h,k o _ h (Fz.refl _)⟩
end

section
variable {P:Program}{w:World}{K:PySem.W.Frag}{mg:Str→Option Value}{base:Heap}
def bX (lk:Str→Str→Str)(row:List Str) (z:Str):Str:=row.foldl (fun z n=>lk n z) z
def jo (lk:Str→Str→Str)(row:List Str) (z:Str) (m:Nat):List Str:=(List.range (m+1)).map fun i=>bX lk (row.take i) z
theorem gD {lk:Str→Str→Str}{row:List Str}{z n:Str}{i:Nat}(h:row[i]?=some n):bX lk (row.take (i+1)) z=lk n (bX lk (row.take i) z):=by
 unfold bX
 rw[bx h,List.foldl_append]
 rfl
theorem k8 {lk:Str→Str→Str}{row:List Str}{z:Str}{i:Nat}:jo lk row z (i+1)=jo lk row z i++[bX lk (row.take (i+1)) z]:=by
 unfold jo
 rw[List.range_succ (n:=i+1),List.map_append]
 rfl
theorem lg {lk:Str→Str→Str}{row:List Str}{z:Str}:∀ i,atI ((jo lk row z i).map V.str) (-1)=some (V.str (bX lk (row.take i) z))
 | 0=>rfl
 | i+1=>by
   rw[k8,List.map_append]
   exact iB _ _
theorem sF {lk:Str→Str→Str}{row:List Str}{z:Str}{m:Nat}:(jo lk row z m).length=m+1:=by unfold jo;rw[List.length_map,List.length_range]
theorem gh {lk:Str→Str→Str}{ss ns:List Str}(hc:∀ n∈ns,∀ z∈ss,lk n z∈ss):∀ (row:List Str) (z:Str),(∀ n∈row,n∈ns)→z∈ss→bX lk row z∈ss
 | [],z,_,hz=>hz
 | n::r,z,hr,hz=>gh hc r (lk n z) (fun m hm=>hr m (List.mem_cons_of_mem _ hm)) (hc n (hr n List.mem_cons_self) z hz)
theorem ul {ss:List Str}{bs:List (Str×List Str)}{b:Str×List Str}{z:Str}(B:aO ss bs)(hb:b∈bs)(hz:z∈ss):lkV ss b z∈ss:=by
 obtain⟨i,hi⟩:=List.getElem?_of_mem hz
 have hl:=B.bln b hb
 have hil:i < b.2.length:=by rw[hl];exact(List.getElem?_eq_some_iff.mp hi).1
 have e:bP (kF ss b) (Sum.inr z)=some (V.str b.2[i]):=dH ss (b.2.map V.str) i z _ B.snd hi (by rw[List.getElem?_map,List.getElem?_eq_getElem hil];rfl)
 have e2:lkV ss b z=b.2[i]:=by unfold lkV;rw[e]
 rw[e2]
 exact B.bin b hb _ (List.getElem_mem hil)
theorem dh {ss:List Str}{bs:List (Str×List Str)}(B:aO ss bs):∀ n∈bs.map (·.1),∀ z∈ss,lkB ss bs n z∈ss:=fun n hn z hz=>by
 obtain⟨b,hb,rfl⟩:=List.mem_map.mp hn
 rw[dL z B.bnd hb]
 exact ul B hb hz
def vc (K:PySem.W.Frag)(C:Addr):Sp:=fun vs H Q _=>∃ (x l:Addr)(ss:List Str)(bs:List (Str×List Str))(row:List Str) (z:Str),vs=[.ref x,.ref l,.str z]∧bg H C x ss bs∧aO ss bs∧SqL K H l (row.map V.str)∧(∀ n∈row,n∈bs.map (·.1))∧row.length≤70∧z∈ss ∧
 ∀ p H',H p=none→af H H'→H' p=some (.lst ((jo (lkB ss bs) row z row.length).map V.str))→Q (.ref p) H'
theorem qh:au ["book", "row", "shade", "shades", "bath"] ["book", "row", "shade"] (ae mf):=⟨rfl,rfl,rfl,by decide +kernel,rfl,by decide +kernel,by decide +kernel⟩
theorem wf {C f fO:Addr}{fd fdO:FuncData}(F:Fun K "walk" "walk" mf f fd)(c:Cls K C)
   (GO:aw P w K mg base CX0 2 fO fdO ["self", "bath", "shade"] (mZ C))(hmO:bZ K C "out" fO)(bO:az K fdO ["self", "bath", "shade"] []):aw P w K mg base CX0 3 f fd ["book", "row", "shade"] (vc K C):=by
 refine F.ok qh (fun vs H Q E h=>?_) (fun cdv A outer s H vs Q E hr h=>?_)
 · obtain⟨_,_,_,_,_,_,rfl,_⟩:=h
   rfl
 · obtain⟨x,l,ss,bs,row,z,rfl,hbk,B,hl,hrow,hlen,hz,q⟩:=h
   refine⟨_,am (ay (i:=3) qh.nd rfl (Or.inl rfl) (bp (aa (pv 2) ad)))
     (am (bj PassesOwn.never rfl (aQ (pv 1)) (ao (i:=4) qh.nd rfl (Or.inl rfl))
       (ag (aU (cX PySem.F.plainAttrs_list PySem.F.slot_list_append PySem.F.type_list_append cj (pv 3) (aa (br (pv 0) c hmO GO hr bO .nil aH (aa (pv 4) (aa (aK aG (pv 3) (k6 g8 ah) (fun _ _=>rfl)) ad))) ad)))))
     (ag (ar (pv 3)))),?_⟩
   have hs:=aP
   walk_at "dm"
   refine⟨by omega,fun p hp=>?_⟩
   have S0:af H (upd H p (.lst [V.str z])):=af.updN hp
   refine⟨⟨_,S0.seq hl⟩,?_⟩
   refine a9 (H0:=H) (ax hl) (fun i σ' H'=>∃ o,σ'=[some (.ref x),some (.ref l),some (.str z),some (.ref p),o]∧af H H'∧H' p=some (.lst ((jo (lkB ss bs) row z i).map V.str)))
     ⟨none,rfl,S0,ac⟩ (fun _ _ _ _ ⟨_,_,h,_⟩=>h) ?_ ?_
   · rintro i y σ H' hi hy ⟨o,rfl,hS,hH⟩
     rw[List.getElem?_map] at hy
     obtain⟨n,hn,rfl⟩:=Option.map_eq_some_iff.mp hy
     rw[List.length_map] at hi
     obtain⟨b,hb,rfl⟩:=List.mem_map.mp (hrow n (List.mem_of_getElem? hn))
     have hbk':=af.book hS hbk
     have hbk0:=hbk'
     obtain⟨dx,t,d,so,h1,h2,h3,h4,h5⟩:=hbk'
     have hm:bX (lkB ss bs) (row.take i) z∈ss:=gh (dh B) _ z (fun n hn=>hrow n (List.mem_of_mem_take hn)) hz
     walk_at "dm"
     refine⟨.inl ⟨rfl,_,SqL.of hH⟩,dx,_,h1,bU (by decide +kernel) (by decide +kernel),_,SqL.of hH,_,lg i,x,ss,bs,b,_,rfl,hbk0,B,hb,hm,_,hH,?_,hS.step hp,?_⟩
     · rw[List.length_map,sF];omega
     · rw[ac,k8,List.map_append,gD hn,dL _ B.bnd hb]
       rfl
   · rintro σ H' ⟨o,rfl,hS,hH⟩
     rw[List.length_map] at hH
     walk_at "dm"
     exact q p H' hp hS hH
end

section
variable {P:Program}{w:World}{K:PySem.W.Frag}{mg:Str→Option Value}{base:Heap}
def pH:Sp:=fun vs H Q _=>∃ (t:Addr) (x y:V),vs=[.ref t]∧H t=some (.tup [x,y])∧Q (.bl true) H
theorem xw:au ["_law_found"] ["_law_found"] (ae me):=⟨rfl,rfl,rfl,by decide +kernel,rfl,by decide +kernel,by decide +kernel⟩
theorem wK {f:Addr}{fd:FuncData}(F:Fun K "_law_pair" "_law_pair" me f fd)
   (T:Txt mg)  :
   aw P w K mg base CX0 1 f fd ["_law_found"] pH:=by
 refine F.ok xw (fun vs H Q E h=>?_) (fun cdv A outer s H vs Q E hr h=>?_)
 · obtain⟨_,_,_,rfl,_⟩:=h
   rfl
 · obtain⟨t,x,y,rfl,ht,q⟩:=h
   refine⟨_,(ag (ar (pJ (al cJ (by rfl) T.isi (by decide +kernel) (aa (pv 0) (aa (dD (v:=.ty "tuple") rfl T.tuple (by decide +kernel) rfl) ad))) (pN (dA dn (al aE (by rfl) T.len PySem.boot_len (aa (pv 0) ad)) ah (aM _)))))),?_⟩
   walk_at "dm"
   refine⟨_,e6.tup ht,true,rfl,aV (fun _=>⟨_,.inr (SqT.of ht),rfl,?_⟩) (fun h=>absurd rfl h)⟩
   exact q
end

section
variable {P:Program}{w:World}{K:PySem.W.Frag}{mg:Str→Option Value}{base:Heap}
def lz (K:PySem.W.Frag):Sp:=fun vs H Q _=>∃ (l d:Addr)(xs ns:List Str)(kvs:List (Key×V)) (m:Int),vs=[.ref l,.ref d,.int m]∧H l=some (.lst (xs.map V.str))∧Rd H d (.dK kvs)∧kvs.map (·.1)=ns.map Sum.inr∧(∀ x∈xs,x∈ns)∧((xs.length:Nat):Int)≤m∧Q (.bl true) H
theorem lH:au ["_law_found", "_law_known", "_law_most", "_law_one"] ["_law_found", "_law_known", "_law_most"] (ae d5):=⟨rfl,rfl,rfl,by decide +kernel,rfl,by decide +kernel,by decide +kernel⟩
theorem pR {f:Addr}{fd:FuncData}(F:Fun K "_law_list_of_names" "_law_list_of_names" d5 f fd)
   (T:Txt mg)  :
   aw P w K mg base CX0 1 f fd ["_law_found", "_law_known", "_law_most"] (lz K):=by
 refine F.ok lH (fun vs H Q E h=>?_) (fun cdv A outer s H vs Q E hr h=>?_)
 · obtain⟨_,_,_,_,_,_,rfl,_⟩:=h
   rfl
 · obtain⟨l,d,xs,ns,kvs,m,rfl,hl,hd,hks,hin,hm,q⟩:=h
   have hu:(cr CX0 P w K mg base ["_law_found", "_law_known", "_law_most", "_law_one"] "_law_list_of_names" (ae d5) f cdv A outer s H E).A.units+1 < cLine:=by
     have:=hr.units
     exact Nat.lt_of_le_of_lt (Nat.add_le_add_left (by decide) _) this
   refine⟨_,(aj (aR (PW.pt (fc (cE (cw (al cJ (by rfl) T.isi (by decide +kernel) (aa (pv 0) (aa (dD (v:=.ty "list") rfl T.list (by decide +kernel) rfl) ad))))) (eu (aF iE (al aE (by rfl) T.len PySem.boot_len (aa (pv 0) ad)) (pv 2) (aM _))))) (ag (ar cm)) aB)
     (aj (bj PassesOwn.never rfl (aQ (pv 0)) (ao (i:=3) lH.nd rfl (Or.inl rfl)) (ag (aR (PW.pt (fc (cE (cw (al cJ (by rfl) T.isi (by decide +kernel) (aa (pv 3) (aa (dD (v:=.ty "str") rfl T.str (by decide +kernel) rfl) ad))))) (eu (e7 (dz hu (pv 3) (pv 1)))))) (ag (ar cm)) aB)))
     (ag (ar cm)))),?_⟩
   have hs:=aP
   have hkl:kvs.length=ns.length:=by
     have:=congrArg List.length hks
     rwa [List.length_map,List.length_map] at this
   refine aW (fun σ' H'=>σ'=[some (.ref l),some (.ref d),some (.int m),none]∧H'=H) (fun R hR=>?_) ?_
   · walk_at "dm"
     refine⟨_,e6.lst hl,true,rfl,aV (fun h=>by cases h) (fun _=>⟨_,.inl (SqL.of hl),?_⟩)⟩
     rw[List.length_map]
     exact aV (fun h=>absurd h (by omega)) (fun _=>hR _ _ ⟨rfl,rfl⟩)
   rintro σ1 H1 ⟨rfl,rfl⟩
   refine aW (fun σ' H'=>H'=H1) (fun R hR=>?_) ?_
   · walk_at "dm"
     refine⟨⟨_,SqL.of hl⟩,?_⟩
     refine bi (H0:=H1) (ax (SqL.of hl)) (fun i σ' H'=>∃ (o3:Option V),σ'=[some (.ref l),some (.ref d),some (.int m),o3]∧H'=H1) ⟨none,rfl,rfl⟩ (fun _ _ _ _ ⟨_,_,h⟩=>by rw[h];exact af.refl _) ?_ (fun σ H' ⟨_,_,h⟩=>hR _ _ h)
     rintro i x σ H' hi hx ⟨o3,rfl,rfl⟩ R2 hR2
     rw[List.getElem?_map] at hx
     obtain⟨z,hz,rfl⟩:=Option.map_eq_some_iff.mp hx
     have hzn:=hin z (List.mem_of_getElem? hz)
     obtain⟨v,hv⟩:∃ v,bP kvs (Sum.inr z)=some v:=by
       have hm:Sum.inr z∈kvs.map (·.1):=by rw[hks];exact List.mem_map_of_mem hzn
       cases hv:bP kvs (Sum.inr z) with
       | some v=>exact⟨v,rfl⟩
       | none =>
         unfold bP at hv
         rw[Option.map_eq_none_iff,List.find?_eq_none] at hv
         obtain⟨kv,h1,h2⟩:=List.mem_map.mp hm
         exact absurd (decide_eq_true h2) (hv kv h1)
     walk_at "dm"
     exact⟨_,e6.str _,true,rfl,aV (fun h=>by cases h) (fun _=>⟨some v,.inl ⟨_,Sum.inr z,hd,rfl,hv.symm⟩,aV (fun h=>by cases h) (fun _=>hR2 _ _ ⟨_,rfl,rfl⟩)⟩)⟩
   rintro σ2 H2 rfl
   walk_at "dm"
   exact q
def l6 (K:PySem.W.Frag):Sp:=fun vs H Q _=>∃ (l d:Addr)(xs ns:List Str) (m:Int),vs=[.ref l,.ref d,.int m]∧H l=some (.lst (xs.map V.str))∧SqL K H d (ns.map V.str)∧(∀ x∈xs,x∈ns)∧((xs.length:Nat):Int)≤m∧Q (.bl true) H
theorem mE:au ["_law_found", "_law_known", "_law_most", "_law_one"] ["_law_found", "_law_known", "_law_most"] (ae d5):=⟨rfl,rfl,rfl,by decide +kernel,rfl,by decide +kernel,by decide +kernel⟩
theorem qo {f:Addr}{fd:FuncData}(F:Fun K "_law_list_of_names" "_law_list_of_names" d5 f fd)
   (T:Txt mg)  :
   aw P w K mg base CX0 1 f fd ["_law_found", "_law_known", "_law_most"] (l6 K):=by
 refine F.ok mE (fun vs H Q E h=>?_) (fun cdv A outer s H vs Q E hr h=>?_)
 · obtain⟨_,_,_,_,_,rfl,_⟩:=h
   rfl
 · obtain⟨l,d,xs,ns,m,rfl,hl,hd,hin,hm,q⟩:=h
   refine⟨_,(aj (aR (PW.pt (fc (cE (cw (al cJ (by rfl) T.isi (by decide +kernel) (aa (pv 0) (aa (dD (v:=.ty "list") rfl T.list (by decide +kernel) rfl) ad))))) (eu (aF iE (al aE (by rfl) T.len PySem.boot_len (aa (pv 0) ad)) (pv 2) (aM _))))) (ag (ar cm)) aB)
     (aj (bj PassesOwn.never rfl (aQ (pv 0)) (ao (i:=3) mE.nd rfl (Or.inl rfl)) (ag (aR (PW.pt (fc (cE (cw (al cJ (by rfl) T.isi (by decide +kernel) (aa (pv 3) (aa (dD (v:=.ty "str") rfl T.str (by decide +kernel) rfl) ad))))) (eu (aF dW (pv 3) (pv 1) (by with_unfolding_all rfl))))) (ag (ar cm)) aB)))
     (ag (ar cm)))),?_⟩
   have hs:=aP
   refine aW (fun σ' H'=>σ'=[some (.ref l),some (.ref d),some (.int m),none]∧H'=H) (fun R hR=>?_) ?_
   · walk_at "dm"
     refine⟨_,e6.lst hl,true,rfl,aV (fun h=>by cases h) (fun _=>⟨_,.inl (SqL.of hl),?_⟩)⟩
     rw[List.length_map]
     exact aV (fun h=>absurd h (by omega)) (fun _=>hR _ _ ⟨rfl,rfl⟩)
   rintro σ1 H1 ⟨rfl,rfl⟩
   refine aW (fun σ' H'=>H'=H1) (fun R hR=>?_) ?_
   · walk_at "dm"
     refine⟨⟨_,SqL.of hl⟩,?_⟩
     refine bi (H0:=H1) (ax (SqL.of hl)) (fun i σ' H'=>∃ (o3:Option V),σ'=[some (.ref l),some (.ref d),some (.int m),o3]∧H'=H1) ⟨none,rfl,rfl⟩ (fun _ _ _ _ ⟨_,_,h⟩=>by rw[h];exact af.refl _) ?_ (fun σ H' ⟨_,_,h⟩=>hR _ _ h)
     rintro i x σ H' hi hx ⟨o3,rfl,rfl⟩ R2 hR2
     rw[List.getElem?_map] at hx
     obtain⟨z,hz,rfl⟩:=Option.map_eq_some_iff.mp hx
     have hzn:=hin z (List.mem_of_getElem? hz)
     walk_at "dm"
     refine⟨_,e6.str _,true,rfl,aV (fun h=>by cases h) (fun _=>⟨_,.inl hd,rfl,ee ns,aV (fun hn=>?_) (fun _=>hR2 _ _ ⟨_,rfl,rfl⟩)⟩)⟩
     rw[fF,decide_eq_true hzn] at hn
     cases hn
   rintro σ2 H2 rfl
   walk_at "dm"
   exact q
end

section
variable {P:Program}{w:World}{K:PySem.W.Frag}{mg:Str→Option Value}{base:Heap}
def rB (K:PySem.W.Frag):Sp:=fun vs H Q _=>∃ (d l:Addr)(ss ns row:List Str)(lk:Str→Str→Str) (z:Str),vs=[.ref d,.ref l,.str z]∧nA H d ss ns lk∧(∀ n∈ns,∀ z∈ss,lk n z∈ss)∧SqL K H l (row.map V.str)∧(∀ n∈row,n∈ns)∧z∈ss∧Q (.str (bX lk row z)) H
theorem jB:au ["_law_tables_here", "_law_row_here", "_law_shade", "_law_at_here", "_law_bath"] ["_law_tables_here", "_law_row_here", "_law_shade"] (ae g6):=⟨rfl,rfl,rfl,by decide +kernel,rfl,by decide +kernel,by decide +kernel⟩
theorem uG {f:Addr}{fd:FuncData}(F:Fun K "_law_at_end" "_law_at_end" g6 f fd):aw P w K mg base CX0 1 f fd ["_law_tables_here", "_law_row_here", "_law_shade"] (rB K):=by
 refine F.ok jB (fun vs H Q E h=>?_) (fun cdv A outer s H vs Q E hr h=>?_)
 · obtain⟨_,_,_,_,_,_,_,rfl,_⟩:=h
   rfl
 · obtain⟨d,l,ss,ns,row,lk,z,rfl,hG,hc,hl,hrow,hz,q⟩:=h
   have hu:(cr CX0 P w K mg base ["_law_tables_here", "_law_row_here", "_law_shade", "_law_at_here", "_law_bath"] "_law_at_end" (ae g6) f cdv A outer s H E).A.units+1 < cLine:=by
     have:=hr.units
     exact Nat.lt_of_le_of_lt (Nat.add_le_add_left (by decide) _) this
   refine⟨_,am (ay (i:=3) jB.nd rfl (Or.inl rfl) (pv 2))
     (am (bj PassesOwn.never rfl (aQ (pv 1)) (ao (i:=4) jB.nd rfl (Or.inl rfl))
       (ag (ay (i:=3) jB.nd rfl (Or.inl rfl) (ca hu (ca hu (pv 0) (pv 4) (fun _ _=>rfl)) (pv 3) (fun _ _=>rfl)))))
     (ag (ar (pv 3)))),?_⟩
   walk_at "dm"
   refine⟨⟨_,hl⟩,?_⟩
   refine a9 (H0:=H) (ax hl) (fun i σ' H'=>∃ o,σ'=[some (.ref d),some (.ref l),some (.str z),some (.str (bX lk (row.take i) z)),o]∧H'=H) ⟨none,rfl,rfl⟩ (fun _ _ _ _ ⟨_,_,h⟩=>by rw[h];exact af.refl _) ?_ ?_
   · rintro i y σ H' hi hy ⟨o,rfl,rfl⟩
     rw[List.getElem?_map] at hy
     obtain⟨n,hn,rfl⟩:=Option.map_eq_some_iff.mp hy
     have hm:bX lk (row.take i) z∈ss:=gh hc _ z (fun n hn=>hrow n (List.mem_of_mem_take hn)) hz
     obtain⟨r,hg1,hg2⟩:=hG.get (hrow n (List.mem_of_getElem? hn)) hm
     walk_at "dm"
     refine⟨_,hg1,r,rfl,_,hg2,?_⟩
     rw[gD hn]
     exact⟨rfl,_,rfl⟩
   · rintro σ H' ⟨o,rfl,rfl⟩
     rw[List.length_map,List.take_of_length_le (Nat.le_refl _)]
     walk_at "dm"
     exact q
end

section
variable {P:Program}{w:World}{K:PySem.W.Frag}{mg:Str→Option Value}{base:Heap}
def w5 (K:PySem.W.Frag):Sp:=fun vs H Q _=>∃ (cell mixed:Int) (m:Nat)(t:Addr)(ts:List Str),vs=[.int cell,.int m,.ref t,.int mixed]∧SqL K H t (ts.map V.str)∧m≤40∧ts.length≤8∧(mixed=0∨mixed=1) ∧
 ∀ p (row:List Str) H',H p=none→af H H'→H' p=some (.lst (row.map V.str))→row.length≤40→(∀ n∈row,n∈ts)→Q (.ref p) H'
theorem wY:au ["_law_cell", "_law_size", "_law_titles", "_law_mixed", "_law_drawn_here"] ["_law_cell", "_law_size", "_law_titles", "_law_mixed"] (ae sC):=⟨rfl,rfl,rfl,by decide +kernel,rfl,by decide +kernel,by decide +kernel⟩
theorem xD {f fD:Addr}{fd fdD:FuncData}(F:Fun K "_law_row" "_law_row" sC f fd)(T:Txt mg)(TM:mg "max"=none)(GD:aw P w K mg base CX0 1 fD fdD ["_law_cell", "_law_many", "_law_bound", "_law_mixed"] jI)(kD:PySem.W.keepIn K (.ref fD)=true)(bD:az K fdD ["_law_cell", "_law_many", "_law_bound", "_law_mixed"] [])(mD:mg "_law_draws"=some (.ref fD)) :
   aw P w K mg base CX0 2 f fd ["_law_cell", "_law_size", "_law_titles", "_law_mixed"] (w5 K):=by
 refine F.ok wY (fun vs H Q E h=>?_) (fun cdv A outer s H vs Q E hr h=>?_)
 · obtain⟨_,_,_,_,_,rfl,_⟩:=h
   rfl
 · obtain⟨cell,mixed,m,t,ts,rfl,ht,hm,hts,hmix,q⟩:=h
   refine⟨_,aj (ay (i:=4) wY.nd rfl (Or.inl rfl) (aq GD hr rfl mD kD bD .nil aH (aa (pv 0) (aa (aC gf (pv 1) (al (gk rfl) (by rfl) T.min (by decide +kernel) (aa ah (aa (al aE (by rfl) T.len PySem.boot_len (aa (pv 2) ad)) ad)))) (aa (al (ml rfl) (by rfl) TM (by decide +kernel) (aa ah (aa (al aE (by rfl) T.len PySem.boot_len (aa (pv 2) ad)) ad))) (aa (pv 3) ad))))))
     (ag (ar (cM (N':=["_law_k", "_law_titles"]) (pk:=[none,some 2]) rfl (cc.of (by rfl)) (aQ (pv 4)) (fun s H ex=>ao (i:=0) (by show(["_law_k", "_law_titles"]:List Str).Nodup;decide +kernel) rfl (Or.inl rfl))
         (fun s H ex=>aK (aG:IxR _ (qu K)) (pv 1) (pv 0) (fun _ _=>rfl))))),?_⟩
   have hs:=aP
   refine cut (fun σ' H'=>∃ (l:Addr)(os:List Int),σ'=[some (.int cell),some (.int m),some (.ref t),some (.int mixed),some (.ref l)]∧af H H'∧H' l=some (.lst (os.map V.int))∧os.length≤40∧∀ y∈os,0≤y∧y < ts.length) ?_ ?_
   · walk_at "dm"
     refine⟨_,.inl ht,?_⟩
     rw[List.length_map]
     by_cases h0:ts.length=0
     · rw[h0]
       refine⟨.inr ⟨by decide,by decide⟩,_,.inl ht,cell,0,1,mixed,?_,by decide,by decide,by decide,by decide,hmix,fun l H' hl S hH=>⟨l,rfl,S,[],hH,by decide,fun y hy=>by cases hy⟩⟩
       rw[List.length_map,h0]
       simp
     · have e1:(if((ts.length:Nat):Int) < 1 then((ts.length:Nat):Int) else 1)=1:=if_neg (by omega)
       have e2:(if((ts.length:Nat):Int) > 1 then((ts.length:Nat):Int) else 1)=ts.length:=by split<;>omega
       rw[e1]
       refine⟨.inr ⟨by decide,by decide⟩,_,.inl ht,?_⟩
       rw[List.length_map,e2,Int.mul_one]
       refine⟨cell,m,ts.length,mixed,rfl,by omega,by omega,by omega,by omega,hmix,fun l H' hl S hH=>⟨l,rfl,S,_,hH,?_,iW (by omega) _⟩⟩
       rw[fh];omega
   rintro σ1 H1 ⟨l,os,rfl,S1,hl,hos,hor⟩
   walk_at "dm"
   refine⟨⟨_,SqL.of hl⟩,fun D hD=>?_⟩
   have ht1:=S1.seq ht
   refine cz (ax (SqL.of hl)) (by rw[List.length_map];omega) hD (fun σ=>∃ o,σ=[o,some (.ref t)]) (fun k=>V.str (iA ts (os.getD k 0))) ⟨none,rfl⟩ ?_ ?_
   · rintro k x σ' H3 hk hx ⟨o,rfl⟩ hS3 R hR
     rw[List.getElem?_map] at hx
     obtain⟨y,hy,rfl⟩:=Option.map_eq_some_iff.mp hx
     have hyr:=hor y (List.mem_of_getElem? hy)
     walk_at "dm"
     refine⟨_,hS3.seq ht1,_,n6 hyr.1 (by omega),?_⟩
     have e:os.getD k 0=y:=by rw[List.getD_eq_getElem?_getD,hy];rfl
     have:=hR [some (V.int y),some (V.ref t)] ⟨_,rfl⟩
     rw[e] at this
     exact this
   · have e:(List.range (os.map V.int).length).map (fun k=>V.str (iA ts (os.getD k 0)))=(os.map (iA ts)).map V.str:=by
       rw[List.map_map]
       refine ef _ os _ _ (by rw[List.length_map]) fun k x hx=>?_
       rw[List.getD_eq_getElem?_getD,hx]
       rfl
     rw[e]
     refine q D (os.map (iA ts)) _ (S1.free hD) (S1.step (S1.free hD)) ac (by rw[List.length_map];exact hos) fun n hn=>?_
     obtain⟨y,hy,rfl⟩:=List.mem_map.mp hn
     have hyr:=hor y hy
     have:=nS (ws:=ts) hyr.1 (n:=ts.length) hyr.2 (Nat.le_refl _)
     rwa [List.take_length] at this
end

section
variable {P:Program}{w:World}{K:PySem.W.Frag}{mg:Str→Option Value}{base:Heap}
def ph:Sp:=fun vs H Q _=>∃ z y:Str,vs=[.str z,.str y]∧Q (.bl (decide (z=y))) H
theorem uh:au ["_law_found", "_law_due"] ["_law_found", "_law_due"] (ae gn):=⟨rfl,rfl,rfl,by decide +kernel,rfl,by decide +kernel,by decide +kernel⟩
theorem rQ {f:Addr}{fd:FuncData}(F:Fun K "_law_text_is" "_law_text_is" gn f fd)
   (T:Txt mg)  :
   aw P w K mg base CX0 1 f fd ["_law_found", "_law_due"] ph:=by
 refine F.ok uh (fun vs H Q E h=>?_) (fun cdv A outer s H vs Q E hr h=>?_)
 · obtain⟨_,_,rfl,_⟩:=h
   rfl
 · obtain⟨z,y,rfl,q⟩:=h
   refine⟨_,(ag (ar (pJ (al cJ (by rfl) T.isi (by decide +kernel) (aa (pv 0) (aa (dD (v:=.ty "str") rfl T.str (by decide +kernel) rfl) ad))) (pN (dA dn (pv 0) (pv 1) (aM _)))))),?_⟩
   walk_at "dm"
   refine⟨_,e6.str _,true,rfl,?_⟩
   rw[if_pos rfl]
   exact⟨rfl,q⟩
end

section
variable {P:Program}{w:World}{K:PySem.W.Frag}{mg:Str→Option Value}{base:Heap}
abbrev ltN (a b:Str):Prop:=a.cps.toList < b.cps.toList
theorem gp {a:Str}:¬ltN a a:=List.lt_irrefl _
theorem tM {a b c:Str}(h:ltN a b)(k:ltN b c):ltN a c:=List.lt_trans h k
theorem iU {l:List Str}(h:PyProof.Rows.sortedS l=true)(hn:l.Nodup):l.Pairwise ltN :=
 ((d7 l h).and hn).imp fun {a b} k=>Classical.byContradiction fun c=>k.2 (f8 k.1 (dS.mpr c))
abbrev OkR (ns:List Str)(r:List Str):Prop:=∀ n∈r,n∈ns
theorem uM {lk:Str→Str→Str}{r q:List Str}{z:Str}:bX lk (r++q) z=bX lk q (bX lk r z):=by unfold bX;rw[List.foldl_append]
theorem OkR.app {ns r q:List Str}(h:OkR ns r)(k:OkR ns q):OkR ns (r++q):=fun n hn=>by
 rcases List.mem_append.mp hn with hn | hn
 · exact h n hn
 · exact k n hn
theorem jK {α:Type} [DecidableEq α]:∀ {l m:List α},l.Nodup→(∀ x∈l,x∈m)→l.length≤m.length
 | [],_,_,_=>Nat.zero_le _
 | x::l,m,hn,h=>by
   have hn':=List.nodup_cons.mp hn
   have hx:=h x List.mem_cons_self
   have ih:=jK (m:=m.erase x) hn'.2 fun y hy=>(List.mem_erase_of_ne (fun e=>hn'.1 (by rw[←e];exact hy))).mpr (h y (List.mem_cons_of_mem _ hy))
   rw[List.length_erase_of_mem hx] at ih
   have:=List.length_pos_of_mem hx
   rw[List.length_cons]
   omega
def b6:List Str→List (Str×Str)
 | []=>[]
 | x::l=>l.map (fun y=>(x,y))++b6 l
theorem sx {l:List Str}{i:Nat}{x:Str}(h:l[i]?=some x):b6 (l.drop i)=(l.drop (i+1)).map (fun y=>(x,y))++b6 (l.drop (i+1)):=by
 obtain⟨hi,rfl⟩:=List.getElem?_eq_some_iff.mp h
 rw[List.drop_eq_getElem_cons hi]
 rfl
theorem dI:∀ {l:List Str}(_:l.Pairwise ltN){a b:Str},(a,b)∈b6 l↔a∈l∧b∈l∧ltN a b
 | [],_,a,b=>by simp[b6]
 | x::l,h,a,b=>by
   have h':=List.pairwise_cons.mp h
   unfold b6
   rw[List.mem_append,dI h'.2,List.mem_map]
   constructor
   · rintro(⟨y,hy,e⟩ | ⟨h1,h2,h3⟩)
     · cases e
       exact⟨List.mem_cons_self,List.mem_cons_of_mem _ hy,h'.1 _ hy⟩
     · exact⟨List.mem_cons_of_mem _ h1,List.mem_cons_of_mem _ h2,h3⟩
   · rintro⟨h1,h2,h3⟩
     rcases List.mem_cons.mp h1 with e1 | k1
     · rcases List.mem_cons.mp h2 with e2 | k2
       · rw[e1,e2] at h3;exact absurd h3 gp
       · rw[e1];exact .inl ⟨b,k2,rfl⟩
     · rcases List.mem_cons.mp h2 with e2 | k2
       · rw[e2] at h3;exact absurd (tM h3 (h'.1 a k1)) gp
       · exact .inr ⟨k1,k2,h3⟩
theorem gT:∀ {l:List Str}(_:l.Pairwise ltN),(b6 l).Nodup
 | [],_=>List.nodup_nil
 | x::l,h=>by
   have h':=List.pairwise_cons.mp h
   unfold b6
   refine List.nodup_append.mpr ⟨?_,gT h'.2,fun a ha b hb e=>?_⟩
   · refine List.Pairwise.map _ (fun a b hab e=>?_) (h'.2.imp fun {a b} k=>(fun e=>by rw[e] at k;exact gp k:a≠b))
     cases e
     exact hab rfl
   · subst e
     obtain⟨y,hy,rfl⟩:=List.mem_map.mp ha
     have:=(dI h'.2).mp hb
     exact gp (h'.1 x this.1)
theorem nJ:∀ l:List Str,(b6 l).length*2=l.length*(l.length - 1)
 | []=>rfl
 | x::l=>by
   have ih:=nJ l
   unfold b6
   rw[List.length_append,List.length_map,Nat.add_mul,ih,List.length_cons,Nat.add_sub_cancel,Nat.add_mul]
   rcases Nat.eq_zero_or_pos l.length with h | h
   · rw[h]
   · obtain⟨k,hk⟩:∃ k,l.length=k+1:=⟨l.length - 1,by omega⟩
     rw[hk,Nat.add_sub_cancel]
     have:(k+1)*(k+1)=(k+1)*k+(k+1):=Nat.mul_succ _ _
     omega
theorem jG {l:List Str}(h:l.length≤12):(b6 l).length≤66:=by
 have h1:=nJ l
 have h2:l.length*(l.length - 1)≤12*11:=Nat.mul_le_mul h (by omega)
 omega
def f9 (x y:Str):Str×Str:=if y.cps.toList < x.cps.toList then(y,x) else(x,y)
theorem rG {x y a b:Str}(hp:[a,b].Perm [x,y])(hs:PyProof.Rows.sortedS [a,b]=true):(a,b)=f9 x y∧(a=b↔x=y):=by
 have hl:leS a b:=by have:=d7 _ hs;exact(List.pairwise_cons.mp this).1 b List.mem_cons_self
 have hl':=dS.mp hl
 have two:(a=x∧b=y)∨(a=y∧b=x):=by
   have ha:a∈[x,y]:=hp.mem_iff.mp List.mem_cons_self
   rcases List.mem_cons.mp ha with rfl | ha
   · have:=List.perm_singleton.mp ((List.perm_cons a).mp hp)
     cases this
     exact .inl ⟨rfl,rfl⟩
   · have ha:=List.mem_singleton.mp ha
     subst ha
     have:=List.perm_singleton.mp ((List.perm_cons a).mp (hp.trans (List.Perm.swap a x [])))
     cases this
     exact .inr ⟨rfl,rfl⟩
 unfold f9
 rcases two with ⟨rfl,rfl⟩ | ⟨rfl,rfl⟩
 · rw[if_neg hl']
   exact⟨rfl,Iff.rfl⟩
 · by_cases h:a.cps.toList < b.cps.toList
   · rw[if_pos h]
     exact⟨rfl,eq_comm⟩
   · rw[if_neg h]
     have e:a=b:=f8 hl (dS.mpr h)
     subst e
     exact⟨rfl,Iff.rfl⟩
theorem tR {ss:List Str}(h:ss.Pairwise ltN){x y:Str}(hx:x∈ss)(hy:y∈ss)(hne:x≠y):f9 x y∈b6 ss:=by
 unfold f9
 by_cases k:y.cps.toList < x.cps.toList
 · rw[if_pos k];exact(dI h).mpr ⟨hy,hx,k⟩
 · rw[if_neg k]
   refine(dI h).mpr ⟨hx,hy,?_⟩
   exact Classical.byContradiction fun c=>hne (f8 (dS.mpr k) (dS.mpr c))
theorem t6 {f:Str→Str}{x y:Str}(h:f (f9 x y).1=f (f9 x y).2):f x=f y:=by
 unfold f9 at h
 by_cases k:y.cps.toList < x.cps.toList
 · rw[if_pos k] at h;exact h.symm
 · rw[if_neg k] at h;exact h
abbrev cG:=List ((Str×Str)×List Str)
abbrev bw (M:cG):List (Str×Str):=M.map (·.1)
structure dP (lk:Str→Str→Str)(ns ss:List Str)(M:cG):Prop where
 nd:(bw M).Nodup
 mem:∀ p∈bw M,p∈b6 ss
 row:∀ e∈M,OkR ns e.2∧bX lk e.2 e.1.1=bX lk e.2 e.1.2
 len:∀ e∈M,e.2.length≤M.length
theorem dP.l66 {lk:Str→Str→Str}{ns ss:List Str}{M:cG}(J:dP lk ns ss M)(h12:ss.length≤12):M.length≤66:=by
 have:=jK J.nd J.mem
 rw[List.length_map] at this
 have:=jG h12
 omega
theorem dP.nil {lk:Str→Str→Str}{ns ss:List Str}:dP lk ns ss []:=⟨List.nodup_nil,(fun _ h=>by cases h),(fun _ h=>by cases h),(fun _ h=>by cases h)⟩
def ip (lk:Str→Str→Str)(ns:List Str)(M:cG)(p:Str×Str):Prop:=∀ n∈ns,lk n p.1≠lk n p.2∧f9 (lk n p.1) (lk n p.2)∉bw M
def Joins (lk:Str→Str→Str)(ns:List Str)(M:cG)(p:Str×Str)(r:List Str):Prop:=OkR ns r∧bX lk r p.1=bX lk r p.2∧r.length≤M.length+1
theorem dP.put {lk:Str→Str→Str}{ns ss:List Str}{M:cG}(J:dP lk ns ss M){p:Str×Str}{r:List Str}(hp:p∈b6 ss)(hn:p∉bw M)(h:Joins lk ns M p r):dP lk ns ss (M++[(p,r)]):=by
 have hk:bw (M++[(p,r)])=bw M++[p]:=List.map_append
 refine⟨?_,fun q hq=>?_,fun e he=>?_,fun e he=>?_⟩
 · rw[hk]
   exact List.nodup_append.mpr ⟨J.nd,by simp,fun a ha b hb e=>by rw[List.mem_singleton.mp hb] at e;exact hn (by rw[←e];exact ha)⟩
 · rw[hk] at hq
   rcases List.mem_append.mp hq with hq | hq
   · exact J.mem q hq
   · rw[List.mem_singleton.mp hq];exact hp
 · rcases List.mem_append.mp he with he | he
   · exact J.row e he
   · rw[List.mem_singleton.mp he];exact⟨h.1,h.2.1⟩
 · rw[List.length_append]
   rcases List.mem_append.mp he with he | he
   · exact Nat.le_succ_of_le (J.len e he)
   · rw[List.mem_singleton.mp he];exact h.2.2
theorem rS {lk:Str→Str→Str}{ns:List Str}{M:cG}{p:Str×Str}{n:Str}(hn:n∈ns)(e:lk n p.1=lk n p.2):Joins lk ns M p [n] :=
 ⟨fun m hm=>by rw[List.mem_singleton.mp hm];exact hn,e,Nat.le_add_left _ _⟩
theorem pG {lk:Str→Str→Str}{ns ss:List Str}{M:cG}(J:dP lk ns ss M){p:Str×Str}{n:Str}{q:List Str}(hn:n∈ns)(h:(f9 (lk n p.1) (lk n p.2),q)∈M):Joins lk ns M p (n::q):=by
 obtain⟨h1,h2⟩:=J.row _ h
 refine⟨fun m hm=>?_,t6 (f:=bX lk q) h2,Nat.succ_le_succ (J.len _ h)⟩
 rcases List.mem_cons.mp hm with rfl | hm
 · exact hn
 · exact h1 m hm
def fY (p:Str×Str):List Key:=[Sum.inr p.1,Sum.inr p.2]
theorem iw {p q:Str×Str}(h:fY p=fY q):p=q:=by
 unfold fY at h
 simp only[List.cons.injEq,Sum.inr.injEq,and_true] at h
 exact Prod.ext h.1 h.2
def jQ (M:cG)(ps:List Addr):List (List Key×V):=(M.map fun e=>fY e.1).zip (ps.map V.ref)
def bK (H:Hp)(d:Addr)(M:cG)(ps:List Addr):Prop:=H d=some (.dT (jQ M ps))∧ps.length=M.length∧∀ (i:Nat) p e,ps[i]?=some p→M[i]?=some e→H p=some (.lst (e.2.map V.str))
theorem bK.same {H H':Hp}{d:Addr}{M:cG}{ps:List Addr}(h:bK H d M ps)(S:af H H'):bK H' d M ps:=⟨S _ _ h.1,h.2.1,fun i p e hp he=>S _ _ (h.2.2 i p e hp he)⟩
theorem ja:∀ (M:cG)(ps:List Addr)(p:Str×Str),p∉bw M→bP (jQ M ps) (fY p)=none
 | [],_,_,_=>rfl
 | e::M,[],_,_=>rfl
 | e::M,q::ps,p,h=>by
   have h1:p≠e.1:=fun z=>h (by rw[z];exact List.mem_cons_self)
   have ih:=ja M ps p fun z=>h (List.mem_cons_of_mem _ z)
   unfold bP at ih ⊢
   show Option.map (·.2) (List.find? _ ((fY e.1,V.ref q)::jQ M ps))=none
   rw[List.find?_cons_of_neg (by simpa using fun z=>h1 (iw z).symm)]
   exact ih
theorem lK:∀ (M:cG)(ps:List Addr) (i:Nat)(e:(Str×Str)×List Str)(q:Addr),(bw M).Nodup→M[i]?=some e→ps[i]?=some q→bP (jQ M ps) (fY e.1)=some (V.ref q)
 | [],_,_,_,_,_,h,_=>by cases h
 | e0::M,[],_,_,_,_,_,h=>by cases h
 | e0::M,q0::ps,0,e,q,hd,h1,h2=>by
   cases h1;cases h2
   unfold bP
   show Option.map (·.2) (List.find? _ ((fY e0.1,V.ref q0)::jQ M ps))=_
   rw[List.find?_cons_of_pos (by simp)]
   rfl
 | e0::M,q0::ps,i+1,e,q,hd,h1,h2=>by
   have hd':=List.nodup_cons.mp (show(e0.1::bw M).Nodup from hd)
   have h1':M[i]?=some e:=h1
   have hne:e0.1≠e.1:=fun z=>hd'.1 (by rw[z];exact List.mem_map_of_mem (f:=(·.1)) (List.mem_of_getElem? h1'))
   have ih:=lK M ps i e q hd'.2 h1' h2
   unfold bP at ih ⊢
   show Option.map (·.2) (List.find? _ ((fY e0.1,V.ref q0)::jQ M ps))=_
   rw[List.find?_cons_of_neg (by simpa using fun z=>hne (iw z))]
   exact ih
theorem uO {M:cG}{ps:List Addr}(h:ps.length=M.length):(jQ M ps).length=M.length:=by unfold jQ;rw[List.length_zip,List.length_map,List.length_map,h,Nat.min_self]
theorem tj {M:cG}{ps:List Addr}(h:ps.length=M.length)(p:Str×Str)(r:List Str)(q:Addr):jQ (M++[(p,r)]) (ps++[q])=jQ M ps++[(fY p,V.ref q)]:=by
 unfold jQ
 rw[List.map_append,List.map_append,List.zip_append (by rw[List.length_map,List.length_map,h])]
 rfl
theorem bK.get {H:Hp}{d b:Addr}{M:cG}{ps:List Addr}(h:bK H d M ps)(hd:(bw M).Nodup){p:Str×Str}(hb:H b=some (.tup [.str p.1,.str p.2]))(hp:p∈bw M):∃ q r,(p,r)∈M∧eJ H d (.ref b) (some (.ref q))∧H q=some (.lst (r.map V.str))∧q∈ps:=by
 obtain⟨e,he,rfl⟩:=List.mem_map.mp hp
 obtain⟨i,hi⟩:=List.getElem?_of_mem he
 have hil:i < ps.length:=by rw[h.2.1];exact(List.getElem?_eq_some_iff.mp hi).1
 have hq:=List.getElem?_eq_getElem hil
 refine⟨ps[i],e.2,he,?_,h.2.2 i _ _ hq hi,List.getElem_mem hil⟩
 rw[←lK M ps i e _ hd hi hq]
 exact eJ.t h.1 hb
theorem bK.none {H:Hp}{d b:Addr}{M:cG}{ps:List Addr}(h:bK H d M ps){p:Str×Str}(hb:H b=some (.tup [.str p.1,.str p.2]))(hp:p∉bw M):eJ H d (.ref b) Option.none:=by
 rw[←ja M ps p hp]
 exact eJ.t h.1 hb
theorem bK.put {H:Hp}{d b q:Addr}{M:cG}{ps:List Addr}(h:bK H d M ps){p:Str×Str}{r:List Str}(hb:H b=some (.tup [.str p.1,.str p.2]))(hp:p∉bw M)(hq:H q=some (.lst (r.map V.str)))(hl:M.length < sizeLine) :
   ∃ H',pL H d (.ref b) (.ref q) H'∧bK H' d (M++[(p,r)]) (ps++[q])∧(∀ c,c≠d→H' c=H c):=by
 refine⟨_,pL.t (k:=fY p) h.1 hb (by rw[uO h.2.1];exact hl),⟨?_,by rw[List.length_append,List.length_append,h.2.1];rfl,fun i x e hx he=>?_⟩,fun c hc=>ai hc⟩
 · rw[ac,eA _ (ja M ps p hp),tj h.2.1]
 · have nd:x≠d:=by
     intro z
     by_cases hi:i < ps.length
     · rw[List.getElem?_append_left hi] at hx
       obtain⟨e',he'⟩:∃ e',M[i]?=some e':=⟨_,List.getElem?_eq_getElem (by rw[←h.2.1];exact hi)⟩
       have:=h.2.2 i x _ hx he'
       rw[z,h.1] at this
       cases this
     · rw[List.getElem?_append_right (by omega)] at hx
       obtain⟨j,hj⟩:∃ j,i - ps.length=j:=⟨_,rfl⟩
       rw[hj] at hx
       cases j with
       | zero=>cases hx;rw[z,h.1] at hq;cases hq
       | succ j=>cases hx
   rw[ai nd]
   by_cases hi:i < ps.length
   · rw[List.getElem?_append_left hi] at hx
     rw[List.getElem?_append_left (by rw[←h.2.1];exact hi)] at he
     exact h.2.2 i x e hx he
   · rw[List.getElem?_append_right (by omega)] at hx
     rw[List.getElem?_append_right (by rw[←h.2.1];omega),←h.2.1] at he
     obtain⟨j,hj⟩:∃ j,i - ps.length=j:=⟨_,rfl⟩
     rw[hj] at hx he
     cases j with
     | zero=>cases hx;cases he;exact hq
     | succ j=>cases hx
end

section
variable {P:Program}{w:World}{K:PySem.W.Frag}{mg:Str→Option Value}{base:Heap}
theorem gU {J:It}{n:Nat}{vs:Nat→V→Prop}{g:TG}{tc:TT}{te:TE}{D:Addr}{Q:Hp→Prop}{σ:St}{H:Hp}(S:dM J H n vs)(hn:n≤sizeLine)(hD:H D=none)(Pσ:St→Prop)(bt:Nat→Bool)(out:Nat→V)
   (h0:Pσ σ)(step:∀ i x σ' H',i < n→vs i x→Pσ σ'→af H H'→∀ (R1:V→St→Hp→Prop)(R0:St→Hp→Prop),(bt i=true→∀ σ2,Pσ σ2→R1 (out i) σ2 H')→(bt i=false→∀ σ2,Pσ σ2→R0 σ2 H')→g x σ' H' fun σ2 H3=>tc σ2 H3 fun b H3'=>if b=true then te σ2 H3' fun v H4=>R1 v σ2 H4 else R0 σ2 H3')
   (fin:Q (upd H D (.lst (((List.range n).filter bt).map out)))):m6 J g tc te D Q σ (upd H D (.lst [])):=by
 refine⟨fun i m σ' H'=>m=n - i∧i≤n∧Pσ σ'∧H'=upd H D (.lst (((List.range i).filter bt).map out)),⟨n,by simp,Nat.zero_le _,h0,rfl⟩,?_⟩
 rintro i m σ' H' ⟨rfl,hi,p,rfl⟩
 have sm:af H (upd H D (.lst (((List.range i).filter bt).map out))):=af.updN hD
 by_cases hlt:i < n
 · refine .inr ⟨S.go i _ hlt sm,fun σ2 H2=>Pσ σ2∧H2=upd H D (.lst (((List.range (i+1)).filter bt).map out)),fun σ2 H2 ⟨p',e⟩=>⟨n - (i+1),by omega,rfl,hlt,p',e⟩,fun x H2 y=>?_⟩
   obtain⟨e,hv⟩:=S.yld i _ x H2 hlt sm y
   subst e
   have hlen:((List.range i).filter bt).length≤i:=by
     have:=List.length_filter_le bt (List.range i)
     rwa [List.length_range] at this
   refine step i x σ' _ hlt hv p sm (fun v σ2 H4=>∃ xs,H4 D=some (.lst xs)∧xs.length < sizeLine∧Pσ σ2∧upd H4 D (.lst (xs++[v]))=upd H D (.lst (((List.range (i+1)).filter bt).map out))) (fun σ2 H4=>Pσ σ2∧H4=upd H D (.lst (((List.range (i+1)).filter bt).map out))) (fun hb σ2 p2=>?_) (fun hb σ2 p2=>⟨p2,?_⟩)
   · refine⟨((List.range i).filter bt).map out,ac,by rw[List.length_map];omega,p2,?_⟩
     rw[jC,List.range_succ,List.filter_append,List.filter_cons_of_pos (by simpa using hb),List.filter_nil,List.map_append,List.map_singleton]
   · rw[List.range_succ,List.filter_append,List.filter_cons_of_neg (by simpa using hb),List.filter_nil,List.append_nil]
 · have e:i=n:=by omega
   subst e
   exact .inl ⟨S.stop _ sm,fin⟩
def cy (H:Hp)(ps:List Addr)(L:List (List V)):Prop:=ps.length=L.length∧∀ (i:Nat) p e,ps[i]?=some p→L[i]?=some e→H p=some (.tup e)
theorem cy.same {H H':Hp}{ps:List Addr}{L:List (List V)}(S:af H H')(h:cy H ps L):cy H' ps L:=⟨h.1,fun i p e hp he=>S _ _ (h.2 i p e hp he)⟩
theorem cy.snoc {H:Hp}{ps:List Addr}{L:List (List V)}{t:Addr}{e:List V}(h:cy H ps L)(ht:H t=some (.tup e)):cy H (ps++[t]) (L++[e]):=by
 refine⟨by rw[List.length_append,List.length_append,h.1];rfl,fun i p e2 hp he=>?_⟩
 by_cases hi:i < ps.length
 · rw[List.getElem?_append_left hi] at hp
   rw[List.getElem?_append_left (by rw[←h.1];exact hi)] at he
   exact h.2 i p e2 hp he
 · have hj:i=ps.length:=by
     have:=(List.getElem?_eq_some_iff.mp hp).1
     rw[List.length_append,List.length_singleton] at this
     omega
   subst hj
   rw[List.getElem?_append_right (Nat.le_refl _),Nat.sub_self] at hp
   rw[List.getElem?_append_right (by rw[h.1];exact Nat.le_refl _),h.1,Nat.sub_self] at he
   cases hp
   cases he
   exact ht
theorem rX {J:It}{n:Nat}{vs:Nat→V→Prop}{g:TG}{tc:TT}{te:TE}{D:Addr}{Q:Hp→Prop}{σ:St}{H:Hp}(S:dM J H n vs)(hn:n≤sizeLine)(hD:H D=none)(Pσ:St→Prop)(bt:Nat→Bool)(out:Nat→List V)
   (h0:Pσ σ)(step:∀ i x σ' H',i < n→vs i x→Pσ σ'→af H H'→∀ (R1:V→St→Hp→Prop)(R0:St→Hp→Prop),(bt i=true→∀ t σ2,Pσ σ2→H' t=none→R1 (.ref t) σ2 (upd H' t (.tup (out i))))→(bt i=false→∀ σ2,Pσ σ2→R0 σ2 H')→g x σ' H' fun σ2 H3=>tc σ2 H3 fun b H3'=>if b=true then te σ2 H3' fun v H4=>R1 v σ2 H4 else R0 σ2 H3')
   (fin:∀ ps H',af H H'→H' D=some (.lst (ps.map V.ref))→cy H' ps (((List.range n).filter bt).map out)→Q H'):m6 J g tc te D Q σ (upd H D (.lst [])):=by
 refine⟨fun i m σ' H'=>m=n - i∧i≤n∧Pσ σ'∧∃ ps,af H H'∧H' D=some (.lst (ps.map V.ref))∧cy (hide H' D) ps (((List.range i).filter bt).map out),⟨n,by simp,Nat.zero_le _,h0,[],af.updN hD,ac,rfl,by intro i p e h;simp at h⟩,?_⟩
 rintro i m σ' H' ⟨rfl,hi,p,ps,sm,hHD,hT⟩
 by_cases hlt:i < n
 · refine .inr ⟨S.go i _ hlt sm,fun σ2 H2=>Pσ σ2∧∃ ps,af H H2∧H2 D=some (.lst (ps.map V.ref))∧cy (hide H2 D) ps (((List.range (i+1)).filter bt).map out),fun σ2 H2 ⟨p',e⟩=>⟨n - (i+1),by omega,rfl,hlt,p',e⟩,fun x H2 y=>?_⟩
   obtain⟨e,hv⟩:=S.yld i _ x H2 hlt sm y
   subst e
   have hlen:ps.length≤i:=by
     have:=List.length_filter_le bt (List.range i)
     rw[List.length_range] at this
     rw[hT.1,List.length_map];exact this
   refine step i x σ' _ hlt hv p sm (fun v σ2 H4=>∃ xs,H4 D=some (.lst xs)∧xs.length < sizeLine∧Pσ σ2∧∃ ps,af H (upd H4 D (.lst (xs++[v])))∧upd H4 D (.lst (xs++[v])) D=some (.lst (ps.map V.ref))∧cy (hide (upd H4 D (.lst (xs++[v]))) D) ps (((List.range (i+1)).filter bt).map out)) (fun σ2 H4=>Pσ σ2∧∃ ps,af H H4∧H4 D=some (.lst (ps.map V.ref))∧cy (hide H4 D) ps (((List.range (i+1)).filter bt).map out)) (fun hb t σ2 p2 ht=>?_) (fun hb σ2 p2=>⟨p2,ps,sm,hHD,?_⟩)
   · have htD:t≠D:=fun e=>by rw[e,hHD] at ht;cases ht
     refine⟨ps.map V.ref,by rw[ai (Ne.symm htD)];exact hHD,by rw[List.length_map];omega,p2,ps++[t],(sm.step (sm.free ht)).step hD,by rw[ac,List.map_append];rfl,?_⟩
     rw[List.range_succ,List.filter_append,List.filter_cons_of_pos (by simpa using hb),List.filter_nil,List.map_append,List.map_singleton,dF]
     exact(cy.same (af.hide (af.updN ht)) hT).snoc (by rw[bq htD];exact ac)
   · rw[List.range_succ,List.filter_append,List.filter_cons_of_neg (by simpa using hb),List.filter_nil,List.append_nil]
     exact hT
 · have e:i=n:=by omega
   subst e
   exact .inl ⟨S.stop _ sm,fin ps H' sm hHD (hT.same cu)⟩
end

section
variable {P:Program}{w:World}{K:PySem.W.Frag}{mg:Str→Option Value}{base:Heap}
theorem oZ {J:It}{n:Nat}{vs:Nat→V→Prop}{g:TG}{te:TE}{D:Addr}{Q:Hp→Prop}{σ:St}{H:Hp}(S:dM J H n vs)(hn:n≤sizeLine)(hD:H D=none)(Pσ:St→Prop)(Pe:Nat→V→Hp→Prop)(mono:∀ i v H1 H2,af H1 H2→Pe i v H1→Pe i v H2)
   (h0:Pσ σ)(step:∀ i x σ' H',i < n→vs i x→Pσ σ'→af H H'→(∀ t,H' t=none→t≠D)→∀ R:V→St→Hp→Prop,(∀ v σ2 H4,Pσ σ2→af H' H4→Pe i v (hide H4 D)→R v σ2 H4)→g x σ' H' fun σ2 H3=>te σ2 H3 fun v H4=>R v σ2 H4)
   (fin:∀ us H',af H H'→H' D=some (.lst us)→us.length=n→(∀ (i:Nat) v,us[i]?=some v→Pe i v (hide H' D))→Q H'):l9 J g te D Q σ (upd H D (.lst [])):=by
 refine⟨fun i m σ' H'=>m=n - i∧i≤n∧Pσ σ'∧∃ us,af H H'∧H' D=some (.lst us)∧us.length=i∧∀ (j:Nat) v,us[j]?=some v→Pe j v (hide H' D),⟨n,by simp,Nat.zero_le _,h0,[],af.updN hD,ac,rfl,by intro j v h;simp at h⟩,?_⟩
 rintro i m σ' H' ⟨rfl,hi,p,us,sm,hHD,hl,hE⟩
 by_cases hlt:i < n
 · refine .inr ⟨S.go i _ hlt sm,fun σ2 H2=>Pσ σ2∧∃ us,af H H2∧H2 D=some (.lst us)∧us.length=i+1∧∀ (j:Nat) v,us[j]?=some v→Pe j v (hide H2 D),fun σ2 H2 ⟨p',e⟩=>⟨n - (i+1),by omega,rfl,hlt,p',e⟩,fun x H2 y=>?_⟩
   obtain⟨e,hv⟩:=S.yld i _ x H2 hlt sm y
   subst e
   refine step i x σ' _ hlt hv p sm (fun t ht e=>by rw[e,hHD] at ht;cases ht) (fun v σ2 H4=>∃ xs,H4 D=some (.lst xs)∧xs.length < sizeLine∧Pσ σ2∧∃ us,af H (upd H4 D (.lst (xs++[v])))∧upd H4 D (.lst (xs++[v])) D=some (.lst us)∧us.length=i+1∧∀ (j:Nat) v',us[j]?=some v'→Pe j v' (hide (upd H4 D (.lst (xs++[v]))) D)) fun v σ2 H4 p2 S4 hP=>?_
   refine⟨us,S4 _ _ hHD,by omega,p2,us++[v],(sm.trans S4).step hD,ac,by rw[List.length_append,hl];rfl,fun j v' hj=>?_⟩
   rw[dF]
   by_cases hji:j < us.length
   · rw[List.getElem?_append_left hji] at hj
     exact mono _ _ _ _ (af.hide S4) (hE j v' hj)
   · rw[List.getElem?_append_right (by omega)] at hj
     have hj0:j - us.length=0:=by
       have:=(List.getElem?_eq_some_iff.mp hj).1
       simp only[List.length_singleton] at this
       omega
     rw[hj0] at hj
     cases hj
     have:j=i:=by omega
     subst this
     exact hP
 · have e:i=n:=by omega
   subst e
   exact .inl ⟨S.stop _ sm,fin us H' sm hHD hl hE⟩
theorem rF:∀ us:List V,(∀ v∈us,∃ t,v=V.ref t)→∃ qs:List Addr,us=qs.map V.ref
 | [],_=>⟨[],rfl⟩
 | v::us,h=>by
   obtain⟨t,rfl⟩:=h v List.mem_cons_self
   obtain⟨qs,rfl⟩:=rF us fun v hv=>h v (List.mem_cons_of_mem _ hv)
   exact⟨t::qs,rfl⟩
theorem vQ {α:Type}{us:List V}{L:List α}{f:α→List V}{H:Hp}(hl:us.length=L.length)(h:∀ (i:Nat) v,us[i]?=some v→∃ t x,v=.ref t∧L[i]?=some x∧H t=some (.tup (f x))):∃ qs:List Addr,us=qs.map V.ref∧cy H qs (L.map f):=by
 obtain⟨qs,rfl⟩:=rF us fun v hv=>by
   obtain⟨i,hi⟩:=List.getElem?_of_mem hv
   obtain⟨t,_,e,_⟩:=h i v hi
   exact⟨t,e⟩
 rw[List.length_map] at hl
 refine⟨qs,rfl,by rw[List.length_map,hl],fun i p e hp he=>?_⟩
 obtain⟨t,x,e1,e2,e3⟩:=h i (.ref p) (by rw[List.getElem?_map,hp];rfl)
 cases e1
 rw[List.getElem?_map,e2] at he
 cases he
 exact e3
end

section
variable {P:Program}{w:World}{K:PySem.W.Frag}{mg:Str→Option Value}{base:Heap}
theorem si {ws:List Str}{i:Nat}(h:i < ws.length):eY (ws.map V.str) (some ((i:Int)+1)) none=(ws.drop (i+1)).map V.str:=by
 unfold eY
 have e1:HT.sIx (ws.map V.str).length 0 (some ((i:Int)+1))=i+1:=by
   rw[List.length_map,show(i:Int)+1=((i+1:Nat):Int) by omega,HT.sIx_nat]
   omega
 have e2:HT.sIx (ws.map V.str).length (ws.map V.str).length none=ws.length:=List.length_map _
 rw[e1,e2,List.map_drop,List.take_of_length_le (by rw[List.length_drop,List.length_map];omega)]
def b7 (e:Str×Str):List V:=[.str e.1,.str e.2]
def kU (K:PySem.W.Frag):Sp:=fun vs H Q _=>∃ (l:Addr)(so:List Str),vs=[.ref l]∧SqL K H l (so.map V.str)∧so.length≤12∧∀ p ps H',H p=none→af H H'→H' p=some (.lst (ps.map V.ref))→cy H' ps ((b6 so).map b7)→Q (.ref p) H'
theorem cy.app {H:Hp}{ps qs:List Addr}{L M:List (List V)}(a:cy H ps L)(b:cy H qs M):cy H (ps++qs) (L++M):=by
 have hl:=a.1
 refine⟨by rw[List.length_append,List.length_append,a.1,b.1],fun i p e hp he=>?_⟩
 by_cases hi:i < ps.length
 · rw[List.getElem?_append_left hi] at hp
   rw[List.getElem?_append_left (by omega)] at he
   exact a.2 i p e hp he
 · rw[List.getElem?_append_right (by omega)] at hp
   rw[List.getElem?_append_right (by omega),←hl] at he
   exact b.2 _ p e hp he

theorem fJ:au ["shades", "pairs", "place", "shade"] ["shades"] (ae d9):=⟨rfl,rfl,rfl,by decide +kernel,rfl,by decide +kernel,by decide +kernel⟩
theorem pb {f:Addr}{fd:FuncData}(F:Fun K "all_pairs" "all_pairs" d9 f fd)
   (T:Txt mg)(Ten:mg "enumerate"=none) :
   aw P w K mg base CX0 1 f fd ["shades"] (kU K):=by
 refine F.ok fJ (fun vs H Q E h=>?_) (fun cdv A outer s H vs Q E hr h=>?_)
 · obtain⟨_,_,rfl,_⟩:=h
   rfl
 · obtain⟨l,so,rfl,hl,h12,q⟩:=h
   refine⟨_,(aj (ay (i:=1) fJ.nd rfl (Or.inl rfl) (bp ad))
     (aj (bj PassesOwn.never rfl (wj (by rfl) Ten (aa (pv 0) ad)) (fK (n:=2) rfl (bc (ao (i:=2) fJ.nd rfl (Or.inl rfl)) (bc (ao (i:=3) fJ.nd rfl (Or.inr rfl)) dY))) (ag (aU (cX PySem.F.plainAttrs_list PySem.F.slot_list_extend PySem.F.type_list_extend lG (pv 1) (aa (cM (N':=["behind", "shade"]) (pk:=[none,some 3]) rfl (cc.of (by rfl)) (aQ (dc gw (pv 0) (dC (aC bQ (pv 2) ah)) eV)) (fun s H ex=>(ao (i:=0) (by show(["behind", "shade"]:List Str).Nodup;decide +kernel) rfl (Or.inl rfl))) (fun s H ex=>(de (aa (pv 1) (aa (pv 0) ad))))) ad)))))
     (ag (ar (pv 1))))),?_⟩
   have hs:=aP
   refine aW (fun σ' H'=>∃ p,H p=none∧σ'=[some (.ref l),some (.ref p),none,none]∧H'=upd H p (.lst [])) (fun R hR=>?_) ?_
   · walk_at "dm"
     exact⟨by omega,fun p hp=>hR _ _ ⟨p,hp,rfl,rfl⟩⟩
   rintro σ1 H1 ⟨p,hp,rfl,rfl⟩
   refine aW (fun σ' H'=>∃ o2 o3 ps,σ'=[some (.ref l),some (.ref p),o2,o3]∧af H H'∧H' p=some (.lst (ps.map V.ref))∧cy H' ps ((b6 so).map b7)) (fun R hR=>?_) ?_
   · walk_at "dm"
     refine⟨⟨_,(af.updN hp).seq hl⟩,?_⟩
     refine rY (H0:=H) hl (fun i σ' H'=>∃ o2 o3 ps L,σ'=[some (.ref l),some (.ref p),o2,o3]∧af H H'∧H' p=some (.lst (ps.map V.ref))∧cy H' ps (L.map b7)∧L++b6 (so.drop i)=b6 so) ⟨none,none,[],[],rfl,af.updN hp,ac,⟨rfl,by intro i p e h;cases h⟩,by rw[List.drop_zero];rfl⟩ (fun _ _ _ _ ⟨_,_,_,_,_,h,_⟩=>h) ?_ ?_
     · rintro i x T σ' H' hx hT ⟨o2,o3,ps,L,rfl,S,hP,hTu,hL⟩ R2 hR2
       rw[List.getElem?_map] at hx
       obtain⟨z,hz,rfl⟩:=Option.map_eq_some_iff.mp hx
       have hT2:upd H' T (.tup [V.int i,V.str z]) T=some (.tup [V.int i,V.str z]):=ac
       have S2:=af.updN (o:=.tup [V.int i,V.str z]) hT
       generalize upd H' T (.tup [V.int i,V.str z])=G at *
       refine⟨T,_,rfl,SqT.of hT2,rfl,?_⟩
       walk_at "dm"
       have hi:i < so.length:=(List.getElem?_eq_some_iff.mp hz).1
       refine⟨.inl ⟨rfl,_,SqL.of (S2 _ _ hP)⟩,_,(S.trans S2).seq hl,fun l2 hl2=>?_⟩
       have Sl:=af.updN (o:=.lst (eY (so.map V.str) (some ((i:Int)+1)) none)) hl2
       have hl3:upd G l2 (.lst (eY (so.map V.str) (some ((i:Int)+1)) none)) l2=some (.lst ((so.drop (i+1)).map V.str)):=by rw[ac,si hi]
       generalize upd G l2 (.lst (eY (so.map V.str) (some ((i:Int)+1)) none))=G2 at *
       refine⟨⟨_,SqL.of hl3⟩,fun D hD=>?_⟩
       refine oZ (ax (SqL.of hl3)) (by rw[List.length_map,List.length_drop,sizeLine_eq];omega) hD (fun σ=>∃ o,σ=[o,some (.str z)]) (fun j v H=>∃ t y,v=.ref t∧(so.drop (i+1))[j]?=some y∧H t=some (.tup (b7 (z,y)))) (fun j v H1 H2 S ⟨t,y,e1,e2,e3⟩=>⟨t,y,e1,e2,S _ _ e3⟩) ⟨none,rfl⟩ ?_ ?_
       · rintro j x σ' H' hj hx ⟨o,rfl⟩ S3 hD3 R3 hR3
         rw[List.getElem?_map] at hx
         obtain⟨y,hy,rfl⟩:=Option.map_eq_some_iff.mp hx
         walk_at "dm"
         refine⟨by omega,fun t ht=>hR3 _ _ _ ⟨_,rfl⟩ (af.updN ht) ⟨t,y,rfl,hy,?_⟩⟩
         rw[bq (hD3 t ht)]
         exact ac
       · intro us H3 S3 hD3 hul hus
         rw[List.length_map] at hul
         obtain⟨qs,rfl,hq⟩:=vQ (L:=so.drop (i+1)) (f:=fun y=>b7 (z,y)) (H:=H3) hul fun j v hv=>by
           obtain⟨t,y,e1,e2,e3⟩:=hus j v hv
           exact⟨t,y,e1,e2,cu _ _ e3⟩
         have SS:af H' H3:=S2.trans (Sl.trans S3)
         have hP3:=SS _ _ hP
         have hpH:H p=none:=hp
         have hlen:ps.length≤66:=by
           have h1:=hTu.1
           have h2:=congrArg List.length hL
           have h3:=jG h12
           rw[List.length_map] at h1
           rw[List.length_append] at h2
           omega
         have hlen2:qs.length≤12:=by rw[List.length_map,List.length_drop] at hul;omega
         refine⟨_,hP3,_,hD3,by rw[List.length_map,List.length_map,sizeLine_eq];omega,hR2 _ _ ⟨_,_,ps++qs,L++(so.drop (i+1)).map (fun y=>(z,y)),rfl,(S.trans SS).step hpH,by rw[ac,List.map_append],?_,?_⟩⟩
         · rw[List.map_append,List.map_map]
           have T1:=(hTu.same SS).app (M:=(so.drop (i+1)).map fun y=>b7 (z,y)) hq
           refine⟨T1.1,fun j q e hq he=>?_⟩
           have h:=T1.2 j q e hq he
           rw[ai (fun z=>by rw[z,hP3] at h;cases h)]
           exact h
         · rw[List.append_assoc,←sx hz]
           exact hL
     · rintro σ' H' ⟨o2,o3,ps,L,rfl,S,hP,hTu,hL⟩
       rw[List.length_map,List.drop_length] at hL
       have hL':L=b6 so:=by rw[←hL];exact(List.append_nil L).symm
       subst hL'
       exact hR _ _ ⟨o2,o3,ps,rfl,S,hP,hTu⟩
   rintro σ2 H2 ⟨o2,o3,ps,rfl,S,hP,hTu⟩
   walk_at "dm"
   exact q p ps _ hp S hP hTu
end

section
variable {P:Program}{w:World}{K:PySem.W.Frag}{mg:Str→Option Value}{base:Heap}
def u7 (CB:Addr):Sp:=fun vs H Q _=>∃ (x t d:Addr)(ss:List Str)(bs:List (Str×List Str))(so:List Str)(pr:Str×Str)(M:cG)(ps:List Addr),vs=[.ref x,.ref t,.ref d]∧bg H CB x ss bs∧aO ss bs∧so.Perm ss∧so.Pairwise ltN∧H t=some (.tup (b7 pr))∧pr∈b6 so∧bK H d M ps∧dP (lkB ss bs) (bs.map (·.1)) so M ∧
 (∀ H',ip (lkB ss bs) (bs.map (·.1)) M pr→af H H'→Q .non H')∧(∀ r p H',Joins (lkB ss bs) (bs.map (·.1)) M pr r→H p=none→af H H'→H' p=some (.lst (r.map V.str))→Q (.ref p) H')

theorem qy:au ["book", "pair", "rows", "bath", "outs"] ["book", "pair", "rows"] (ae jS):=⟨rfl,rfl,rfl,by decide +kernel,rfl,by decide +kernel,by decide +kernel⟩
theorem wt {f fMB fMO:Addr}{fd fdMB fdMO:FuncData}{CB:Addr}(F:Fun K "joining_row" "joining_row" jS f fd)
   (T:Txt mg)(cB:Cls K CB)
   (GMB:aw P w K mg base CX0 1 fMB fdMB ["self"] (kY CB))(hmMB:bZ K CB "baths" fMB)(bMB:az K fdMB ["self"] [])
   (GMO:aw P w K mg base CX0 2 fMO fdMO ["self", "bath", "shade"] (mZ CB))(hmMO:bZ K CB "out" fMO)(bMO:az K fdMO ["self", "bath", "shade"] []) :
   aw P w K mg base CX0 3 f fd ["book", "pair", "rows"] (u7 CB):=by
 refine F.ok qy (fun vs H Q E h=>?_) (fun cdv A outer s H vs Q E hr h=>?_)
 · obtain⟨_,_,_,_,_,_,_,_,_,rfl,_⟩:=h
   rfl
 · obtain⟨x,t,d,ss,bs,so,pr,M,ps,rfl,hbk,B,hpm,hso,ht,hpr,hM,J,q1,q2⟩:=h
   have hu:(cr CX0 P w K mg base ["book", "pair", "rows", "bath", "outs"] "joining_row" (ae jS) f cdv A outer s H E).A.units+1 < cLine:=by
     have:=hr.units
     exact Nat.lt_of_le_of_lt (Nat.add_le_add_left (by decide) _) this
   have hr1:=hr.mono (j:=1) (by omega)
   have hr2:=hr.mono (j:=2) (by omega)
   refine⟨_,(aj (bj PassesOwn.never rfl (aQ (eE (pv 0) cB hmMB GMB hr1 bMB .nil aH)) (ao (i:=3) qy.nd rfl (Or.inr rfl)) (aj (ay (i:=4) qy.nd rfl (Or.inl rfl) (al dU (by rfl) T.sorted (by decide +kernel) (aa (cM (N':=["shade", "book", "bath"]) (pk:=[none,some 0,some 3]) rfl (cc.of (by rfl)) (uk (pv 1)) (fun s H ex=>(ao (i:=0) (by show(["shade", "book", "bath"]:List Str).Nodup;decide +kernel) rfl (Or.inl rfl))) (fun s H ex=>(br (pv 1) cB hmMO GMO hr2 bMO .nil aH (aa (pv 2) (aa (pv 0) ad))))) ad)))
     (aj (aR (aF dn (aK aG (pv 4) ah (fun _ _=>rfl)) (aK aG (pv 4) ah (fun _ _=>rfl)) (aM _)) (ag (ar (bp (aa (pv 3) ad)))) aB)
     (ag (aR (e7 (pT hu (aZ eZ (by rfl) T.tuple (by decide +kernel) (aa (pv 4) ad)) (pv 2))) (ag (ar (aC li (bp (aa (pv 3) ad)) (ca hu (pv 2) (aZ eZ (by rfl) T.tuple (by decide +kernel) (aa (pv 4) ad)) (fun _ _=>rfl))))) aB)))))
     (ag (ar nk))),?_⟩
   have hs:=aP
   have hb8:=B.b8
   have hs12:=B.s12
   have hbk0:=hbk
   obtain⟨dx,bt,bd,bo,hi1,hi2,hi3,hi4,hi5⟩:=hbk
   have hsl:so.length=ss.length:=hpm.length_eq
   have hab:=(dI hso).mp (show(pr.1,pr.2)∈b6 so from hpr)
   have ha:pr.1∈ss:=hpm.mem_iff.mp hab.1
   have hb:pr.2∈ss:=hpm.mem_iff.mp hab.2.1
   refine aW (fun σ' H'=>(∃ o3 o4,σ'=[some (.ref x),some (.ref t),some (.ref d),o3,o4])∧af H H'∧ip (lkB ss bs) (bs.map (·.1)) M pr) (fun R hR=>?_) ?_
   · walk_at "dm"
     refine⟨dx,_,hi1,bU (by decide +kernel) (by decide +kernel),x,ss,bs,rfl,hbk0,B,fun lb ns hlb hnp hns=>?_⟩
     refine⟨lb,rfl,⟨_,SqL.of ac⟩,?_⟩
     have S1:=af.updN (o:=.lst (ns.map V.str)) hlb
     have hlb1:upd H lb (.lst (ns.map V.str)) lb=some (.lst (ns.map V.str)):=ac
     generalize upd H lb (.lst (ns.map V.str))=H1 at *
     refine bi (H0:=H1) (ax (SqL.of hlb1)) (fun i σ' H'=>(∃ o3 o4,σ'=[some (.ref x),some (.ref t),some (.ref d),o3,o4])∧af H1 H'∧ip (lkB ss bs) (ns.take i) M pr) ⟨⟨none,none,rfl⟩,af.refl _,fun n hn=>by rw[List.take_zero] at hn;cases hn⟩ (fun _ _ _ _ ⟨_,h,_⟩=>h) ?_ ?_
     · rintro i y σ' H' hi hy ⟨⟨o3,o4,rfl⟩,S2,hA⟩ R2 hR2
       rw[List.getElem?_map] at hy
       obtain⟨n,hn,rfl⟩:=Option.map_eq_some_iff.mp hy
       have hnm:=hnp.mem_iff.mp (List.mem_of_getElem? hn)
       obtain⟨b,hbm,rfl⟩:=List.mem_map.mp hnm
       have SH:=S1.trans S2
       walk_at "dm"
       refine aW (fun σ2 H2=>∃ lo u v,σ2=[some (.ref x),some (.ref t),some (.ref d),some (.str b.1),some (.ref lo)]∧af H' H2∧H2 lo=some (.lst [.str u,.str v])∧(u,v)=f9 (lkB ss bs b.1 pr.1) (lkB ss bs b.1 pr.2)∧(u=v↔lkB ss bs b.1 pr.1=lkB ss bs b.1 pr.2)) (fun R3 hR3=>?_) ?_
       · walk_at "dm"
         refine⟨⟨_,SqT.of (SH _ _ ht)⟩,fun D hD=>?_⟩
         refine cz (j9 (SqT.of (SH _ _ ht))) (by rw[sizeLine_eq];show 2≤_;decide) hD (fun σ=>∃ o,σ=[o,some (.ref x),some (.str b.1)]) (fun i=>.str (lkB ss bs b.1 (if i=0 then pr.1 else pr.2))) ⟨none,rfl⟩ ?_ ?_
         · rintro j z σ2 H2 hj hz ⟨o,rfl⟩ S3 R4 hR4
           walk_at "dm"
           have hS:=SH.trans S3
           have hbk1:=af.book hS hbk0
           rcases j with _ | _ | j
           · cases hz
             refine⟨dx,_,hS _ _ hi1,bU (by decide +kernel) (by decide +kernel),x,ss,bs,b,pr.1,rfl,hbk1,B,hbm,ha,?_⟩
             rw[←dL pr.1 B.bnd hbm]
             exact hR4 _ ⟨_,rfl⟩
           · cases hz
             refine⟨dx,_,hS _ _ hi1,bU (by decide +kernel) (by decide +kernel),x,ss,bs,b,pr.2,rfl,hbk1,B,hbm,hb,?_⟩
             rw[←dL pr.2 B.bnd hbm]
             exact hR4 _ ⟨_,rfl⟩
           · cases hz
         · have SD:=af.updN (o:=.lst ([lkB ss bs b.1 pr.1,lkB ss bs b.1 pr.2].map V.str)) hD
           have hDD:upd H' D (.lst ([lkB ss bs b.1 pr.1,lkB ss bs b.1 pr.2].map V.str)) D=_:=ac
           have eD:upd H' D (HO.lst (List.map (fun i=>V.str (lkB ss bs b.1 (if i=0 then pr.1 else pr.2))) (List.range (b7 pr).length)))=upd H' D (.lst ([lkB ss bs b.1 pr.1,lkB ss bs b.1 pr.2].map V.str)):=rfl
           rw[eD]
           refine⟨_,SqL.of hDD,by show 2 < 64;decide,fun p ss' hp hpm2 hso2=>?_⟩
           have hl2:ss'.length=2:=hpm2.length_eq
           match ss',hl2,hpm2,hso2 with
           | [u,v],_,hpm2,hso2 =>
             obtain⟨e1,e2⟩:=rG hpm2 hso2
             exact hR3 _ _ ⟨p,u,v,rfl,SD.trans (af.updN hp),ac,e1,e2⟩
       rintro σ2 H2 ⟨lo,u,v,rfl,S3,hlo,huv,heq⟩
       have SH2:=SH.trans S3
       refine aW (fun σ' H'=>σ'=[some (.ref x),some (.ref t),some (.ref d),some (.str b.1),some (.ref lo)]∧H'=H2∧lkB ss bs b.1 pr.1≠lkB ss bs b.1 pr.2) (fun R3 hR3=>?_) ?_
       · walk_at "dm"
         refine⟨_,SqL.of hlo,_,rfl,_,SqL.of hlo,_,rfl,?_⟩
         exact⟨rfl,aV (fun h=>⟨by omega,fun p hp=>q2 [b.1] p _ (rS hnm (heq.mp (V.str.inj h))) (SH2.free hp) (SH2.trans (af.updN hp)) ac⟩) (fun h=>hR3 _ _ ⟨rfl,rfl,fun e=>h (by rw[heq.mpr e])⟩)⟩
       rintro σ3 H3 ⟨rfl,rfl,hne⟩
       walk_at "dm"
       refine⟨_,.inl ⟨SqL.of hlo,fun l hl=>?_⟩⟩
       have SG:=af.updN (o:=.tup (b7 (u,v))) hl
       have hGl:upd H3 l (.tup (b7 (u,v))) l=some (.tup (b7 (u,v))):=ac
       change ∃ x_2,eJ (upd H3 l (.tup (b7 (u,v)))) d (V.ref l) x_2∧_
       have hlo2:=SG _ _ hlo
       have SG1:=SH2.trans SG
       by_cases hk:(u,v)∈bw M
       · obtain⟨q,r,hr,g1,g2,_⟩:=(hM.same SG1).get J.nd (p:=(u,v)) hGl hk
         refine⟨some (.ref q),g1,aV (fun _=>⟨by omega,fun p hp=>⟨_,.inl ⟨SqL.of (af.updN hp _ _ hlo2),fun l2 hl2=>?_⟩⟩⟩) (fun h=>absurd rfl h)⟩
         have S4:=af.updN (o:=.lst [V.str b.1]) hp
         have S5:=af.updN (o:=.tup (b7 (u,v))) hl2
         have hp3:=S5 _ _ (ac (H:=upd H3 l (.tup (b7 (u,v)))) (a:=p) (o:=.lst [V.str b.1]))
         change ∃ x_3,eJ (upd (upd (upd H3 l (.tup (b7 (u,v)))) p (.lst [V.str b.1])) l2 (.tup (b7 (u,v)))) d (V.ref l2) (some x_3)∧_
         have hl3:upd (upd (upd H3 l (.tup (b7 (u,v)))) p (.lst [V.str b.1])) l2 (.tup (b7 (u,v))) l2=some (.tup (b7 (u,v))):=ac
         have SG3:=SG1.trans (S4.trans S5)
         obtain⟨q3,r3,hr3,g3,g4,_⟩:=(hM.same SG3).get J.nd (p:=(u,v)) hl3 hk
         refine⟨_,g3,_,_,_,_,rfl,rfl,hp3,g4,?_,fun p4 hp4=>?_⟩
         · have h1:=J.len _ hr3
           have h2:=J.l66 (by omega:so.length≤12)
           have h3:r3.length≤66:=Nat.le_trans h1 h2
           rw[List.length_map,sizeLine_eq]
           show 1+r3.length≤_
           omega
         · have S6:=af.updN (o:=.lst ([V.str b.1]++r3.map V.str)) hp4
           exact q2 (b.1::r3) p4 _ (pG J hnm (by rw[←huv];exact hr3)) (SG3.free hp4) (SG3.trans S6) ac
       · refine⟨none,(hM.same SG1).none (p:=(u,v)) hGl hk,aV (fun h=>by cases h) (fun _=>hR2 _ _ ⟨⟨_,_,rfl⟩,S2.trans (S3.trans SG),fun n hn2=>?_⟩)⟩
         rw[bx hn] at hn2
         rcases List.mem_append.mp hn2 with hn2 | hn2
         · exact hA n hn2
         · rw[List.mem_singleton.mp hn2]
           exact⟨hne,by rw[←huv];exact hk⟩
     · rintro σ' H' ⟨e,S2,hA⟩
       refine hR _ _ ⟨e,S1.trans S2,fun n hn=>hA n ?_⟩
       rw[List.length_map,List.take_length]
       exact hnp.mem_iff.mpr hn
   rintro σ1 H1 ⟨⟨o3,o4,rfl⟩,S,hA⟩
   walk_at "dm"
   exact q1 _ hA S
end

section
variable {P:Program}{w:World}{K:PySem.W.Frag}{mg:Str→Option Value}{base:Heap}
def rq (CB:Addr):Sp:=fun vs H Q _=>∃ (x l:Addr)(ss:List Str)(bs:List (Str×List Str))(so:List Str)(ps:List Addr),vs=[.ref x,.ref l]∧bg H CB x ss bs∧aO ss bs∧so.Perm ss∧so.Pairwise ltN∧H l=some (.lst (ps.map V.ref))∧cy H ps ((b6 so).map b7) ∧
 ∀ d M qs H',H d=none→af H H'→bK H' d M qs→(∀ q∈qs,H q=none)→dP (lkB ss bs) (bs.map (·.1)) so M→(∀ pr∈b6 so,pr∉bw M→ip (lkB ss bs) (bs.map (·.1)) M pr)→Q (.ref d) H'
theorem jh {H:Hp}{ps:List Addr}{L:List (Str×Str)}(hT:cy H ps (L.map b7))(c:Str×Str→Bool){bt:Nat→Bool}{out:Nat→V}(hb:∀ i e,L[i]?=some e→bt i=c e)(ho:∀ i p,ps[i]?=some p→out i=V.ref p) :
   ∀ k,k≤ps.length→∃ rs,((List.range k).filter bt).map out=rs.map V.ref∧cy H rs (((L.take k).filter c).map b7)
 | 0,_=>⟨[],rfl,rfl,fun i p e h=>by cases h⟩
 | k+1,hk=>by
   obtain⟨rs,e1,e2⟩:=jh hT c hb ho k (by omega)
   have hl:=hT.1
   rw[List.length_map] at hl
   obtain⟨p,hp⟩:∃ p,ps[k]?=some p:=⟨_,List.getElem?_eq_getElem (by omega)⟩
   obtain⟨e,he⟩:∃ e,L[k]?=some e:=⟨_,List.getElem?_eq_getElem (by omega)⟩
   rw[List.range_succ,List.filter_append,List.map_append,bx he,List.filter_append,List.map_append,e1]
   cases hc:c e with
   | true =>
     refine⟨rs++[p],?_,?_⟩
     · rw[List.filter_cons_of_pos (by rw[hb k e he];exact hc),List.filter_nil,List.map_append,List.map_singleton,ho k p hp];rfl
     · rw[List.filter_cons_of_pos hc,List.filter_nil,List.map_singleton]
       exact e2.snoc (hT.2 k p _ hp (by rw[List.getElem?_map,he];rfl))
   | false =>
     refine⟨rs,?_,?_⟩
     · rw[List.filter_cons_of_neg (by rw[hb k e he,hc];exact Bool.false_ne_true),List.filter_nil,List.map_nil,List.append_nil]
     · rw[List.filter_cons_of_neg (by rw[hc];exact Bool.false_ne_true),List.filter_nil,List.map_nil,List.append_nil]
       exact e2

theorem fM:au ["book", "pairs", "rows", "growing", "pair", "row"] ["book", "pairs"] (ae ia):=⟨rfl,rfl,rfl,by decide +kernel,rfl,by decide +kernel,by decide +kernel⟩
theorem ug {f fJR:Addr}{fd fdJR:FuncData}{CB:Addr}(F:Fun K "joining_rows" "joining_rows" ia f fd)
   (T:Txt mg)
   (GJR:aw P w K mg base CX0 3 fJR fdJR ["book", "pair", "rows"] (u7 CB))(kJR:PySem.W.keepIn K (.ref fJR)=true)(bJR:az K fdJR ["book", "pair", "rows"] [])(mJR:mg "joining_row"=some (.ref fJR)) :
   aw P w K mg base CX0 4 f fd ["book", "pairs"] (rq CB):=by
 refine F.ok fM (fun vs H Q E h=>?_) (fun cdv A outer s H vs Q E hr h=>?_)
 · obtain⟨_,_,_,_,_,_,rfl,_⟩:=h
   rfl
 · obtain⟨x,l,ss,bs,so,ps,rfl,hbk,B,hpm,hso,hl,hT,q⟩:=h
   have hu:(cr CX0 P w K mg base ["book", "pairs", "rows", "growing", "pair", "row"] "joining_rows" (ae ia) f cdv A outer s H E).A.units+1 < cLine:=by
     have:=hr.units
     exact Nat.lt_of_le_of_lt (Nat.add_le_add_left (by decide) _) this
   have hr3:=hr.mono (j:=3) (by omega)
   refine⟨_,(aj (ay (i:=2) fM.nd rfl (Or.inr rfl) nF)
     (aj (ay (i:=3) fM.nd rfl (Or.inl rfl) cm)
     (aj (lh PassesOwn.never (cw (pv 3)) (aj (ay (i:=3) fM.nd rfl (Or.inl rfl) cm)
     (ag (bj PassesOwn.never rfl (aQ (kJ (N':=["each", "rows"]) (pk:=[none,some 2]) rfl (cc.of (by rfl)) (aQ (pv 1)) (fun s H ex=>(ao (i:=0) (by show(["each", "rows"]:List Str).Nodup;decide +kernel) rfl (Or.inl rfl))) (fun s H ex=>(e7 (dz hu (pv 0) (pv 1)))) (fun s H ex=>(pv 0)))) (ao (i:=4) fM.nd rfl (Or.inl rfl)) (aj (ay (i:=5) fM.nd rfl (Or.inl rfl) (aq GJR hr3 rfl mJR kJR bJR .nil aH (aa (pv 0) (aa (pv 4) (aa (pv 2) ad)))))
     (ag (aR (aF rb (pv 5) nk (aM _)) (am (gu hu (pv 2) (pv 4) (pv 5) rfl)
     (ag (ay (i:=3) fM.nd rfl (Or.inl rfl) cm))) aB)))))))
     (ag (ar (pv 2)))))),?_⟩
   have hs:=aP
   have hb8:=B.b8
   have hs12:=B.s12
   have hsl:so.length=ss.length:=hpm.length_eq
   have hpl:ps.length=(b6 so).length:=by rw[hT.1,List.length_map]
   have h66:=jG (l:=so) (by omega)
   refine aW (fun σ' H'=>∃ d,H d=none∧σ'=[some (.ref x),some (.ref l),some (.ref d),none,none,none]∧H'=upd H d (.dT [])) (fun R hR=>?_) ?_
   · walk_at "dm"
     exact fun p hp=>hR _ _ ⟨p,hp,rfl,rfl⟩
   rintro σ1 H1 ⟨d,hd,rfl,rfl⟩
   have S1:=af.updN (o:=.dT []) hd
   have hM1:bK (upd H d (.dT [])) d [] []:=⟨ac,rfl,fun i p e h=>by cases h⟩
   generalize upd H d (.dT [])=H1 at *
   refine aW (fun σ' H'=>σ'=[some (.ref x),some (.ref l),some (.ref d),some (.bl true),none,none]∧H'=H1) (fun R hR=>?_) ?_
   · walk_at "dm"
     exact hR _ _ ⟨rfl,rfl⟩
   rintro σ2 H2 ⟨rfl,rfl⟩
   refine aW (fun σ' H'=>∃ M qs o3 o4 o5,σ'=[some (.ref x),some (.ref l),some (.ref d),o3,o4,o5]∧af H H'∧bK H' d M qs∧(∀ q∈qs,H q=none)∧dP (lkB ss bs) (bs.map (·.1)) so M∧∀ pr∈b6 so,pr∉bw M→ip (lkB ss bs) (bs.map (·.1)) M pr) (fun R hR=>?_) ?_
   · unfold qm
     obtain⟨Wp,hWp⟩:∃ Wp:Nat→St→Hp→Prop,∀ m σ' H',Wp m σ' H'↔∃ M qs g o4 o5,σ'=[some (.ref x),some (.ref l),some (.ref d),some (.bl g),o4,o5]∧af H H'∧bK H' d M qs∧(∀ q∈qs,H q=none)∧dP (lkB ss bs) (bs.map (·.1)) so M∧m=2*(66 - M.length)+(if g=true then 1 else 0)∧(g=false→∀ pr∈b6 so,pr∉bw M→ip (lkB ss bs) (bs.map (·.1)) M pr):=⟨_,fun _ _ _=>Iff.rfl⟩
     refine⟨Wp,⟨_,(hWp _ _ _).mpr ⟨[],[],true,none,none,rfl,S1,hM1,(fun q hq=>by cases hq),dP.nil,rfl,fun h=>by cases h⟩⟩,?_⟩
     intro m σ' H3 hw
     obtain⟨M,qs,g,o4,o5,rfl,S3,hM,hq0,J,hm,hgf⟩:=(hWp _ _ _).mp hw
     have hJ66:=J.l66 (by omega:so.length≤12)
     walk_at "dm"
     refine aV (fun hg=>?_) (fun hg=>hR _ _ ⟨M,qs,_,_,_,rfl,S3,hM,hq0,J,hgf (by simpa using hg)⟩)
     subst hg
     rw[if_pos rfl] at hm
     refine⟨fun σ' H'=>∃ m',m' < m∧Wp m' σ' H',fun _ _ h=>h,?_⟩
     refine aW (fun σ' H'=>σ'=[some (.ref x),some (.ref l),some (.ref d),some (.bl false),o4,o5]∧H'=H3) (fun R hR=>?_) ?_
     · walk_at "dm"
       exact hR _ _ ⟨rfl,rfl⟩
     rintro σ4 H4 ⟨rfl,rfl⟩
     walk_at "dm"
     refine⟨⟨_,SqL.of (S3 _ _ hl)⟩,fun D hD=>?_⟩
     have hT4:=hT.same S3
     refine gU (ax (SqL.of (S3 _ _ hl))) (by rw[List.length_map,sizeLine_eq];omega) hD (fun σ=>∃ o,σ=[o,some (.ref d)]) (fun i=>match (b6 so)[i]? with | some e=>!decide (e∈bw M) | none=>false) (fun i=>match ps[i]? with | some p=>.ref p | none=>.non) ⟨none,rfl⟩ ?_ ?_
     · rintro i y σ' H' hi hy ⟨o,rfl⟩ S5 R1 R0 hR1 hR0
       rw[List.length_map] at hi
       rw[List.getElem?_map] at hy
       obtain⟨p,hp,rfl⟩:=Option.map_eq_some_iff.mp hy
       obtain⟨e,he⟩:∃ e,(b6 so)[i]?=some e:=⟨_,List.getElem?_eq_getElem (by omega)⟩
       have htp:=S5 _ _ (hT4.2 i p (b7 e) hp (by rw[List.getElem?_map,he];rfl))
       rw[he,hp] at hR1
       rw[he] at hR0
       dsimp only at hR1 hR0
       walk_at "dm"
       by_cases hk:e∈bw M
       · obtain⟨q,r,_,g1,_,_⟩:=(hM.same S5).get J.nd (p:=e) htp hk
         refine⟨_,g1,aV (fun h=>?_) (fun _=>hR0 (by rw[decide_eq_true hk];rfl) _ ⟨_,rfl⟩)⟩
         simp at h
       · refine⟨none,(hM.same S5).none (p:=e) htp hk,aV (fun h=>hR1 (by rw[decide_eq_false hk];rfl) _ ⟨_,rfl⟩) (fun h=>?_)⟩
         simp at h
     rw[List.length_map]
     obtain⟨rs,ers,hrs⟩:=jh (k:=ps.length) hT4 (fun e=>!decide (e∈bw M)) (bt:=fun i=>match (b6 so)[i]? with | some e=>!decide (e∈bw M) | none=>false) (out:=fun i=>match ps[i]? with | some p=>.ref p | none=>.non) (fun i e h=>by rw[h]) (fun i p h=>by rw[h]) (Nat.le_refl _)
     rw[ers]
     rw[hpl,List.take_length] at hrs
     obtain⟨FL,hFL⟩:∃ FL,FL=(b6 so).filter fun e=>!decide (e∈bw M):=⟨_,rfl⟩
     rw[←hFL] at hrs
     have hFm:∀ e∈FL,e∈b6 so∧e∉bw M:=fun e he=>by
       rw[hFL,List.mem_filter] at he
       exact⟨he.1,by simpa using he.2⟩
     have hFn:FL.Nodup:=by rw[hFL];exact(gT hso).filter _
     have hrl:rs.length=FL.length:=by rw[hrs.1,List.length_map]
     have SD:=af.updN (o:=.lst (rs.map V.ref)) hD
     have hDl:upd H4 D (.lst (rs.map V.ref)) D=some (.lst (rs.map V.ref)):=ac
     have S5:=S3.trans SD
     have hM5:=hM.same SD
     have hrs5:=hrs.same SD
     generalize upd H4 D (.lst (rs.map V.ref))=H5 at *
     refine⟨⟨_,SqL.of hDl⟩,?_⟩
     refine bi (H0:=fun b=>if b=D then some (.lst (rs.map V.ref)) else none) (ax (SqL.of (if_pos rfl))) (fun k σ' H'=>∃ M' qs' g o4 o5,σ'=[some (.ref x),some (.ref l),some (.ref d),some (.bl g),o4,o5]∧af H H'∧H' D=some (.lst (rs.map V.ref))∧cy H' rs (FL.map b7)∧bK H' d M' qs'∧(∀ q∈qs',H q=none)∧dP (lkB ss bs) (bs.map (·.1)) so M'∧(∀ e∈bw M',e∈bw M∨e∈FL.take k)∧(g=true→M.length < M'.length)∧(g=false→M'=M∧∀ e∈FL.take k,ip (lkB ss bs) (bs.map (·.1)) M e)) ⟨M,qs,false,o4,o5,rfl,S5,hDl,hrs5,hM5,hq0,J,fun e he=>.inl he,(fun h=>by cases h),fun _=>⟨rfl,fun e he=>by rw[List.take_zero] at he;cases he⟩⟩ ?_ ?_ ?_
     · rintro k σ' H' _ ⟨M',qs',g,o4,o5,rfl,_,hD',_⟩ b o e
       dsimp only at e
       split at e
       · rename_i hb;cases e;rw[hb];exact hD'
       · cases e
     · rintro k y σ' H' hk hy ⟨M',qs',g,o4,o5,rfl,S6,hD',hrs',hM',hq',J',hin,hgt,hgn⟩ R2 hR2
       rw[List.length_map] at hk
       rw[List.getElem?_map] at hy
       obtain⟨r,hr,rfl⟩:=Option.map_eq_some_iff.mp hy
       obtain⟨e,he⟩:∃ e,FL[k]?=some e:=⟨_,List.getElem?_eq_getElem (by omega)⟩
       have hrt:=hrs'.2 k r (b7 e) hr (by rw[List.getElem?_map,he];rfl)
       obtain⟨heP,heM⟩:=hFm e (List.mem_of_getElem? he)
       have heN:e∉bw M':=fun h=>by
         rcases hin e h with h | h
         · exact heM h
         · obtain⟨j,hj⟩:=List.getElem?_of_mem h
           rw[List.getElem?_take] at hj
           by_cases hjk:j < k
           · rw[if_pos hjk] at hj
             obtain⟨h1,e1⟩:=List.getElem?_eq_some_iff.mp hj
             obtain⟨h2,e2⟩:=List.getElem?_eq_some_iff.mp he
             exact List.pairwise_iff_getElem.mp hFn j k h1 h2 hjk (e1.trans e2.symm)
           · rw[if_neg hjk] at hj;cases hj
       walk_at "dm"
       have hJ6':=J'.l66 (by omega:so.length≤12)
       refine aW (fun σ2 H2=>af H' H2∧((σ2=[some (.ref x),some (.ref l),some (.ref d),some (.bl g),some (.ref r),some .non]∧ip (lkB ss bs) (bs.map (·.1)) M' e)∨∃ rw p,σ2=[some (.ref x),some (.ref l),some (.ref d),some (.bl g),some (.ref r),some (.ref p)]∧Joins (lkB ss bs) (bs.map (·.1)) M' e rw∧H' p=none∧H2 p=some (.lst (rw.map V.str)))) (fun R3 hR3=>?_) ?_
       · walk_at "dm"
         exact⟨x,r,d,ss,bs,so,e,M',qs',rfl,af.book S6 hbk,B,hpm,hso,hrt,heP,hM',J',fun H2 hA S7=>hR3 _ _ ⟨S7,.inl ⟨rfl,hA⟩⟩,fun rw p H2 hJ hp S7 h=>hR3 _ _ ⟨S7,.inr ⟨rw,p,rfl,hJ,hp,h⟩⟩⟩
       rintro σ2 H2 ⟨S7,hc⟩
       rcases hc with ⟨rfl,hA⟩ | ⟨rw,p,rfl,hJ,hp,hp2⟩
       · walk_at "dm"
         refine aV (fun h=>absurd trivial h) (fun _=>hR2 _ _ ⟨M',qs',g,_,_,rfl,S6.trans S7,S7 _ _ hD',hrs'.same S7,hM'.same S7,hq',J',fun e2 h=>(hin e2 h).imp id fun h=>?_,hgt,fun hg=>⟨(hgn hg).1,fun e2 h=>?_⟩⟩)
         · rw[bx he];exact List.mem_append_left _ h
         · rw[bx he] at h
           rcases List.mem_append.mp h with h | h
           · exact(hgn hg).2 e2 h
           · rw[List.mem_singleton.mp h,←(hgn hg).1];exact hA
       · walk_at "dm"
         obtain⟨H8,hP8,hM8,hk8⟩:=(hM'.same S7).put (p:=e) (r:=rw) (S7 _ _ hrt) heN hp2 (by rw[sizeLine_eq];omega)
         have S8:af H H8:=fun b o hb=>by
           have hbd:b≠d:=fun z=>by rw[z,hd] at hb;cases hb
           rw[hk8 b hbd];exact(S6.trans S7) b o hb
         have nd:∀ {c o},H2 c=some o→(∀ kvs,o≠.dT kvs)→c≠d:=fun {c o} h1 h2 z=>by
           rw[z,(hM'.same S7).1] at h1;cases h1;exact h2 _ rfl
         have hD8:H8 D=some (.lst (rs.map V.ref)):=by rw[hk8 D (nd (S7 _ _ hD') fun _ h=>by cases h)];exact S7 _ _ hD'
         have hrs8:cy H8 rs (FL.map b7):=⟨hrs'.1,fun i q f hq hf=>by
           have h:=S7 _ _ (hrs'.2 i q f hq hf)
           rw[hk8 q (nd h fun _ h=>by cases h)];exact h⟩
         refine aV (fun _=>⟨H8,hP8,hR2 _ _ ⟨M'++[(e,rw)],qs'++[p],true,_,_,rfl,S8,hD8,hrs8,hM8,fun q hq=>?_,J'.put heP heN hJ,fun e2 h=>?_,fun _=>?_,fun h=>by cases h⟩⟩) (fun h=>absurd (fun z=>by cases z) h)
         · rcases List.mem_append.mp hq with hq | hq
           · exact hq' q hq
           · rw[List.mem_singleton.mp hq];exact S6.free hp
         · rw[bw,List.map_append] at h
           rw[bx he]
           rcases List.mem_append.mp h with h | h
           · exact(hin e2 h).imp id fun h=>List.mem_append_left _ h
           · rw[List.map_singleton] at h
             exact .inr (List.mem_append_right _ h)
         · rw[List.length_append,List.length_singleton]
           cases g with
           | true=>have:=hgt rfl;omega
           | false=>rw[(hgn rfl).1];omega
     · rintro σ' H' ⟨M',qs',g,o4,o5,rfl,S6,hD',hrs',hM',hq',J',hin,hgt,hgn⟩
       refine⟨_,?_,(hWp _ _ _).mpr ⟨M',qs',g,_,_,rfl,S6,hM',hq',J',rfl,fun hg pr h1 h2=>?_⟩⟩
       · have hJ6':=J'.l66 (by omega:so.length≤12)
         rw[hm]
         cases g with
         | true=>have:=hgt rfl;rw[if_pos rfl];omega
         | false=>rw[(hgn rfl).1,if_neg Bool.false_ne_true];omega
       · obtain⟨e1,h3⟩:=hgn hg
         subst e1
         refine h3 pr ?_
         rw[List.length_map,hrl,List.take_length,hFL,List.mem_filter]
         exact⟨h1,by rw[decide_eq_false h2];rfl⟩
   rintro σ3 H3 ⟨M,qs,o3,o4,o5,rfl,S3,hM,hq0,J,hA⟩
   walk_at "dm"
   exact q d M qs _ hd S3 hM hq0 J hA
end

section
variable {P:Program}{w:World}{K:PySem.W.Frag}{mg:Str→Option Value}{base:Heap}
def oX (CB:Addr):Sp:=fun vs H Q _=>∃ (x d:Addr)(ss:List Str)(bs:List (Str×List Str))(so:List Str)(M:cG)(qs:List Addr),vs=[.ref x,.ref d]∧bg H CB x ss bs∧aO ss bs∧so.Perm ss∧so.Pairwise ltN∧bK H d M qs∧dP (lkB ss bs) (bs.map (·.1)) so M∧(∀ pr∈b6 so,pr∈bw M) ∧
 ∀ R z t r H',OkR (bs.map (·.1)) R→R.length≤1000→(∀ y∈ss,bX (lkB ss bs) R y=z)→z∈ss→af H H'→H r=none→H' t=some (.tup [.ref r,.str z])→H' r=some (.lst (R.map V.str))→Q (.ref t) H'
theorem vf {f:Str→Str}{a b:Str}{T:List Str}(h:f a=f b):(dk ((a::b::T).map f)).length < (a::b::T).length:=by
 have h1:=jK (m:=(b::T).map f) (g7 ((a::b::T).map f)) fun x hx=>by
   rw[pw] at hx
   rw[List.map_cons] at hx
   rcases List.mem_cons.mp hx with rfl | hx
   · rw[h];exact List.mem_cons_self
   · exact hx
 rw[List.length_map] at h1
 rw[List.length_cons]
 omega
theorem bK.there {H:Hp}{d:Addr}{M:cG}{ps:List Addr}(h:bK H d M ps){p:Addr}(hp:p∈ps):∃ o,H p=some o:=by
 obtain⟨i,hi⟩:=List.getElem?_of_mem hp
 exact⟨_,h.2.2 i p _ hi (List.getElem?_eq_getElem (by rw[←h.2.1];exact(List.getElem?_eq_some_iff.mp hi).1))⟩

theorem fZ:au ["book", "rows", "row", "shades", "part"] ["book", "rows"] (ae fU):=⟨rfl,rfl,rfl,by decide +kernel,rfl,by decide +kernel,by decide +kernel⟩
theorem sX {f fMS fWk:Addr}{fd fdMS fdWk:FuncData}{CB:Addr}(F:Fun K "joined" "joined" fU f fd)
   (T:Txt mg)(cB:Cls K CB)
   (GMS:aw P w K mg base CX0 1 fMS fdMS ["self"] (gz CB))(hmMS:bZ K CB "shades" fMS)(bMS:az K fdMS ["self"] [])
   (GWk:aw P w K mg base CX0 3 fWk fdWk ["book", "row", "shade"] (vc K CB))(kWk:PySem.W.keepIn K (.ref fWk)=true)(bWk:az K fdWk ["book", "row", "shade"] [])(mWk:mg "walk"=some (.ref fWk)) :
   aw P w K mg base CX0 4 f fd ["book", "rows"] (oX CB):=by
 refine F.ok fZ (fun vs H Q E h=>?_) (fun cdv A outer s H vs Q E hr h=>?_)
 · obtain⟨_,_,_,_,_,_,_,rfl,_⟩:=h
   rfl
 · obtain⟨x,d,ss,bs,so,M,qs,rfl,hbk,B,hpm,hso,hM,J,hall,q⟩:=h
   have hu:(cr CX0 P w K mg base ["book", "rows", "row", "shades", "part"] "joined" (ae fU) f cdv A outer s H E).A.units+1 < cLine:=by
     have:=hr.units
     exact Nat.lt_of_le_of_lt (Nat.add_le_add_left (by decide) _) this
   have hr1:=hr.mono (j:=1) (by omega)
   have hr3:=hr.mono (j:=3) (by omega)
   refine⟨_,(aj (ay (i:=2) fZ.nd rfl (Or.inl rfl) (bp ad))
     (aj (ay (i:=3) fZ.nd rfl (Or.inl rfl) (eE (pv 0) cB hmMS GMS hr1 bMS .nil aH))
     (aj (lh PassesOwn.never (aF iE (al aE (by rfl) T.len PySem.boot_len (aa (pv 3) ad)) ah (aM _)) (aj (ay (i:=4) fZ.nd rfl (Or.inr rfl) (ca hu (pv 1) (de (aa (aK aG (pv 3) ah (fun _ _=>rfl)) (aa (aK aG (pv 3) ah (fun _ _=>rfl)) ad))) (fun _ _=>rfl)))
     (aj (aU (cX PySem.F.plainAttrs_list PySem.F.slot_list_extend PySem.F.type_list_extend lG (pv 2) (aa (pv 4) ad)))
     (ag (ay (i:=3) fZ.nd rfl (Or.inl rfl) (al (ni rfl) (by rfl) T.sorted (by decide +kernel) (aa (aZ (rT rfl) (by rfl) T.set (by decide +kernel) (aa (cM (N':=["shade", "book", "part"]) (pk:=[none,some 0,some 4]) rfl (cc.of (by rfl)) (aQ (pv 3)) (fun s H ex=>(ao (i:=0) (by show(["shade", "book", "part"]:List Str).Nodup;decide +kernel) rfl (Or.inl rfl))) (fun s H ex=>(aK (aG:IxR _ (qu K)) (aq GWk hr3 rfl mWk kWk bWk .nil aH (aa (pv 1) (aa (pv 2) (aa (pv 0) ad)))) (k6 g8 ah) (fun _ _=>rfl)))) ad)) ad)))))))
     (ag (ar (de (aa (pv 2) (aa (aK aG (pv 3) ah (fun _ _=>rfl)) ad)))))))),?_⟩
   have hs:=aP
   have hs12:=B.s12
   have hs1:=B.s1
   have hsl:so.length=ss.length:=hpm.length_eq
   have hbk0:=hbk
   obtain⟨dx,bt,bd,bo,hi1,hi2,hi3,hi4,hi5⟩:=hbk
   refine aW (fun σ' H'=>∃ r,H r=none∧σ'=[some (.ref x),some (.ref d),some (.ref r),none,none]∧H'=upd H r (.lst [])) (fun R hR=>?_) ?_
   · walk_at "dm"
     exact⟨by omega,fun p hp=>hR _ _ ⟨p,hp,rfl,rfl⟩⟩
   rintro σ1 H1 ⟨r,hr0,rfl,rfl⟩
   have S1:=af.updN (o:=.lst []) hr0
   have hr1:upd H r (.lst []) r=some (.lst []):=ac
   generalize upd H r (.lst [])=H1 at *
   refine aW (fun σ' H'=>∃ lT,σ'=[some (.ref x),some (.ref d),some (.ref r),some (.ref lT),none]∧af H1 H'∧H' lT=some (.lst (so.map V.str))∧r≠lT) (fun R hR=>?_) ?_
   · walk_at "dm"
     refine⟨dx,_,S1 _ _ hi1,bU (by decide +kernel) (by decide +kernel),x,ss,bs,rfl,af.book S1 hbk0,B,fun l so2 hl hpm2 hso2=>?_⟩
     have e:so2=so:=List.Perm.eq_of_pairwise (le:=ltN) (fun a b _ _ h1 h2=>absurd (tM h1 h2) gp) (iU hso2 (hpm2.nodup_iff.mpr B.snd)) hso (hpm2.trans hpm.symm)
     subst e
     exact hR _ _ ⟨l,rfl,af.updN hl,ac,ak hr1 hl⟩
   rintro σ2 H2 ⟨lT,rfl,S2,hlT,hne⟩
   refine aW (fun σ' H'=>∃ (R:List Str) (z:Str)(lT:Addr)(o4:Option V),σ'=[some (.ref x),some (.ref d),some (.ref r),some (.ref lT),o4]∧af H H'∧H' r=some (.lst (R.map V.str))∧H' lT=some (.lst [V.str z])∧z∈so∧OkR (bs.map (·.1)) R∧R.length≤1000∧∀ y∈so,bX (lkB ss bs) R y=z) (fun R0 hR0=>?_) ?_
   · unfold qm
     obtain⟨Wp,hWp⟩:∃ Wp:Nat→St→Hp→Prop,∀ m σ' H',Wp m σ' H'↔∃ (R T:List Str)(lT:Addr)(o4:Option V),σ'=[some (.ref x),some (.ref d),some (.ref r),some (.ref lT),o4]∧af H H'∧H' r=some (.lst (R.map V.str))∧H' lT=some (.lst (T.map V.str))∧r≠lT∧T.Pairwise ltN∧(∀ y∈T,y∈so)∧1≤T.length∧OkR (bs.map (·.1)) R∧R.length+66*T.length≤792∧(∀ y∈so,bX (lkB ss bs) R y∈T)∧m=T.length:=⟨_,fun _ _ _=>Iff.rfl⟩
     refine⟨Wp,⟨_,(hWp _ _ _).mpr ⟨[],so,lT,none,rfl,S1.trans S2,S2 _ _ hr1,hlT,hne,hso,fun _ h=>h,by omega,(fun _ h=>by cases h),by simp only[List.length_nil];omega,fun y hy=>hy,rfl⟩⟩,?_⟩
     intro m σ' H3 hw
     obtain⟨R,T,lT,o4,rfl,S3,hr3,hT3,hne3,hTp,hTs,hT1,hRo,hRl,hRT,hm⟩:=(hWp _ _ _).mp hw
     walk_at "dm"
     refine⟨_,.inl (SqL.of hT3),aV (fun hgt=>?_) (fun hle=>?_)⟩
     · refine⟨fun σ' H'=>∃ m',m' < m∧Wp m' σ' H',fun _ _ h=>h,?_⟩
       rw[List.length_map] at hgt
       match T,hgt,hT3,hTp,hTs,hRT,hm,hRl with
       | a::b::T,_,hT3,hTp,hTs,hRT,hm,hRl =>
       have hab:ltN a b:=(List.pairwise_cons.mp hTp).1 b List.mem_cons_self
       have hpr:(a,b)∈b6 so:=(dI hso).mpr ⟨hTs a List.mem_cons_self,hTs b (List.mem_cons_of_mem _ List.mem_cons_self),hab⟩
       refine aW (fun σ' H'=>∃ (q:Addr)(rw:List Str),σ'=[some (.ref x),some (.ref d),some (.ref r),some (.ref lT),some (.ref q)]∧af H3 H'∧H' q=some (.lst (rw.map V.str))∧((a,b),rw)∈M∧q≠r) (fun R1 hR1=>?_) ?_
       · walk_at "dm"
         refine⟨_,SqL.of hT3,_,(eS (j:=0) (v:=V.str a) rfl:atI ((a::b::T).map V.str) 0=_),_,SqL.of hT3,_,(eS (j:=1) (v:=V.str b) rfl:atI ((a::b::T).map V.str) 1=_),by omega,fun p hp=>?_⟩
         have SG:=af.updN (o:=.tup (b7 (a,b))) hp
         obtain⟨q,rw,hrw,g1,g2,hqq⟩:=(hM.same (S3.trans SG)).get J.nd (p:=(a,b)) ac (hall _ hpr)
         refine⟨_,g1,hR1 _ _ ⟨q,rw,rfl,SG,g2,hrw,fun e=>?_⟩⟩
         obtain⟨o,ho⟩:=hM.there hqq
         rw[e,hr0] at ho
         cases ho
       rintro σ4 H4 ⟨q,rw,rfl,S4,hq4,hrw,hqr⟩
       refine aW (fun σ' H'=>σ'=[some (.ref x),some (.ref d),some (.ref r),some (.ref lT),some (.ref q)]∧af H H'∧H' r=some (.lst ((R++rw).map V.str))∧H' lT=some (.lst ((a::b::T).map V.str))∧H' q=some (.lst (rw.map V.str))) (fun R1 hR1=>?_) ?_
       · walk_at "dm"
         have h1:=J.len _ hrw
         have h2:=J.l66 (by omega:so.length≤12)
         have h3:rw.length≤66:=Nat.le_trans h1 h2
         exact⟨.inl ⟨rfl,_,SqL.of (S4 _ _ hr3)⟩,_,S4 _ _ hr3,_,hq4,by rw[List.length_map,List.length_map,sizeLine_eq];omega,hR1 _ _ ⟨rfl,(S3.trans S4).step hr0,by rw[ac,List.map_append],by rw[ai hne3.symm];exact S4 _ _ hT3,by rw[ai hqr];exact hq4⟩⟩
       rintro σ5 H5 ⟨rfl,S5,hr5,hT5,hq5⟩
       walk_at "dm"
       have h1:=J.len _ hrw
       have h2:=J.l66 (by omega:so.length≤12)
       have h3:rw.length≤66:=Nat.le_trans h1 h2
       obtain⟨hwo,hwe⟩:=J.row _ hrw
       have hT12:(a::b::T).length≤12:=by
         have:=jK (hTp.imp fun {u v} k=>(fun e=>by rw[e] at k;exact gp k:u≠v)) hTs
         omega
       refine⟨⟨_,SqL.of hT5⟩,fun D hD=>?_⟩
       have hcl:=gh (dh B) rw
       refine oZ (ax (SqL.of hT5)) (by rw[List.length_map,sizeLine_eq];omega) hD (fun σ=>∃ o,σ=[o,some (.ref x),some (.ref q)]) (fun j v _=>∃ y,(a::b::T)[j]?=some y∧v=.str (bX (lkB ss bs) rw y)) (fun _ _ _ _ _ h=>h) ⟨none,rfl⟩ ?_ ?_
       · rintro j z σ' H' hj hz ⟨o,rfl⟩ S6 hD3 R4 hR4
         rw[List.getElem?_map] at hz
         obtain⟨y,hy,rfl⟩:=Option.map_eq_some_iff.mp hz
         have hys:y∈ss:=hpm.mem_iff.mp (hTs y (List.mem_of_getElem? hy))
         walk_at "dm"
         refine⟨x,q,ss,bs,rw,y,rfl,af.book (S5.trans S6) hbk0,B,SqL.of (S6 _ _ hq5),hwo,by omega,hys,fun p H2 hp S7 hp2=>⟨p,rfl,_,SqL.of hp2,_,lg _,?_⟩⟩
         rw[List.take_length]
         exact hR4 _ _ _ ⟨_,rfl⟩ S7 ⟨y,hy,rfl⟩
       · intro us H6 S6 hD6 hul hus
         rw[List.length_map] at hul
         have eus:us=(((a::b::T).map (bX (lkB ss bs) rw)).map V.str):=by
           refine List.ext_getElem? fun i=>?_
           by_cases hi:i < us.length
           · have hi1:=List.getElem?_eq_getElem hi
             obtain⟨y,h1,h2⟩:=hus i _ hi1
             rw[hi1,h2,List.getElem?_map,List.getElem?_map,h1]
             rfl
           · rw[List.getElem?_eq_none_iff.mpr (by omega),List.getElem?_eq_none_iff.mpr (by rw[List.length_map,List.length_map];omega)]
         rw[eus] at hD6
         have hml:=u6 ((a::b::T).map (bX (lkB ss bs) rw))
         rw[List.length_map] at hml
         refine⟨_,SqL.of hD6,by rw[List.length_map];omega,fun p hp=>⟨_,ac,g7 _,by omega,fun p1 T2 hp1 hpm2 hso2=>?_⟩⟩
         have SS:=(S6.trans (af.updN (o:=ui P w p (dk ((a::b::T).map (bX (lkB ss bs) rw)))) hp)).trans (af.updN (o:=.lst (T2.map V.str)) hp1)
         have hless:=vf (f:=bX (lkB ss bs) rw) (T:=T) hwe
         rw[←hpm2.length_eq] at hless
         have hmem:∀ y,y∈T2↔y∈(a::b::T).map (bX (lkB ss bs) rw):=fun y=>by rw[hpm2.mem_iff,pw]
         refine⟨T2.length,by rw[hm];exact hless,(hWp _ _ _).mpr ⟨R++rw,T2,p1,_,rfl,S5.trans SS,SS _ _ hr5,ac,fun e=>?_,iU hso2 (hpm2.nodup_iff.mpr (g7 _)),fun y hy=>?_,?_,hRo.app hwo,?_,fun y hy=>?_,rfl⟩⟩
         · have:=(S6.trans (af.updN (o:=ui P w p (dk ((a::b::T).map (bX (lkB ss bs) rw)))) hp)) _ _ hr5
           rw[e] at this
           exact absurd (this.symm.trans hp1) (fun z=>by cases z)
         · obtain⟨z,hz,rfl⟩:=List.mem_map.mp ((hmem y).mp hy)
           exact hpm.mem_iff.mpr (hcl z hwo (hpm.mem_iff.mp (hTs z hz)))
         · exact List.length_pos_of_mem ((hmem _).mpr (List.mem_map_of_mem (List.mem_cons_self (a:=a))))
         · rw[List.length_append]
           simp only[List.length_cons] at hless hRl ⊢
           omega
         · rw[uM]
           exact(hmem _).mpr (List.mem_map_of_mem (hRT y hy))
     · rw[List.length_map] at hle
       obtain⟨z,rfl⟩:∃ z,T=[z]:=by
         match T,hle,hT1 with
         | [z],_,_=>exact⟨z,rfl⟩
         | a::b::T,h,_=>exact absurd (show(1:Int) < ((a::b::T).length:Nat) by simp only[List.length_cons];omega) h
       exact hR0 _ _ ⟨R,z,lT,_,rfl,S3,hr3,hT3,hTs z List.mem_cons_self,hRo,by omega,fun y hy=>List.mem_singleton.mp (hRT y hy)⟩
   rintro σ3 H3 ⟨R,z,lT,o4,rfl,S3,hr3,hT3,hz,hRo,hRl,hRe⟩
   walk_at "dm"
   refine⟨_,SqL.of hT3,_,rfl,by omega,fun p hp=>?_⟩
   have Sp:=af.updN (o:=.tup [.ref r,.str z]) hp
   exact q R z p r _ hRo hRl (fun y hy=>hRe y (hpm.mem_iff.mpr hy)) (hpm.mem_iff.mp hz) (S3.trans Sp) hr0 ac (Sp _ _ hr3)
end

section
variable {P:Program}{w:World}{K:PySem.W.Frag}{mg:Str→Option Value}{base:Heap}
structure iO (lk:Str→Str→Str)(ns ss:List Str)(L:List (Str×Str)):Prop where
 ne:L≠[]
 nd:L.Nodup
 mem:∀ e∈L,e.1∈ss∧e.2∈ss∧ltN e.1 e.2
 out:∀ e∈L,∀ n∈ns,lk n e.1≠lk n e.2∧f9 (lk n e.1) (lk n e.2)∈L
 len:L.length≤66
def k4 (CB:Addr):Sp:=fun vs H Q _=>∃ (x:Addr)(ss:List Str)(bs:List (Str×List Str)),vs=[.ref x]∧bg H CB x ss bs∧aO ss bs ∧
 (∀ R z t r H',OkR (bs.map (·.1)) R→R.length≤1000→(∀ y∈ss,bX (lkB ss bs) R y=z)→z∈ss→af H H'→H r=none→H' t=some (.tup [.ref r,.str z])→H' r=some (.lst (R.map V.str))→Q (.ref t) H') ∧
 (∀ L rs t l H',iO (lkB ss bs) (bs.map (·.1)) ss L→af H H'→H l=none→H' t=some (.tup [.non,.ref l])→H' l=some (.lst (rs.map V.ref))→cy H' rs (L.map b7)→Q (.ref t) H')

theorem fq:au ["book", "pairs", "rows", "apart"] ["book"] (ae dr):=⟨rfl,rfl,rfl,by decide +kernel,rfl,by decide +kernel,by decide +kernel⟩
theorem nI {f fMS fAP fJS fJD:Addr}{fd fdMS fdAP fdJS fdJD:FuncData}{CB:Addr}(F:Fun K "all_to_one" "all_to_one" dr f fd)
   (T:Txt mg)(cB:Cls K CB)
   (GMS:aw P w K mg base CX0 1 fMS fdMS ["self"] (gz CB))(hmMS:bZ K CB "shades" fMS)(bMS:az K fdMS ["self"] [])
   (GAP:aw P w K mg base CX0 1 fAP fdAP ["shades"] (kU K))(kAP:PySem.W.keepIn K (.ref fAP)=true)(bAP:az K fdAP ["shades"] [])(mAP:mg "all_pairs"=some (.ref fAP))
   (GJS:aw P w K mg base CX0 4 fJS fdJS ["book", "pairs"] (rq CB))(kJS:PySem.W.keepIn K (.ref fJS)=true)(bJS:az K fdJS ["book", "pairs"] [])(mJS:mg "joining_rows"=some (.ref fJS))
   (GJD:aw P w K mg base CX0 4 fJD fdJD ["book", "rows"] (oX CB))(kJD:PySem.W.keepIn K (.ref fJD)=true)(bJD:az K fdJD ["book", "rows"] [])(mJD:mg "joined"=some (.ref fJD)) :
   aw P w K mg base CX0 5 f fd ["book"] (k4 CB):=by
 refine F.ok fq (fun vs H Q E h=>?_) (fun cdv A outer s H vs Q E hr h=>?_)
 · obtain⟨_,_,_,rfl,_⟩:=h
   rfl
 · obtain⟨x,ss,bs,rfl,hbk,B,q1,q2⟩:=h
   have hu:(cr CX0 P w K mg base ["book", "pairs", "rows", "apart"] "all_to_one" (ae dr) f cdv A outer s H E).A.units+1 < cLine:=by
     have:=hr.units
     exact Nat.lt_of_le_of_lt (Nat.add_le_add_left (by decide) _) this
   have hr1:=hr.mono (j:=1) (by omega)
   have hr4:=hr.mono (j:=4) (by omega)
   refine⟨_,(aj (ay (i:=1) fq.nd rfl (Or.inl rfl) (aq GAP hr1 rfl mAP kAP bAP .nil aH (aa (eE (pv 0) cB hmMS GMS hr1 bMS .nil aH) ad)))
     (aj (ay (i:=2) fq.nd rfl (Or.inr rfl) (aq GJS hr4 rfl mJS kJS bJS .nil aH (aa (pv 0) (aa (pv 1) ad))))
     (aj (uD (i:=3) (N':=["pair", "rows"]) (pk:=[none,some 2]) fq.nd rfl (Or.inl rfl) rfl (cc.of (by rfl)) (aQ (pv 1)) (fun s H ex=>(ao (i:=0) (by show(["pair", "rows"]:List Str).Nodup;decide +kernel) rfl (Or.inl rfl))) (fun s H ex=>(e7 (dz hu (pv 0) (pv 1)))) (fun s H ex=>(pv 0)))
     (aj (aR (aF iE (al aE (by rfl) T.len PySem.boot_len (aa (pv 3) ad)) ah (aM _)) (ag (ar (de (aa nk (aa (pv 3) ad))))) aB)
     (ag (ar (aq GJD hr4 rfl mJD kJD bJD .nil aH (aa (pv 0) (aa (pv 2) ad))))))))),?_⟩
   have hs:=aP
   have hs12:=B.s12
   have hbk0:=hbk
   obtain⟨dx,bt,bd,bo,hi1,hi2,hi3,hi4,hi5⟩:=hbk
   refine aW (fun σ' H'=>∃ lp ps so,σ'=[some (.ref x),some (.ref lp),none,none]∧af H H'∧so.Perm ss∧so.Pairwise ltN∧H' lp=some (.lst (ps.map V.ref))∧cy H' ps ((b6 so).map b7)) (fun R hR=>?_) ?_
   · walk_at "dm"
     refine⟨dx,_,hi1,bU (by decide +kernel) (by decide +kernel),x,ss,bs,rfl,hbk0,B,fun l so hl hpm hso=>?_⟩
     have S1:=af.updN (o:=.lst (so.map V.str)) hl
     have hslt:=iU hso (hpm.nodup_iff.mpr B.snd)
     exact⟨l,so,rfl,SqL.of ac,by rw[hpm.length_eq];exact hs12,fun p ps H' hp S2 hpl hT=>hR _ _ ⟨p,ps,so,rfl,S1.trans S2,hpm,hslt,hpl,hT⟩⟩
   rintro σ1 H1 ⟨lp,ps,so,rfl,S1,hpm,hso,hlp,hT⟩
   have hsl:so.length=ss.length:=hpm.length_eq
   refine aW (fun σ' H'=>∃ d M qs,σ'=[some (.ref x),some (.ref lp),some (.ref d),none]∧af H1 H'∧bK H' d M qs∧dP (lkB ss bs) (bs.map (·.1)) so M∧∀ pr∈b6 so,pr∉bw M→ip (lkB ss bs) (bs.map (·.1)) M pr) (fun R hR=>?_) ?_
   · walk_at "dm"
     exact⟨x,lp,ss,bs,so,ps,rfl,af.book S1 hbk0,B,hpm,hso,hlp,hT,fun d M qs H' hd S2 hM _ J hA=>hR _ _ ⟨d,M,qs,rfl,S2,hM,J,hA⟩⟩
   rintro σ2 H2 ⟨d,M,qs,rfl,S2,hM,J,hA⟩
   have hT2:=hT.same S2
   have h66:=jG (l:=so) (by omega)
   have hpl:ps.length=(b6 so).length:=by rw[hT.1,List.length_map]
   obtain⟨FL,hFL⟩:∃ FL,FL=(b6 so).filter fun e=>!decide (e∈bw M):=⟨_,rfl⟩
   refine aW (fun σ' H'=>∃ D rs,σ'=[some (.ref x),some (.ref lp),some (.ref d),some (.ref D)]∧af H2 H'∧H2 D=none∧H' D=some (.lst (rs.map V.ref))∧cy H' rs (FL.map b7)) (fun R hR=>?_) ?_
   · walk_at "dm"
     refine⟨⟨_,SqL.of (S2 _ _ hlp)⟩,fun D hD=>?_⟩
     refine gU (ax (SqL.of (S2 _ _ hlp))) (by rw[List.length_map,sizeLine_eq];omega) hD (fun σ=>∃ o,σ=[o,some (.ref d)]) (fun i=>match (b6 so)[i]? with | some e=>!decide (e∈bw M) | none=>false) (fun i=>match ps[i]? with | some p=>.ref p | none=>.non) ⟨none,rfl⟩ ?_ ?_
     · rintro i y σ' H' hi hy ⟨o,rfl⟩ S5 R1 R0 hR1 hR0
       rw[List.length_map] at hi
       rw[List.getElem?_map] at hy
       obtain⟨p,hp,rfl⟩:=Option.map_eq_some_iff.mp hy
       obtain⟨e,he⟩:∃ e,(b6 so)[i]?=some e:=⟨_,List.getElem?_eq_getElem (by omega)⟩
       have htp:=S5 _ _ (hT2.2 i p (b7 e) hp (by rw[List.getElem?_map,he];rfl))
       rw[he,hp] at hR1
       rw[he] at hR0
       dsimp only at hR1 hR0
       walk_at "dm"
       by_cases hk:e∈bw M
       · obtain⟨q,r,_,g1,_,_⟩:=(hM.same S5).get J.nd (p:=e) htp hk
         refine⟨_,g1,aV (fun h=>?_) (fun _=>hR0 (by rw[decide_eq_true hk];rfl) _ ⟨_,rfl⟩)⟩
         simp at h
       · refine⟨none,(hM.same S5).none (p:=e) htp hk,aV (fun h=>hR1 (by rw[decide_eq_false hk];rfl) _ ⟨_,rfl⟩) (fun h=>?_)⟩
         simp at h
     rw[List.length_map]
     obtain⟨rs,ers,hrs⟩:=jh (k:=ps.length) hT2 (fun e=>!decide (e∈bw M)) (bt:=fun i=>match (b6 so)[i]? with | some e=>!decide (e∈bw M) | none=>false) (out:=fun i=>match ps[i]? with | some p=>.ref p | none=>.non) (fun i e h=>by rw[h]) (fun i p h=>by rw[h]) (Nat.le_refl _)
     rw[ers]
     rw[hpl,List.take_length] at hrs
     rw[←hFL] at hrs
     have SD:=af.updN (o:=.lst (rs.map V.ref)) hD
     exact hR _ _ ⟨D,rs,rfl,SD,hD,ac,hrs.same SD⟩
   rintro σ3 H3 ⟨D,rs,rfl,S3,hD0,hD,hrs⟩
   have hrl:rs.length=FL.length:=by rw[hrs.1,List.length_map]
   have S12:=S1.trans S2
   have S13:=S12.trans S3
   refine aW (fun σ' H'=>σ'=[some (.ref x),some (.ref lp),some (.ref d),some (.ref D)]∧H'=H3∧FL=[]) (fun R hR=>?_) ?_
   · walk_at "dm"
     refine⟨_,.inl (SqL.of hD),?_⟩
     rw[List.length_map,hrl]
     refine aV (fun hgt=>⟨by omega,fun t ht=>?_⟩) (fun hle=>hR _ _ ⟨rfl,rfl,List.length_eq_zero_iff.mp (by omega)⟩)
     have St:=af.updN (o:=.tup [.non,.ref D]) ht
     have hmem:∀ e,e∈FL↔e∈b6 so∧e∉bw M:=fun e=>by rw[hFL,List.mem_filter];simp
     refine q2 FL rs t D _ ⟨fun e=>by rw[e] at hgt;simp at hgt,by rw[hFL];exact(gT hso).filter _,fun e he=>?_,fun e he n hn=>?_,?_⟩ (S13.trans St) (S12.free hD0) ac (St _ _ hD) (hrs.same St)
     · have:=(dI hso).mp (show(e.1,e.2)∈b6 so from((hmem e).mp he).1)
       exact⟨hpm.mem_iff.mp this.1,hpm.mem_iff.mp this.2.1,this.2.2⟩
     · obtain⟨h1,h2⟩:=(hmem e).mp he
       have hm:=(dI hso).mp (show(e.1,e.2)∈b6 so from h1)
       obtain⟨a1,a2⟩:=hA e h1 h2 n hn
       have c1:=dh B n hn e.1 (hpm.mem_iff.mp hm.1)
       have c2:=dh B n hn e.2 (hpm.mem_iff.mp hm.2.1)
       exact⟨a1,(hmem _).mpr ⟨tR hso (hpm.mem_iff.mpr c1) (hpm.mem_iff.mpr c2) a1,a2⟩⟩
     · have:=List.length_filter_le (fun e=>!decide (e∈bw M)) (b6 so)
       rw[←hFL] at this
       omega
   rintro σ4 H4 ⟨rfl,rfl,hF0⟩
   have hall:∀ pr∈b6 so,pr∈bw M:=fun pr hp=>Classical.byContradiction fun c=>by
     have:pr∈FL:=by rw[hFL,List.mem_filter];exact⟨hp,by rw[decide_eq_false c];rfl⟩
     rw[hF0] at this
     cases this
   walk_at "dm"
   exact⟨x,d,ss,bs,so,M,qs,rfl,af.book S13 hbk0,B,hpm,hso,hM.same S3,J,hall,fun R z t r H' hRo hRl hRe hz S5 hr0 ht hr5=>q1 R z t r _ hRo hRl hRe hz (S13.trans S5) (S13.free hr0) ht hr5⟩
end

section
variable {P:Program}{w:World}{K:PySem.W.Frag}{mg:Str→Option Value}{base:Heap}
def pe (K:PySem.W.Frag):Sp:=fun vs H Q _=>∃ (t lo d r:Addr)(so ss ns row:List Str)(lk:Str→Str→Str) (z:Str),vs=[.ref t,.ref lo,.ref d]∧H t=some (.tup [.ref r,.str z])∧H r=some (.lst (row.map V.str))∧SqL K H lo (so.map V.str)∧so.Perm ss∧so.length≤12∧nA H d ss ns lk∧(∀ n∈ns,∀ z∈ss,lk n z∈ss)∧OkR ns row∧row.length≤1000∧(∀ y∈ss,bX lk row y=z)∧∀ H',af H H'→Q (.bl true) H'

theorem rK:au ["_law_found", "_law_order", "_law_tables_here", "_law_shade"] ["_law_found", "_law_order", "_law_tables_here"] (ae iZ):=⟨rfl,rfl,rfl,by decide +kernel,rfl,by decide +kernel,by decide +kernel⟩
theorem uV {f fLo fAE:Addr}{fd fdLo fdAE:FuncData}(F:Fun K "_law_to_one" "_law_to_one" iZ f fd)
   (T:Txt mg)
   (GLo:aw P w K mg base CX0 1 fLo fdLo ["_law_found", "_law_known", "_law_most"] (lz K))(kLo:PySem.W.keepIn K (.ref fLo)=true)(bLo:az K fdLo ["_law_found", "_law_known", "_law_most"] [])(mLo:mg "_law_list_of_names"=some (.ref fLo))
   (GAE:aw P w K mg base CX0 1 fAE fdAE ["_law_tables_here", "_law_row_here", "_law_shade"] (rB K))(kAE:PySem.W.keepIn K (.ref fAE)=true)(bAE:az K fdAE ["_law_tables_here", "_law_row_here", "_law_shade"] [])(mAE:mg "_law_at_end"=some (.ref fAE)) :
   aw P w K mg base CX0 2 f fd ["_law_found", "_law_order", "_law_tables_here"] (pe K):=by
 refine F.ok rK (fun vs H Q E h=>?_) (fun cdv A outer s H vs Q E hr h=>?_)
 · obtain⟨_,_,_,_,_,_,_,_,_,_,rfl,_⟩:=h
   rfl
 · obtain⟨t,lo,d,r,so,ss,ns,row,lk,z,rfl,ht,hr0,hlo,hpm,h12,hG,hcl,hrow,hr1k,hend,q⟩:=h
   have hr1:=hr.mono (j:=1) (by omega)
   refine⟨_,(aj (aR (PW.pt (fc (cE (cw (aq GLo hr1 rfl mLo kLo bLo .nil aH (aa (aK cp (pv 0) ah (fun _ _=>rfl)) (aa (pv 2) (aa ah ad)))))) (eu (cE (cw (al cJ (by rfl) T.isi (by decide +kernel) (aa (aK cp (pv 0) ah (fun _ _=>rfl)) (aa (dD (v:=.ty "str") rfl T.str (by decide +kernel) rfl) ad)))))))) (ag (ar cm)) aB)
     (aj (bj PassesOwn.never rfl (aQ (pv 1)) (ao (i:=3) rK.nd rfl (Or.inl rfl)) (ag (aR (aF qU (aq GAE hr1 rfl mAE kAE bAE .nil aH (aa (pv 2) (aa (aK cp (pv 0) ah (fun _ _=>rfl)) (aa (pv 3) ad)))) (aK cp (pv 0) ah (fun _ _=>rfl)) (aM _)) (ag (ar cm)) aB)))
     (ag (ar cm)))),?_⟩
   have hs:=aP
   refine aW (fun σ' H'=>σ'=[some (.ref t),some (.ref lo),some (.ref d),none]∧H'=H) (fun R hR=>?_) ?_
   · walk_at "dm"
     obtain⟨kvs,hRd,hkeys,htab⟩:=hG
     exact⟨_,SqT.of ht,_,rfl,r,d,row,ns,kvs,_,rfl,hr0,hRd,hkeys,hrow,by omega,true,rfl,aV (fun h=>by cases h) (fun _=>⟨_,SqT.of ht,_,rfl,_,e6.str _,true,rfl,aV (fun h=>by cases h) (fun _=>hR _ _ ⟨rfl,rfl⟩)⟩)⟩
   rintro σ1 H1 ⟨rfl,rfl⟩
   refine aW (fun σ' H'=>∃ o,σ'=[some (.ref t),some (.ref lo),some (.ref d),o]∧H'=H1) (fun R hR=>?_) ?_
   · walk_at "dm"
     refine⟨⟨_,hlo⟩,?_⟩
     refine bi (H0:=H1) (ax hlo) (fun i σ' H'=>∃ o,σ'=[some (.ref t),some (.ref lo),some (.ref d),o]∧H'=H1) ⟨none,rfl,rfl⟩ (fun _ _ _ _ ⟨_,_,e⟩=>by rw[e];exact af.refl _) ?_ (fun σ' H' ⟨o,e1,e2⟩=>hR _ _ ⟨o,e1,e2⟩)
     rintro i y σ' H' hi hy ⟨o,rfl,rfl⟩ R2 hR2
     rw[List.getElem?_map] at hy
     obtain⟨x,hx,rfl⟩:=Option.map_eq_some_iff.mp hy
     have hxs:=hpm.mem_iff.mp (List.mem_of_getElem? hx)
     walk_at "dm"
     refine⟨_,SqT.of ht,_,rfl,d,r,ss,ns,row,lk,x,rfl,hG,hcl,SqL.of hr0,hrow,hxs,_,SqT.of ht,_,rfl,rfl,aV (fun h=>absurd ?_ h) (fun _=>hR2 _ _ ⟨_,rfl,rfl⟩)⟩
     rw[hend x hxs]
   rintro σ2 H2 ⟨o,rfl,rfl⟩
   walk_at "dm"
   exact q _ (af.refl _)
end

section
variable {P:Program}{w:World}{K:PySem.W.Frag}{mg:Str→Option Value}{base:Heap}
def iu (L:List (Str×Str)):List (List Key×V):=L.map fun e=>(fY e,V.bl true)
theorem i4:∀ {L:List (Str×Str)}{e:Str×Str},e∉L→bP (iu L) (fY e)=none
 | [],_,_=>rfl
 | x::L,e,h=>by
   have h1:x≠e:=fun z=>h (by rw[z];exact List.mem_cons_self)
   have ih:=i4 (L:=L) (e:=e) fun z=>h (List.mem_cons_of_mem _ z)
   unfold bP at ih ⊢
   show Option.map (·.2) (List.find? _ ((fY x,V.bl true)::iu L))=none
   rw[List.find?_cons_of_neg (by simpa using fun z=>h1 (iw z))]
   exact ih
theorem lV:∀ {L:List (Str×Str)}{e:Str×Str},e∈L→bP (iu L) (fY e)=some (V.bl true)
 | x::L,e,h=>by
   by_cases h1:x=e
   · subst h1
     unfold bP
     show Option.map (·.2) (List.find? _ ((fY x,V.bl true)::iu L))=_
     rw[List.find?_cons_of_pos (by simp)]
     rfl
   · have hm:e∈L:=by
       rcases List.mem_cons.mp h with h | h
       · exact absurd h.symm h1
       · exact h
     have ih:=lV (L:=L) (e:=e) hm
     unfold bP at ih ⊢
     show Option.map (·.2) (List.find? _ ((fY x,V.bl true)::iu L))=_
     rw[List.find?_cons_of_neg (by simpa using fun z=>h1 (iw z))]
     exact ih
def oK (K:PySem.W.Frag):Sp:=fun vs H Q _=>∃ (l lo d:Addr)(rs:List Addr)(so ss ns:List Str)(lk:Str→Str→Str)(L:List (Str×Str)),vs=[.ref l,.ref lo,.ref d]∧H l=some (.lst (rs.map V.ref))∧cy H rs (L.map b7)∧H lo=some (.lst (so.map V.str))∧so.Perm ss∧so.length≤12∧nA H d ss ns lk∧(∀ n∈ns,∀ z∈ss,lk n z∈ss)∧iO lk ns ss L∧∀ H',Fz H H'→Q (.bl true) H'

theorem gI:au ["_law_pairs", "_law_order", "_law_tables_here", "_law_seen", "_law_one", "_law_bath", "_law_came"] ["_law_pairs", "_law_order", "_law_tables_here"] (ae gS):=⟨rfl,rfl,rfl,by decide +kernel,rfl,by decide +kernel,by decide +kernel⟩
theorem uc {f fPr fLo:Addr}{fd fdPr fdLo:FuncData}(F:Fun K "_law_stuck" "_law_stuck" gS f fd)
   (T:Txt mg)
   (GPr:aw P w K mg base CX0 1 fPr fdPr ["_law_found"] pH)(kPr:PySem.W.keepIn K (.ref fPr)=true)(bPr:az K fdPr ["_law_found"] [])(mPr:mg "_law_pair"=some (.ref fPr))
   (GLo:aw P w K mg base CX0 1 fLo fdLo ["_law_found", "_law_known", "_law_most"] (l6 K))(kLo:PySem.W.keepIn K (.ref fLo)=true)(bLo:az K fdLo ["_law_found", "_law_known", "_law_most"] [])(mLo:mg "_law_list_of_names"=some (.ref fLo)) :
   aw P w K mg base CX0 2 f fd ["_law_pairs", "_law_order", "_law_tables_here"] (oK K):=by
 refine F.ok gI (fun vs H Q E h=>?_) (fun cdv A outer s H vs Q E hr h=>?_)
 · obtain⟨_,_,_,_,_,_,_,_,_,rfl,_⟩:=h
   rfl
 · obtain⟨l,lo,d,rs,so,ss,ns,lk,L,rfl,hl,hT,hlo,hpm,h12,hG,hcl,St,q⟩:=h
   have hu:(cr CX0 P w K mg base ["_law_pairs", "_law_order", "_law_tables_here", "_law_seen", "_law_one", "_law_bath", "_law_came"] "_law_stuck" (ae gS) f cdv A outer s H E).A.units+1 < cLine:=by
     have:=hr.units
     exact Nat.lt_of_le_of_lt (Nat.add_le_add_left (by decide) _) this
   have hr1:=hr.mono (j:=1) (by omega)
   refine⟨_,(aj (aR (PW.pt (fc (cE (cw (al cJ (by rfl) T.isi (by decide +kernel) (aa (pv 0) (aa (dD (v:=.ty "list") rfl T.list (by decide +kernel) rfl) ad))))) (fc (aF js (al aE (by rfl) T.len PySem.boot_len (aa (pv 0) ad)) ah (aM _)) (eu (aF iE (al aE (by rfl) T.len PySem.boot_len (aa (pv 0) ad)) ah (aM _)))))) (ag (ar cm)) aB)
     (aj (ay (i:=3) gI.nd rfl (Or.inl rfl) nF)
     (aj (bj PassesOwn.never rfl (aQ (pv 0)) (ao (i:=4) gI.nd rfl (Or.inl rfl)) (aj (aR (PW.pt (fc (cE (cw (aq GPr hr1 rfl mPr kPr bPr .nil aH (aa (pv 4) ad)))) (eu (cE (cw (aq GLo hr1 rfl mLo kLo bLo .nil aH (aa (aZ dX (by rfl) T.list (by decide +kernel) (aa (pv 4) ad)) (aa (pv 1) (aa ah ad))))))))) (ag (ar cm)) aB)
     (aj (aR (PW.pt (fc (aF sB (aK cp (pv 4) ah (fun _ _=>rfl)) (aK cp (pv 4) ah (fun _ _=>rfl)) (aM _)) (eu (e7 (pT hu (pv 4) (pv 3)))))) (ag (ar cm)) aB)
     (ag (gu hu (pv 3) (pv 4) cm rfl)))))
     (aj (bj PassesOwn.never rfl (aQ (pv 0)) (ao (i:=4) gI.nd rfl (Or.inl rfl)) (ag (bj PassesOwn.never rfl (rJ (pv 2)) (ao (i:=5) gI.nd rfl (Or.inl rfl)) (am (ay (i:=6) gI.nd rfl (Or.inl rfl) (al dU (by rfl) T.sorted (by decide +kernel) (aa (bp (aa (ca hu (ca hu (pv 2) (pv 5) (fun _ _=>rfl)) (aK cp (pv 4) ah (fun _ _=>rfl)) (fun _ _=>rfl)) (aa (ca hu (ca hu (pv 2) (pv 5) (fun _ _=>rfl)) (aK cp (pv 4) ah (fun _ _=>rfl)) (fun _ _=>rfl)) ad))) ad)))
     (ag (aR (e7 (dz hu (de (aa (aK aG (pv 6) ah (fun _ _=>rfl)) (aa (aK aG (pv 6) ah (fun _ _=>rfl)) ad))) (pv 3))) (ag (ar cm)) aB))))))
     (ag (ar cm)))))),?_⟩
   have hs:=aP
   have hrl:rs.length=L.length:=by rw[hT.1,List.length_map]
   have hL66:=St.len
   have hL1:1≤L.length:=Nat.pos_of_ne_zero fun e=>St.ne (List.length_eq_zero_iff.mp e)
   refine aW (fun σ' H'=>σ'=[some (.ref l),some (.ref lo),some (.ref d),none,none,none,none]∧H'=H) (fun R hR=>?_) ?_
   · walk_at "dm"
     refine⟨_,e6.lst hl,true,rfl,aV (fun h=>by cases h) (fun _=>?_)⟩
     exact⟨_,.inl (SqL.of hl),aV (fun h=>absurd h (by rw[List.length_map];omega)) (fun _=>⟨_,.inl (SqL.of hl),aV (fun h=>absurd h (by rw[List.length_map];omega)) (fun _=>hR _ _ ⟨rfl,rfl⟩)⟩)⟩
   rintro σ1 H1 ⟨rfl,rfl⟩
   refine aW (fun σ' H'=>∃ sn,H1 sn=none∧σ'=[some (.ref l),some (.ref lo),some (.ref d),some (.ref sn),none,none,none]∧H'=upd H1 sn (.dT [])) (fun R hR=>?_) ?_
   · walk_at "dm"
     exact fun p hp=>hR _ _ ⟨p,hp,rfl,rfl⟩
   rintro σ2 H2 ⟨sn,hsn,rfl,rfl⟩
   have S2:=af.updN (o:=.dT []) hsn
   refine aW (fun σ' H'=>∃ o4 o5 o6,σ'=[some (.ref l),some (.ref lo),some (.ref d),some (.ref sn),o4,o5,o6]∧af H1 H'∧H' sn=some (.dT (iu L))) (fun R hR=>?_) ?_
   · walk_at "dm"
     refine⟨⟨_,SqL.of (S2 _ _ hl)⟩,?_⟩
     refine bi (H0:=H1) (ax (SqL.of hl)) (fun i σ' H'=>∃ o4 o5 o6,σ'=[some (.ref l),some (.ref lo),some (.ref d),some (.ref sn),o4,o5,o6]∧af H1 H'∧H' sn=some (.dT (iu (L.take i)))) ⟨none,none,none,rfl,S2,ac⟩ (fun _ _ _ _ ⟨_,_,_,_,h,_⟩=>h) ?_ ?_
     · rintro i y σ' H' hi hy ⟨o4,o5,o6,rfl,S,hsn'⟩ R2 hR2
       rw[List.getElem?_map] at hy
       obtain⟨r,hr,rfl⟩:=Option.map_eq_some_iff.mp hy
       obtain⟨e,he⟩:∃ e,L[i]?=some e:=⟨_,List.getElem?_eq_getElem (by rw[List.length_map] at hi;omega)⟩
       have ht:=S _ _ (hT.2 i r (b7 e) hr (by rw[List.getElem?_map,he];rfl))
       obtain⟨m1,m2,mlt⟩:=St.mem e (List.mem_of_getElem? he)
       walk_at "dm"
       have hem:e∉L.take i:=fun h=>by
         obtain⟨j,hj⟩:=List.getElem?_of_mem h
         rw[List.getElem?_take] at hj
         by_cases hjk:j < i
         · rw[if_pos hjk] at hj
           obtain⟨h1,e1⟩:=List.getElem?_eq_some_iff.mp hj
           obtain⟨h2,e2⟩:=List.getElem?_eq_some_iff.mp he
           exact List.pairwise_iff_getElem.mp St.nd j i h1 h2 hjk (e1.trans e2.symm)
         · rw[if_neg hjk] at hj;cases hj
       refine aW (fun σ2 H2=>σ2=[some (.ref l),some (.ref lo),some (.ref d),some (.ref sn),some (.ref r),o5,o6]∧af H' H2) (fun R3 hR3=>?_) ?_
       · walk_at "dm"
         refine⟨r,_,_,rfl,ht,true,rfl,aV (fun h=>by cases h) (fun _=>⟨_,.inr (SqT.of ht),fun l2 hl2=>?_⟩)⟩
         have Sl:=af.updN (o:=.lst (b7 e)) hl2
         exact⟨l2,lo,[e.1,e.2],so,2,rfl,ac,SqL.of ((S.trans Sl) _ _ hlo),fun x hx=>by
           rcases List.mem_cons.mp hx with rfl | hx
           · exact hpm.mem_iff.mpr m1
           · rw[List.mem_singleton.mp hx];exact hpm.mem_iff.mpr m2,by simp,true,rfl,aV (fun h=>by cases h) (fun _=>hR3 _ _ ⟨rfl,Sl⟩)⟩
       rintro σ2 H2 ⟨rfl,S4⟩
       have ht2:=S4 _ _ ht
       have hsn2:=S4 _ _ hsn'
       have hD:eJ H2 sn (.ref r) none:=by rw[←i4 hem];exact eJ.t hsn2 ht2
       refine aW (fun σ3 H3=>σ3=[some (.ref l),some (.ref lo),some (.ref d),some (.ref sn),some (.ref r),o5,o6]∧H3=H2) (fun R3 hR3=>?_) ?_
       · walk_at "dm"
         exact⟨_,SqT.of ht2,_,rfl,_,SqT.of ht2,_,rfl,_,rfl,_,rfl,aV (fun h=>absurd mlt (by simpa using h)) (fun _=>⟨none,hD,aV (fun h=>by cases h) (fun _=>hR3 _ _ ⟨rfl,rfl⟩)⟩)⟩
       rintro σ3 H3 ⟨rfl,rfl⟩
       walk_at "dm"
       refine⟨_,pL.t (k:=fY e) hsn2 ht2 ?_,hR2 _ _ ⟨_,_,_,rfl,(S.trans S4).step hsn,?_⟩⟩
       · unfold iu
         rw[List.length_map,List.length_take,sizeLine_eq]
         omega
       · rw[ac,eA _ (i4 hem),bx he]
         unfold iu
         rw[List.map_append]
         rfl
     · rintro σ' H' ⟨o4,o5,o6,rfl,S,hsn'⟩
       refine hR _ _ ⟨o4,o5,o6,rfl,S,?_⟩
       rw[List.length_map,hrl,List.take_length] at hsn'
       exact hsn'
   rintro σ3 H3 ⟨o4,o5,o6,rfl,S3,hsn3⟩
   refine aW (fun σ' H'=>∃ o4 o5 o6,σ'=[some (.ref l),some (.ref lo),some (.ref d),some (.ref sn),o4,o5,o6]∧Fz H3 H') (fun R hR=>?_) ?_
   · walk_at "dm"
     refine⟨⟨_,SqL.of (S3 _ _ hl)⟩,?_⟩
     refine bi (H0:=fun b=>if b=l then some (.lst (rs.map V.ref)) else none) (ax (SqL.of (if_pos rfl))) (fun i σ' H'=>∃ o4 o5 o6,σ'=[some (.ref l),some (.ref lo),some (.ref d),some (.ref sn),o4,o5,o6]∧Fz H3 H') ⟨o4,o5,o6,rfl,Fz.refl _⟩ (fun _ _ _ _ ⟨_,_,_,_,h⟩=>fun b o e=>?_) ?_ (fun σ' H' h=>hR _ _ h)
     · dsimp only at e
       split at e
       · rename_i hb;cases e;rw[hb];exact h.1 _ _ (S3 _ _ hl) (fun _ h=>by cases h)
       · cases e
     · rintro i y σ' H' hi hy ⟨o4,o5,o6,rfl,F⟩ R2 hR2
       rw[List.getElem?_map] at hy
       obtain⟨r,hr,rfl⟩:=Option.map_eq_some_iff.mp hy
       obtain⟨e,he⟩:∃ e,L[i]?=some e:=⟨_,List.getElem?_eq_getElem (by rw[List.length_map] at hi;omega)⟩
       have ht:=F.1 _ _ (S3 _ _ (hT.2 i r (b7 e) hr (by rw[List.getElem?_map,he];rfl))) (fun _ h=>by cases h)
       have heL:=List.mem_of_getElem? he
       obtain⟨m1,m2,mlt⟩:=St.mem e heL
       have hG2:=F.tabG (Fz.tabG (af.fz S3) hG)
       walk_at "dm"
       obtain⟨kvs,hRd,hkeys,htab⟩:=id hG2
       refine⟨kvs,vF (W:=fun o HF=>uK (Itd d o kvs) _ _ _ _ HF) hRd fun o2 HF2 hHF2 FF2=>?_⟩
       refine bi (H0:=HF2) (ji hHF2) (fun j σ' H''=>∃ o5 o6,σ'=[some (.ref l),some (.ref lo),some (.ref d),some (.ref sn),some (.ref r),o5,o6]∧af HF2 H'') ⟨o5,o6,rfl,af.refl _⟩ (fun _ _ _ _ ⟨_,_,_,h⟩=>h) ?_ (fun σ H'' ⟨o5,o6,e1,h⟩=>hR2 _ _ ⟨_,_,_,e1,F.trans (FF2.trans (af.fz h))⟩)
       rintro j y σ H'' hj ⟨k0,v0,hkv,rfl⟩ ⟨o5,o6,rfl,S5⟩ R3 hR3
       have FF:=F.trans (FF2.trans (af.fz S5))
       obtain⟨n,hn,hk0⟩:∃ n,n∈ns∧k0=Sum.inr n:=by
         have e1:(kvs.map (·.1))[j]?=some k0:=by rw[List.getElem?_map,hkv];rfl
         rw[hkeys,List.getElem?_map] at e1
         obtain⟨n,hn,e2⟩:=Option.map_eq_some_iff.mp e1
         exact⟨n,List.mem_of_getElem? hn,e2.symm⟩
       subst hk0
       have hG3:=(FF2.trans (af.fz S5)).tabG hG2
       have ht3:=(FF2.trans (af.fz S5)).1 _ _ ht (fun _ h=>by cases h)
       obtain⟨q1,g1,g2⟩:=hG3.get hn m1
       obtain⟨q2,g3,g4⟩:=hG3.get hn m2
       walk_at "dm"
       refine⟨_,g1,_,SqT.of ht3,_,rfl,q1,rfl,_,g2,_,g3,_,SqT.of ht3,_,rfl,q2,rfl,_,g4,by omega,fun p hp=>⟨[lk n e.1,lk n e.2],SqL.of ac,by show 2 < 64;decide,fun p1 ss' hp1 hpm2 hso2=>?_⟩⟩
       have hl2:ss'.length=2:=hpm2.length_eq
       match ss',hl2,hpm2,hso2 with
       | [u,v],_,hpm2,hso2 =>
       obtain⟨e1,e2⟩:=rG hpm2 hso2
       obtain⟨b1,b2⟩:=St.out e heL n hn
       have SP:=af.updN (o:=.lst [V.str (lk n e.1),V.str (lk n e.2)]) hp
       have SP1:=SP.trans (af.updN (o:=.lst ([u,v].map V.str)) hp1)
       refine⟨_,SqL.of ac,_,rfl,_,SqL.of ac,_,rfl,by omega,fun p2 hp2=>?_⟩
       have SP2:=SP1.trans (af.updN (o:=.tup [V.str u,V.str v]) hp2)
       have hsn5:=SP2 _ _ (FF.1 _ _ hsn3 (fun _ h=>by cases h))
       have hD:eJ (upd (upd (upd H'' p (HO.lst [V.str (lk n e.1),V.str (lk n e.2)])) p1 (HO.lst (List.map V.str [u,v]))) p2 (HO.tup [V.str u,V.str v])) sn (V.ref p2) (some (.bl true)):=by
         rw[←lV (L:=L) (e:=(u,v)) (by rw[e1];exact b2)]
         exact eJ.t hsn5 ac
       exact⟨_,hD,aV (fun h=>by cases h) (fun _=>hR3 _ _ ⟨_,_,rfl,S5.trans SP2⟩)⟩
   rintro σ4 H4 ⟨o4',o5',o6',rfl,F4⟩
   walk_at "dm"
   exact q _ ((af.fz S3).trans F4)
end

section
variable {P:Program}{w:World}{K:PySem.W.Frag}{mg:Str→Option Value}{base:Heap}
theorem jN {H:Hp}{l b:Addr}{xs zs:List V}{Q:VK}(hl:H l=some (.lst xs))(hb:H b=some (.lst zs))(hz:xs.length+zs.length≤sizeLine)(q:∀ p,H p=none→Q (.ref p) (upd H p (.lst (xs++zs)))):yw (.ref l) (.ref b) H Q:=⟨l,b,xs,zs,rfl,rfl,hl,hb,hz,q⟩
def gL (ws:List Str):Str:=Txt.join (Str.ofString " ") ws++Str.ofString "\n"
def Few (ws:List Str):Prop:=ws.length≤20∧∀ x∈ws,x.length≤8
theorem Few.sum {ws:List Str}(h:∀ x∈ws,x.length≤8):(ws.map (·.length)).sum≤8*ws.length:=by
 induction ws with
 | nil=>exact Nat.le_refl _
 | cons a r ih =>
   have h1:=h a List.mem_cons_self
   have h2:=ih fun x hx=>h x (List.mem_cons_of_mem _ hx)
   rw[List.map_cons,List.sum_cons,List.length_cons]
   omega
theorem vx (z:Str)(l:List Str):∀ acc:Array Nat,(l.foldl (fun acc p=>acc++z.cps++p.cps) acc).size=acc.size+((l.map (·.length)).sum+l.length*z.length):=by
 induction l with
 | nil=>intro acc;simp
 | cons a r ih =>
   intro acc
   rw[List.foldl_cons,ih,Array.size_append,Array.size_append,List.map_cons,List.sum_cons,List.length_cons,Nat.add_mul]
   show acc.size+z.length+a.length+_=_
   omega
theorem um {z:Str}{l:List Str}:(Txt.join z l).length≤(l.map (·.length)).sum+l.length*z.length:=by
 cases l with
 | nil =>
   show Str.empty.length≤_
   rw[show Str.empty.length=0 from rfl];exact Nat.zero_le _
 | cons a r =>
   show(List.foldl (fun acc p=>acc++z.cps++p.cps) a.cps r).size≤_
   rw[vx,List.map_cons,List.sum_cons,List.length_cons,Nat.add_mul]
   show a.length+_≤_
   omega
theorem df {ws:List Str}(h:Few ws):(gL ws).length≤181:=by
 have h1:=Few.sum h.2
 have h2:=um (z:=Str.ofString " ") (l:=ws)
 have h3:=h.1
 have e1:(Str.ofString " ").length=1:=by decide +kernel
 have e2:(Str.ofString "\n").length=1:=by decide +kernel
 unfold gL
 rw[eT,e2]
 rw[e1] at h2
 omega
theorem mt (a b c:Str):a++b++c=a++(b++c):=gm (by
 show((a.cps++b.cps)++c.cps).toList=(a.cps++(b.cps++c.cps)).toList
 simp)
theorem lu (l:List Str):∀ a:Str,Txt.join (Str.ofString "") (a::l)=l.foldl (·++·) a:=by
 have key:∀ (l:List Str) (a:Str),(⟨l.foldl (fun acc p=>acc++(Str.ofString "").cps++p.cps) a.cps⟩:Str)=l.foldl (·++·) a:=by
   intro l
   induction l with
   | nil=>intro a;rfl
   | cons b r ih =>
     intro a
     rw[List.foldl_cons,List.foldl_cons,←ih (a++b)]
     have e:a.cps++(Str.ofString "").cps++b.cps=(a++b).cps:=by
       show a.cps++(Str.ofString "").cps++b.cps=a.cps++b.cps
       rw[show(Str.ofString "").cps=#[] by decide +kernel,Array.append_empty]
     rw[e]
 exact fun a=>key l a
theorem nG (l:List Str)(h:∀ x∈l,x.length≤181):∀ a:Str,(l.foldl (·++·) a).length≤a.length+181*l.length:=by
 induction l with
 | nil=>intro a;exact Nat.le_refl _
 | cons b r ih =>
   intro a
   have h1:=h b List.mem_cons_self
   have h2:=ih (fun x hx=>h x (List.mem_cons_of_mem _ hx)) (a++b)
   rw[eT] at h2
   rw[List.foldl_cons,List.length_cons]
   omega
def iH (so:List Str)(lk:Str→Str→Str) (n:Str):Str:=gL (Str.ofString "bath"::n::so.map (lk n))
def cR (so ns:List Str)(lk:Str→Str→Str):Str:=(ns.map (iH so lk)).foldl (·++·) (gL (Str.ofString "shades"::so))
def tL (K:PySem.W.Frag):Sp:=fun vs H Q _=>∃ (a:Addr)(ws:List Str),vs=[.ref a]∧SqL K H a (ws.map V.str)∧Few ws∧Q (.str (gL ws)) H
theorem x8:au ["words"] ["words"] (ae lS):=⟨rfl,rfl,rfl,by decide +kernel,rfl,by decide +kernel,by decide +kernel⟩
theorem qt {ws:List Str}(h:Few ws):(ws.map (·.length)).sum+ws.length*(Str.ofString " ").length≤16777216:=by
 have h1:=Few.sum h.2
 have h3:=h.1
 have e1:(Str.ofString " ").length=1:=by decide +kernel
 rw[e1]
 omega
theorem wq {f:Addr}{fd:FuncData}(F:Fun K "write_row" "write_row" lS f fd):aw P w K mg base CX0 1 f fd ["words"] (tL K):=by
 refine F.ok x8 (fun vs H Q E h=>?_) (fun cdv A outer s H vs Q E hr h=>?_)
 · obtain⟨_,_,rfl,_⟩:=h
   rfl
 · obtain⟨a,ws,rfl,ha,hf,q⟩:=h
   refine⟨_,ag (ar (aC cv (cX PySem.F.plainAttrs_str PySem.F.slot_str_join PySem.F.type_str_join jJ ba (aa (pv 0) ad)) ba)),?_⟩
   have hs:=aP
   have hl:=df hf
   unfold gL at hl
   rw[eT] at hl
   walk_at "dm"
   exact⟨rfl,ws,ha,qt hf,by omega,q⟩
theorem nY {ss:List Str}(h:∀ x∈ss,bu x=true):∀ x∈ss,x.length≤8:=fun x hx=>ke (h x hx)
theorem qJ {ss:List Str}{bs:List (Str×List Str)}{b:Str×List Str}{z:Str}(B:aO ss bs)(hb:b∈bs)(hz:z∈ss):lkV ss b z∈ss:=by
 obtain⟨i,hi⟩:=List.getElem?_of_mem hz
 have hl:=B.bln b hb
 have hil:i < b.2.length:=by rw[hl];exact(List.getElem?_eq_some_iff.mp hi).1
 have e:bP (kF ss b) (Sum.inr z)=some (V.str b.2[i]):=dH ss (b.2.map V.str) i z _ B.snd hi (by rw[List.getElem?_map,List.getElem?_eq_getElem hil];rfl)
 have e2:lkV ss b z=b.2[i]:=by unfold lkV;rw[e]
 rw[e2]
 exact B.bin b hb _ (List.getElem_mem hil)
theorem kE {x:Str}{ws:List Str}{n:Nat}(hx:x.length≤8)(h:∀ y∈ws,y.length≤8):∀ y∈x::ws,y.length≤8:=fun y hy=>by
 rcases List.mem_cons.mp hy with rfl | hy
 · exact hx
 · exact h y hy
theorem j8 {so ss:List Str}{bs:List (Str×List Str)}(B:aO ss bs)(hp:so.Perm ss):Few (Str.ofString "shades"::so):=by
 have:=B.s12
 refine⟨by rw[List.length_cons,hp.length_eq];omega,kE (n:=0) (by decide +kernel) fun y hy=>nY B.snm y (hp.mem_iff.mp hy)⟩
theorem iq {so ss:List Str}{bs:List (Str×List Str)}{b:Str×List Str}(B:aO ss bs)(hp:so.Perm ss)(hb:b∈bs):Few (Str.ofString "bath"::b.1::so.map (lkV ss b)):=by
 have:=B.s12
 refine⟨by rw[List.length_cons,List.length_cons,List.length_map,hp.length_eq];omega,kE (n:=0) (by decide +kernel) (kE (n:=0) (ke (B.bnm b hb)) fun y hy=>?_)⟩
 obtain⟨z,hz,rfl⟩:=List.mem_map.mp hy
 exact nY B.snm _ (qJ B hb (hp.mem_iff.mp hz))
theorem fE {so ss:List Str}{f g:Str→Str}(hp:so.Perm ss)(h:∀ z∈ss,f z=g z):so.map f=so.map g:=List.map_congr_left fun z hz=>h z (hp.mem_iff.mp hz)
def qQ (C:Addr):Sp:=fun vs H Q _=>∃ (x:Addr)(ss:List Str)(bs:List (Str×List Str)),vs=[.ref x]∧bg H C x ss bs∧aO ss bs ∧
 ∀ H' so ns,af H H'→so.Perm ss→PyProof.Rows.sortedS so=true→ns.Perm (bs.map (·.1))→PyProof.Rows.sortedS ns=true→Q (.str (cR so ns (lkB ss bs))) H'
theorem mI:au ["book", "rows", "bath"] ["book"] (ae iR):=⟨rfl,rfl,rfl,by decide +kernel,rfl,by decide +kernel,by decide +kernel⟩
theorem uW {C f fR fS fB fTb:Addr}{fd fdR fdS fdB fdTb:FuncData}(F:Fun K "write_book" "write_book" iR f fd)(c:Cls K C)
   (GR:aw P w K mg base CX0 1 fR fdR ["words"] (tL K))(kR:PySem.W.keepIn K (.ref fR)=true)(bR:az K fdR ["words"] [])(mR:mg "write_row"=some (.ref fR))
   (GS:aw P w K mg base CX0 1 fS fdS ["self"] (gz C))(hmS:bZ K C "shades" fS)(bS:az K fdS ["self"] [])
   (GB:aw P w K mg base CX0 1 fB fdB ["self"] (kY C))(hmB:bZ K C "baths" fB)(bB:az K fdB ["self"] [])
   (GTb:aw P w K mg base CX0 2 fTb fdTb ["self", "bath"] (ou C))(hmT:bZ K C "table" fTb)(bTb:az K fdTb ["self", "bath"] []) :
   aw P w K mg base CX0 3 f fd ["book"] (qQ C):=by
 refine F.ok mI (fun vs H Q E h=>?_) (fun cdv A outer s H vs Q E hr h=>?_)
 · obtain⟨_,_,_,rfl,_⟩:=h
   rfl
 · obtain⟨x,ss,bs,rfl,hbk,B,q⟩:=h
   have hr1:=hr.mono (j:=1) (by omega)
   refine⟨_,aj (ay (i:=1) mI.nd rfl (Or.inl rfl) (bp (aa (aq GR hr1 rfl mR kR bR .nil aH (aa (aC li (bp (aa ba ad)) (eE (pv 0) c hmS GS hr1 bS .nil aH)) ad)) ad)))
     (am (bj PassesOwn.never rfl (aQ (eE (pv 0) c hmB GB hr1 bB .nil aH)) (ao (i:=2) mI.nd rfl (Or.inl rfl))
       (ag (aU (cX PySem.F.plainAttrs_list PySem.F.slot_list_append PySem.F.type_list_append cj (pv 1) (aa (aq GR hr1 rfl mR kR bR .nil aH (aa (aC li (bp (aa ba (aa (pv 2) ad))) (br (pv 0) c hmT GTb hr bTb .nil aH (aa (pv 2) ad))) ad)) ad)))))
     (ag (ar (cX PySem.F.plainAttrs_str PySem.F.slot_str_join PySem.F.type_str_join jJ ba (aa (pv 1) ad))))),?_⟩
   have hs:=aP
   have hs12:=B.s12
   have hb8:=B.b8
   have hbk0:=hbk
   obtain⟨dx,t,d,so,h1,h2,hpm,hso,h5⟩:=hbk
   have hsl:so.length=ss.length:=hpm.length_eq
   refine cut (fun σ' H'=>∃ l,σ'=[some (.ref x),some (.ref l),none]∧af H H'∧H l=none∧H' l=some (.lst [V.str (gL (Str.ofString "shades"::so))])) ?_ ?_
   · walk_at "dm"
     refine⟨by omega,fun p hp=>?_⟩
     have Sa:af H (upd H p (.lst [V.str (Str.ofString "shades")])):=af.updN hp
     refine⟨dx,_,Sa _ _ h1,bU (by decide +kernel) (by decide +kernel),x,ss,bs,rfl,af.book Sa hbk0,B,fun l so2 hl hp2 hs2=>?_⟩
     have e2:so2=so:=eP hs2 hso (hp2.trans hpm.symm)
     subst e2
     have hpl:p≠l:=fun e=>by rw[←e,ac] at hl;cases hl
     refine jN (by rw[ai hpl];exact ac) ac (by rw[List.length_map];show 1+_≤_;omega) fun p2 hp2'=>?_
     have Sb:=Sa.step (o:=.lst (so2.map V.str)) (Sa.free hl)
     have Sc:=Sb.step (o:=.lst ([V.str (Str.ofString "shades")]++so2.map V.str)) (Sb.free hp2')
     refine⟨p2,Str.ofString "shades"::so2,rfl,SqL.of ac,j8 B hpm,by omega,fun l3 hl3=>⟨Sc.step (Sc.free hl3),Sc.free hl3,ac⟩⟩
   rintro σ1 H1 ⟨l,rfl,S1,hl0,hl⟩
   walk_at "dm"
   refine⟨dx,_,S1 _ _ h1,bU (by decide +kernel) (by decide +kernel),x,ss,bs,rfl,af.book S1 hbk0,B,fun lb ns hlb hnp hns=>?_⟩
   have hlbl:l≠lb:=fun e=>by rw[←e,hl] at hlb;cases hlb
   have S2:af H1 (upd H1 lb (.lst (ns.map V.str))):=af.updN hlb
   have hnl:ns.length=bs.length:=by rw[hnp.length_eq,List.length_map]
   generalize hG:upd H1 lb (.lst (ns.map V.str))=G at S2
   have hGb:G lb=some (.lst (ns.map V.str)):=by rw[←hG];exact ac
   have hGl:G l=some (.lst [V.str (gL (Str.ofString "shades"::so))]):=S2 _ _ hl
   have SHG:af (hide H l) (hide G l):=af.hide (S1.trans S2)
   have hH0:af H (hide H l):=fun y o e=>by rw[bq (ak e hl0)];exact e
   have hbl:af H (hide G l):=hH0.trans SHG
   refine⟨lb,rfl,⟨_,SqL.of hGb⟩,?_⟩
   refine a9 (H0:=hide G l) (ax (SqL.of (by rw[bq (Ne.symm hlbl)];exact hGb))) (fun i σ' H'=>∃ o,σ'=[some (.ref x),some (.ref l),o]∧af (hide G l) H'∧H' l=some (.lst ((gL (Str.ofString "shades"::so)::(ns.take i).map (iH so (lkB ss bs))).map V.str)))
     ⟨none,rfl,cu,hGl⟩ (fun _ _ _ _ ⟨_,_,h,_⟩=>h) ?_ ?_
   · rintro i y σ H' hi hy ⟨o,rfl,hS,hHl⟩
     rw[List.getElem?_map] at hy
     obtain⟨n,hn,rfl⟩:=Option.map_eq_some_iff.mp hy
     rw[List.length_map] at hi
     obtain⟨b,hb,rfl⟩:=List.mem_map.mp (hnp.mem_iff.mp (List.mem_of_getElem? hn))
     have SH:=hbl.trans hS
     walk_at "dm"
     refine⟨.inl ⟨rfl,_,SqL.of hHl⟩,by omega,fun p hp=>?_⟩
     have Sa:af H' (upd H' p (.lst [V.str (Str.ofString "bath"),V.str b.1])):=af.updN hp
     refine⟨dx,_,Sa _ _ (SH _ _ h1),bU (by decide +kernel) (by decide +kernel),x,ss,bs,b,rfl,af.book (SH.trans Sa) hbk0,B,hb,fun lt so2 hlt hp2 hs2=>?_⟩
     have e2:so2=so:=eP hs2 hso (hp2.trans hpm.symm)
     subst e2
     have hpl:p≠lt:=fun e=>by rw[←e,ac] at hlt;cases hlt
     refine jN (by rw[ai hpl];exact ac) ac (by rw[List.length_map,List.length_map];show 2+_≤_;omega) fun p2 hp2'=>?_
     have Sb:=Sa.step (o:=.lst ((so2.map (lkV ss b)).map V.str)) (Sa.free hlt)
     have Sc:=Sb.step (o:=.lst ([V.str (Str.ofString "bath"),V.str b.1]++(so2.map (lkV ss b)).map V.str)) (Sb.free hp2')
     have hll:(hide G l) l=none:=by unfold hide;rw[if_pos rfl]
     refine⟨p2,Str.ofString "bath"::b.1::so2.map (lkV ss b),rfl,SqL.of ac,iq B hpm hb,_,Sc _ _ hHl,?_,(hS.trans Sc).step hll,?_⟩
     · rw[List.length_map,List.length_cons,List.length_map,List.length_take];omega
     · rw[ac,bx hn,List.map_append,List.map_cons,List.map_cons,List.map_append]
       unfold iH
       rw[fE (f:=lkV ss b) (g:=lkB ss bs b.1) hpm fun z _=>(dL z B.bnd hb).symm]
       rfl
   · rintro σ H' ⟨o,rfl,hS,hHl⟩
     rw[List.length_map,List.take_of_length_le (Nat.le_refl _)] at hHl
     walk_at "dm"
     have hbt:∀ z∈gL (Str.ofString "shades"::so)::ns.map (iH so (lkB ss bs)),z.length≤181:=fun z hz=>by
       rcases List.mem_cons.mp hz with rfl | hz
       · exact df (j8 B hpm)
       · obtain⟨n,hn,rfl⟩:=List.mem_map.mp hz
         obtain⟨b,hb,rfl⟩:=List.mem_map.mp (hnp.mem_iff.mp hn)
         unfold iH
         rw[←fE (f:=lkV ss b) (g:=lkB ss bs b.1) hpm fun z _=>(dL z B.bnd hb).symm]
         exact df (iq B hpm hb)
     refine⟨rfl,_,SqL.of hHl,?_,?_⟩
     · have e0:(Str.ofString "").length=0:=by decide +kernel
       have hsum:∀ l:List Str,(∀ z∈l,z.length≤181)→(l.map (·.length)).sum≤181*l.length:=by
         intro l
         induction l with
         | nil=>intro _;exact Nat.le_refl _
         | cons a r ih =>
           intro h
           have h1:=h a List.mem_cons_self
           have h2:=ih fun x hx=>h x (List.mem_cons_of_mem _ hx)
           rw[List.map_cons,List.sum_cons,List.length_cons]
           omega
       have:=hsum _ hbt
       rw[List.length_cons,List.length_map] at this
       rw[e0]
       omega
     · rw[lu]
       exact q H' so ns (hbl.trans hS) hpm hso hnp hns
def t4 (K:PySem.W.Frag):Sp:=fun vs H Q _=>∃ (lo d:Addr)(ss so ns:List Str)(bs:List (Str×List Str))(lk:Str→Str→Str),vs=[.ref lo,.ref d]∧aO ss bs∧H lo=some (.lst (so.map V.str))∧so.Perm ss ∧
 nA H d ss ns lk∧ns.Perm (bs.map (·.1))∧(∀ b∈bs,∀ z∈ss,lk b.1 z=lkV ss b z)∧∀ H' ns',af H H'→ns'.Perm ns→PyProof.Rows.sortedS ns'=true→Q (.str (cR so ns' lk)) H'
theorem nj:au ["_law_order", "_law_tables_here", "_law_told", "_law_bath"] ["_law_order", "_law_tables_here"] (ae kf):=⟨rfl,rfl,rfl,by decide +kernel,rfl,by decide +kernel,by decide +kernel⟩
theorem vH {f:Addr}{fd:FuncData}(F:Fun K "_law_text" "_law_text" kf f fd)(T:Txt mg):aw P w K mg base CX0 1 f fd ["_law_order", "_law_tables_here"] (t4 K):=by
 refine F.ok nj (fun vs H Q E h=>?_) (fun cdv A outer s H vs Q E hr h=>?_)
 · obtain⟨_,_,_,_,_,_,_,rfl,_⟩:=h
   rfl
 · obtain⟨lo,d,ss,so,ns,bs,lk,rfl,B,hlo,hpm,hG,hns,hlk,q⟩:=h
   have hu:(cr CX0 P w K mg base ["_law_order", "_law_tables_here", "_law_told", "_law_bath"] "_law_text" (ae kf) f cdv A outer s H E).A.units+1 < cLine:=by
     have:=hr.units
     exact Nat.lt_of_le_of_lt (Nat.add_le_add_left (by decide) _) this
   refine⟨_,aj (ay (i:=2) nj.nd rfl (Or.inl rfl) (aC cv (cX PySem.F.plainAttrs_str PySem.F.slot_str_join PySem.F.type_str_join jJ ba (aa (aC li (bp (aa ba ad)) (pv 0)) ad)) ba))
     (am (bj PassesOwn.never rfl (aQ (al (fV rfl) (by rfl) T.sorted (by decide +kernel) (aa (pv 1) ad))) (ao (i:=3) nj.nd rfl (Or.inr rfl))
       (ag (ay (i:=2) nj.nd rfl (Or.inl rfl) (aC cv (aC cv (pv 2) (cX PySem.F.plainAttrs_str PySem.F.slot_str_join PySem.F.type_str_join jJ ba (aa (aC li (bp (aa ba (aa (pv 3) ad)))
         (cM (N':=["_law_shade", "_law_tables_here", "_law_bath"]) (pk:=[none,some 1,some 3]) rfl (cc.of (by rfl)) (aQ (pv 0)) (fun s H ex=>ao (i:=0) (by show(["_law_shade", "_law_tables_here", "_law_bath"]:List Str).Nodup;decide +kernel) rfl (Or.inl rfl))
         (fun s H ex=>ca hu (ca hu (pv 1) (pv 2) (fun _ _=>rfl)) (pv 0) (fun _ _=>rfl)))) ad))) ba))))
     (ag (ar (pv 2)))),?_⟩
   have hs:=aP
   have hs12:=B.s12
   have hb8:=B.b8
   have hsl:so.length=ss.length:=hpm.length_eq
   have hnl:ns.length=bs.length:=by rw[hns.length_eq,List.length_map]
   refine cut (fun σ' H'=>σ'=[some (.ref lo),some (.ref d),some (.str (gL (Str.ofString "shades"::so))),none]∧af H H') ?_ ?_
   · walk_at "dm"
     refine⟨rfl,by omega,fun p hp=>?_⟩
     have Sa:af H (upd H p (.lst [V.str (Str.ofString "shades")])):=af.updN hp
     refine jN ac (Sa _ _ hlo) (by rw[List.length_map];show 1+_≤_;omega) fun p2 hp2=>?_
     have hf:=j8 B hpm
     have hl:=df hf
     unfold gL at hl
     rw[eT] at hl
     exact⟨p2,rfl,Str.ofString "shades"::so,SqL.of ac,qt hf,by omega,rfl,Sa.step (Sa.free hp2)⟩
   rintro σ1 H1 ⟨rfl,S1⟩
   have hGR:=hG
   obtain⟨kvs,hR,hkeys,htab⟩:=hGR
   walk_at "dm"
   refine⟨ns,kvs,af.rd S1 hR,hkeys,by omega,fun lb ns2 hlb hpp hs4=>?_⟩
   have S2:af H1 (upd H1 lb (.lst (ns2.map V.str))):=af.updN hlb
   generalize hGG:upd H1 lb (.lst (ns2.map V.str))=G at S2
   have hGb:G lb=some (.lst (ns2.map V.str)):=by rw[←hGG];exact ac
   have SG:=S1.trans S2
   refine⟨⟨_,SqL.of hGb⟩,?_⟩
   refine a9 (H0:=G) (ax (SqL.of hGb)) (fun i σ' H'=>∃ o,σ'=[some (.ref lo),some (.ref d),some (.str (cR so (ns2.take i) lk)),o]∧af G H')
     ⟨none,rfl,af.refl _⟩ (fun _ _ _ _ ⟨_,_,h⟩=>h) ?_ ?_
   · rintro i y σ H' hi hy ⟨o,rfl,hS⟩
     rw[List.getElem?_map] at hy
     obtain⟨n,hn,rfl⟩:=Option.map_eq_some_iff.mp hy
     rw[List.length_map] at hi
     have hnn:n∈ns:=hpp.mem_iff.mp (List.mem_of_getElem? hn)
     obtain⟨b,hb,rfl⟩:=List.mem_map.mp (hns.mem_iff.mp hnn)
     have SH:=SG.trans hS
     walk_at "dm"
     refine⟨rfl,by omega,fun p hp=>?_⟩
     have Sa:af H' (upd H' p (.lst [V.str (Str.ofString "bath"),V.str b.1])):=af.updN hp
     generalize hG2:upd H' p (.lst [V.str (Str.ofString "bath"),V.str b.1])=G2 at Sa
     have hG2p:G2 p=some (.lst [V.str (Str.ofString "bath"),V.str b.1]):=by rw[←hG2];exact ac
     have SH2:=SH.trans Sa
     have hlo2:SqL K G2 lo (so.map V.str):=SqL.of (SH2 _ _ hlo)
     refine⟨⟨_,hlo2⟩,fun D hD=>?_⟩
     refine cz (ax hlo2) (by rw[List.length_map];omega) hD (fun σ=>∃ o,σ=[o,some (.ref d),some (.str b.1)]) (fun k=>V.str (lk b.1 (so.getD k ⟨#[]⟩))) ⟨none,rfl⟩ ?_ ?_
     · rintro k y σ' H3 hk2 hy ⟨o,rfl⟩ hS3 R hR
       rw[List.getElem?_map] at hy
       obtain⟨z,hz,rfl⟩:=Option.map_eq_some_iff.mp hy
       have hzs:z∈ss:=hpm.mem_iff.mp (List.mem_of_getElem? hz)
       obtain⟨r,hg1,hg2⟩:=(Fz.tabG (af.fz (SH2.trans hS3)) hG).get hnn hzs
       walk_at "dm"
       refine⟨_,hg1,r,rfl,_,hg2,?_⟩
       have e:so.getD k ⟨#[]⟩=z:=by rw[List.getD_eq_getElem?_getD,hz];rfl
       have:=hR [some (V.str z),some (V.ref d),some (V.str b.1)] ⟨_,rfl⟩
       rw[e] at this
       exact this
     · have e:(List.range (so.map V.str).length).map (fun k=>V.str (lk b.1 (so.getD k ⟨#[]⟩)))=(so.map (lk b.1)).map V.str:=by
         rw[List.map_map]
         refine ef _ so _ _ (by rw[List.length_map]) fun k y hy=>?_
         rw[List.getD_eq_getElem?_getD,hy]
         rfl
       rw[e]
       have hDp:p≠D:=fun e=>by rw[←e,hG2p] at hD;cases hD
       refine jN (by rw[ai hDp];exact hG2p) ac (by rw[List.length_map,List.length_map];show 2+_≤_;omega) fun p2 hp2=>?_
       have Sb:af G2 (upd G2 D (.lst ((so.map (lk b.1)).map V.str))):=af.updN hD
       have hf:Few (Str.ofString "bath"::b.1::so.map (lk b.1)):=by
         rw[fE (f:=lk b.1) (g:=lkV ss b) hpm (hlk b hb)]
         exact iq B hpm hb
       have hl:=df hf
       unfold gL at hl
       rw[eT] at hl
       have hbt:∀ z∈(ns2.take i).map (iH so lk),z.length≤181:=fun z hz=>by
         obtain⟨n,hn,rfl⟩:=List.mem_map.mp hz
         obtain⟨b',hb',rfl⟩:=List.mem_map.mp (hns.mem_iff.mp (hpp.mem_iff.mp (List.mem_of_mem_take hn)))
         unfold iH
         rw[fE (f:=lk b'.1) (g:=lkV ss b') hpm (hlk b' hb')]
         exact df (iq B hpm hb')
       have hlen:=nG _ hbt (gL (Str.ofString "shades"::so))
       have hl0:=df (j8 B hpm)
       have hns2:ns2.length=ns.length:=hpp.length_eq
       rw[List.length_map,List.length_take] at hlen
       have hlen2:(cR so (ns2.take i) lk).length≤1900:=by unfold cR;omega
       have hsz:(4000:Nat)≤sizeLine:=by rw[sizeLine_eq];decide
       refine⟨p2,rfl,Str.ofString "bath"::b.1::so.map (lk b.1),SqL.of ac,qt hf,by omega,by rw[eT];omega,?_,(hS.trans Sa).trans (Sb.step (Sb.free hp2))⟩
       rw[bx hn]
       unfold cR iH gL
       rw[List.map_append,List.foldl_append,mt]
       rfl
   · rintro σ H' ⟨o,rfl,hS⟩
     rw[List.length_map,List.take_of_length_le (Nat.le_refl _)]
     walk_at "dm"
     exact q H' ns2 (SG.trans hS) hpp hs4
end

section
variable {P:Program}{w:World}{K:PySem.W.Frag}{mg:Str→Option Value}{base:Heap}
theorem pd (z:Str):∀ (r:List Str)(u v:Array Nat),r.foldl (fun acc p=>acc++z.cps++p.cps) (u++v)=u++r.foldl (fun acc p=>acc++z.cps++p.cps) v
 | [],_,_=>rfl
 | p::r,u,v=>by
   rw[List.foldl_cons,List.foldl_cons,Array.append_assoc,Array.append_assoc,pd z r u,Array.append_assoc]
theorem oe (z u v:Str)(L:List Str):Txt.join z ((u++v)::L)=u++Txt.join z (v::L):=gm (by
 show(L.foldl (fun acc p=>acc++z.cps++p.cps) (u.cps++v.cps)).toList=(u.cps++L.foldl (fun acc p=>acc++z.cps++p.cps) v.cps).toList
 rw[pd])
theorem jD (z a b:Str)(r:List Str):Txt.join z (a::b::r)=a++z++Txt.join z (b::r):=by
 rw[←oe]
 rfl
theorem xu (z a:Str):Txt.join z [a]=a:=rfl
theorem hV (a b:Str):(a++b).cps.toList=a.cps.toList++b.cps.toList:=by
 show(a.cps++b.cps).toList=_
 rw[Array.toList_append]
def jl (c:Nat):List (List Nat)→List Nat
 | []=>[]
 | [a]=>a
 | a::b::r=>a++c::jl c (b::r)
theorem uL (c:Nat):∀ ws:List Str,ws≠[]→(Txt.join ⟨#[c]⟩ ws).cps.toList=jl c (ws.map (·.cps.toList))
 | [],h=>absurd rfl h
 | [a],_=>rfl
 | a::b::r,_=>by
   rw[jD,hV,hV,uL c (b::r) (by simp),List.append_assoc]
   rfl
theorem u3 (c:Nat):∀ ws:List Str,ws≠[]→(Str.join ⟨#[c]⟩ ws).cps.toList=jl c (ws.map (·.cps.toList))
 | [],h=>absurd rfl h
 | [a],_=>by rw[PyProof.Rows.join_one];rfl
 | a::b::r,_=>by
   rw[PyProof.Rows.join_cons_cons,hV,hV,u3 c (b::r) (by simp),List.append_assoc]
   rfl
theorem rC {c:Nat}:∀ {a b X Y:List Nat},c∉a→c∉b→a++c::X=b++c::Y→a=b∧X=Y
 | [],[],X,Y,_,_,h=>⟨rfl,(List.cons.inj h).2⟩
 | [],y::b,X,Y,_,hb,h=>absurd ((List.cons.inj h).1▸List.mem_cons_self) hb
 | x::a,[],X,Y,ha,_,h=>absurd ((List.cons.inj h).1▸List.mem_cons_self) ha
 | x::a,y::b,X,Y,ha,hb,h=>by
   obtain⟨e1,e2⟩:=List.cons.inj h
   obtain⟨e3,e4⟩:=rC (fun m=>ha (List.mem_cons_of_mem _ m)) (fun m=>hb (List.mem_cons_of_mem _ m)) e2
   exact⟨by rw[e1,e3],e4⟩
theorem ve {c:Nat}:∀ {as bs:List (List Nat)},as≠[]→bs≠[]→(∀ a∈as,c∉a)→(∀ b∈bs,c∉b)→jl c as=jl c bs→as=bs
 | [],_,h,_,_,_,_=>absurd rfl h
 | _,[],_,h,_,_,_=>absurd rfl h
 | [a],[b],_,_,_,_,h=>by rw[show a=b from h]
 | [a],b::b2::r,_,_,ha,_,h=>absurd (by rw[show a=b++c::jl c (b2::r) from h];simp) (ha a List.mem_cons_self)
 | a::a2::r,[b],_,_,_,hb,h=>absurd (by rw[←show a++c::jl c (a2::r)=b from h];simp) (hb b List.mem_cons_self)
 | a::a2::r,b::b2::r',_,_,ha,hb,h=>by
   obtain⟨e1,e2⟩:=rC (ha a List.mem_cons_self) (hb b List.mem_cons_self) (show a++c::jl c (a2::r)=b++c::jl c (b2::r') from h)
   rw[e1,ve (by simp) (by simp) (fun x hx=>ha x (List.mem_cons_of_mem _ hx)) (fun x hx=>hb x (List.mem_cons_of_mem _ hx)) e2]
theorem kj:∀ {as bs:List Str},as.map (·.cps.toList)=bs.map (·.cps.toList)→as=bs
 | [],[],_=>rfl
 | a::as,b::bs,h=>by
   rw[List.map_cons,List.map_cons] at h
   obtain⟨e1,e2⟩:=List.cons.inj h
   rw[gm e1,kj e2]
theorem g5 {c:Nat}{ws:List Str}(hne:ws≠[])(hf:∀ w∈ws,c∉w.cps.toList):Txt.split (Txt.join ⟨#[c]⟩ ws) ⟨#[c]⟩=ws:=by
 have h1:=StrLaws.join_split (Txt.join ⟨#[c]⟩ ws) ⟨#[c]⟩
 have hp:=PyProof.Rows.split_pos (Txt.join ⟨#[c]⟩ ws) ⟨#[c]⟩
 have hfr:=StrLaws.split_free (Txt.join ⟨#[c]⟩ ws) c
 generalize Txt.split (Txt.join ⟨#[c]⟩ ws) ⟨#[c]⟩=P at h1 hp hfr
 have hP:P≠[]:=fun e=>by rw[e] at hp;simp at hp
 have h2:=congrArg (·.cps.toList) h1
 have h3:jl c (P.map (·.cps.toList))=jl c (ws.map (·.cps.toList)):=by rw[←u3 c P hP,←uL c ws hne];exact h2
 refine kj (ve (by simpa using hP) (by simpa using hne) ?_ ?_ h3)
 · intro a ha
   obtain⟨p,hp,rfl⟩:=List.mem_map.mp ha
   exact hfr p hp
 · intro a ha
   obtain⟨p,hp,rfl⟩:=List.mem_map.mp ha
   exact hf p hp
theorem qV:(Str.ofString " ")=⟨#[32]⟩:=by decide +kernel
theorem yx:(Str.ofString "\n")=⟨#[10]⟩:=by decide +kernel
def cont (so:List Str)(lk:Str→Str→Str) (n:Str):Str:=Txt.join (Str.ofString " ") (Str.ofString "bath"::n::so.map (lk n))
def er (so ns:List Str)(lk:Str→Str→Str):List Str:=Txt.join (Str.ofString " ") (Str.ofString "shades"::so)::ns.map (cont so lk)++[Str.ofString ""]
theorem mv:∀ (cf:List Str) (acc:Str),(cf.map (·++Str.ofString "\n")).foldl (·++·) (acc++Str.ofString "\n")=Txt.join (Str.ofString "\n") (acc::cf++[Str.ofString ""])
 | [],acc=>by
   show acc++Str.ofString "\n"=Txt.join (Str.ofString "\n") (acc::[Str.ofString ""])
   rw[jD,xu]
   exact gm (by rw[hV (acc++Str.ofString "\n"),show(Str.ofString "").cps.toList=[] by decide +kernel,List.append_nil])
 | r::cf,acc=>by
   rw[List.map_cons,List.foldl_cons,←mt,mv cf (acc++Str.ofString "\n"++r)]
   show Txt.join (Str.ofString "\n") ((acc++Str.ofString "\n"++r)::(cf++[Str.ofString ""]))=Txt.join (Str.ofString "\n") (acc::r::(cf++[Str.ofString ""]))
   rw[oe,jD]
theorem oV (so ns:List Str)(lk:Str→Str→Str):cR so ns lk=Txt.join (Str.ofString "\n") (er so ns lk):=by
 unfold cR er
 rw[←mv]
 show(ns.map (iH so lk)).foldl (·++·) _=_
 rw[List.map_map]
 rfl
theorem wr {z:Str}(h:bu z=true){c:Nat}(hc:inL c=false):c∉z.cps.toList:=fun hm=>by
 unfold bu at h
 rw[Bool.and_eq_true] at h
 have:=List.all_eq_true.mp h.2 c hm
 rw[hc] at this
 cases this
theorem y0:inL 32=false:=by decide +kernel
theorem yn:inL 10=false:=by decide +kernel
theorem kg {c d:Nat}:∀ ws:List Str,(∀ w∈ws,d∉w.cps.toList)→d≠c→d∉(Txt.join ⟨#[c]⟩ ws).cps.toList
 | [],_,_=>by show d∉[];exact List.not_mem_nil
 | [a],h,_=>h a List.mem_cons_self
 | a::b::r,h,hd=>by
   rw[jD,hV,hV]
   intro hm
   rcases List.mem_append.mp hm with hm | hm
   · rcases List.mem_append.mp hm with hm | hm
     · exact h a List.mem_cons_self hm
     · exact hd (List.mem_singleton.mp hm)
   · exact kg (b::r) (fun w hw=>h w (List.mem_cons_of_mem _ hw)) hd hm
end

section
variable {P:Program}{w:World}{K:PySem.W.Frag}{mg:Str→Option Value}{base:Heap}
theorem oz {xs:List V}{k:Nat}(h:k≤xs.length):eY xs (some (k:Int)) none=xs.drop k:=by
 unfold eY
 rw[HT.sIx_nat,HT.sIx_none,Nat.min_eq_left h]
 exact List.take_of_length_le (by rw[List.length_drop];exact Nat.le_refl _)
theorem wy {xs:List V}(h:2≤xs.length):eY xs (some (1:Int)) (some (-1:Int))=(xs.drop 1).take (xs.length - 2):=by
 unfold eY
 have e1:HT.sIx xs.length 0 (some (1:Int))=1:=by
   have:=HT.sIx_nat xs.length 0 1
   rw[Nat.min_eq_left (by omega)] at this
   exact this
 have e2:HT.sIx xs.length xs.length (some (-1:Int))=xs.length - 1:=by
   unfold HT.sIx
   show(if(-1:Int) < 0 then _ else _)=_
   rw[if_pos (by decide)]
   omega
 rw[e1,e2,Nat.sub_sub]
def nR (K:PySem.W.Frag):Sp:=fun vs H Q _=>∃ (l:Addr) (w0 n:Str)(outs:List Str),vs=[.ref l]∧SqL K H l ((w0::n::outs).map V.str)∧outs.length≤900 ∧
 ∀ (lo t:Addr) H',af H H'→H lo=none→H t=none→H' t=some (.tup [.str n,.ref lo])→H' lo=some (.lst (outs.map V.str))→Q (.ref t) H'
theorem tY:au ["words"] ["words"] (ae gq):=⟨rfl,rfl,rfl,by decide +kernel,rfl,by decide +kernel,by decide +kernel⟩
theorem sI {f:Addr}{fd:FuncData}(F:Fun K "bath_of" "bath_of" gq f fd)(T:Txt mg):aw P w K mg base CX0 1 f fd ["words"] (nR K):=by
 refine F.ok tY (fun vs H Q E h=>?_) (fun cdv A outer s H vs Q E hr h=>?_)
 · obtain⟨_,_,_,_,rfl,_⟩:=h
   rfl
 · obtain⟨l,w0,n,outs,rfl,hl,hlen,q⟩:=h
   refine⟨_,am (aR (aF js (al aE (by rfl) T.len PySem.boot_len (aa (pv 0) ad)) ah (aM _)) ck aB)
     (ag (ar (de (aa (aK aG (pv 0) ah (fun _ _=>rfl)) (aa (dc gw (pv 0) (dC ah) eV) ad))))),?_⟩
   have hs:=aP
   have e1:atI ((w0::n::outs).map V.str) ((1:Nat):Int)=some (V.str n):=dg rfl
   walk_at "dm"
   refine⟨_,.inl hl,?_⟩
   rw[List.length_map,List.length_cons,List.length_cons]
   refine aV (fun h=>absurd h (by omega)) (fun _=>⟨_,hl,V.str n,e1,_,hl,fun lo hlo=>⟨by omega,fun t ht=>?_⟩⟩)
   have ec:eY ((w0::n::outs).map V.str) (some 2) none=outs.map V.str:=oz (k:=2) (by rw[List.length_map,List.length_cons,List.length_cons];omega)
   have Sa:af H (upd H lo (.lst (eY ((w0::n::outs).map V.str) (some 2) none))):=af.updN hlo
   have hlt:lo≠t:=fun e=>by rw[←e,ac] at ht;cases ht
   exact q lo t _ (Sa.step (Sa.free ht)) hlo (Sa.free ht) ac (by rw[ai hlt,ac,ec])
def bsR (so ns:List Str)(lk:Str→Str→Str):List (Str×List Str):=ns.map fun n=>(n,so.map (lk n))
theorem km (so ns:List Str)(lk:Str→Str→Str):(bsR so ns lk).map (·.1)=ns:=by
 unfold bsR
 rw[List.map_map]
 exact List.map_id ns
def gN (so ns:List Str)(lk:Str→Str→Str):List (List Str):=(Str.ofString "shades"::so)::ns.map (fun n=>Str.ofString "bath"::n::so.map (lk n))++[[Str.ofString ""]]
theorem iQ {ws:List Str}{c:Nat}(h:∀ x∈ws,bu x=true)(hc:inL c=false):∀ x∈ws,c∉x.cps.toList:=fun x hx=>wr (h x hx) hc
theorem all_cons {ws:List Str}{a:Str}(ha:bu a=true)(h:∀ x∈ws,bu x=true):∀ x∈a::ws,bu x=true:=fun x hx=>by
 rcases List.mem_cons.mp hx with rfl | hx
 · exact ha
 · exact h x hx
theorem vL:bu (Str.ofString "shades")=true:=by decide +kernel
theorem vW:bu (Str.ofString "bath")=true:=by decide +kernel
theorem lR {so ns:List Str}{lk:Str→Str→Str}(B:aO so (bsR so ns lk)):(∀ x∈Str.ofString "shades"::so,bu x=true)∧∀ n∈ns,∀ x∈Str.ofString "bath"::n::so.map (lk n),bu x=true:=by
 refine⟨all_cons vL B.snm,fun n hn=>?_⟩
 have hb:(n,so.map (lk n))∈bsR so ns lk:=List.mem_map.mpr ⟨n,hn,rfl⟩
 refine all_cons vW (all_cons (B.bnm _ hb) fun x hx=>?_)
 exact B.snm x (B.bin _ hb x hx)
theorem mj {ws:List Str}(hne:ws≠[])(h:∀ x∈ws,bu x=true):Txt.split (Txt.join (Str.ofString " ") ws) (Str.ofString " ")=ws:=by
 rw[qV]
 exact g5 hne (iQ h y0)
theorem oG:Txt.split (Str.ofString "") (Str.ofString " ")=[Str.ofString ""]:=by
 rw[qV]
 refine g5 (c:=32) (ws:=[Str.ofString ""]) (by simp) fun w hw=>?_
 rw[List.mem_singleton.mp hw,show(Str.ofString "").cps.toList=[] by decide +kernel]
 exact List.not_mem_nil
theorem kq {so ns:List Str}{lk:Str→Str→Str}(B:aO so (bsR so ns lk)):Txt.split (cR so ns lk) (Str.ofString "\n")=er so ns lk:=by
 rw[oV,yx]
 have hg:=lR B
 refine g5 (by unfold er;simp) fun w hw=>?_
 unfold er at hw
 rcases List.mem_append.mp hw with hw | hw
 · rcases List.mem_cons.mp hw with rfl | hw
   · rw[qV];exact kg _ (iQ hg.1 yn) (by decide)
   · obtain⟨n,hn,rfl⟩:=List.mem_map.mp hw
     unfold cont
     rw[qV];exact kg _ (iQ (hg.2 n hn) yn) (by decide)
 · rw[List.mem_singleton.mp hw,show(Str.ofString "").cps.toList=[] by decide +kernel]
   exact List.not_mem_nil
theorem p9 {so ns:List Str}{lk:Str→Str→Str}(B:aO so (bsR so ns lk)):(er so ns lk).map (fun p=>Txt.split p (Str.ofString " "))=gN so ns lk:=by
 have hg:=lR B
 unfold er gN
 rw[List.map_append,List.map_cons,List.map_map,mj (by simp) hg.1]
 have e:ns.map ((fun p=>Txt.split p (Str.ofString " "))∘cont so lk)=ns.map fun n=>Str.ofString "bath"::n::so.map (lk n):=List.map_congr_left fun n hn=>mj (by simp) (hg.2 n hn)
 rw[e]
 show _++[Txt.split (Str.ofString "") (Str.ofString " ")]=_
 rw[oG]
theorem wN {so:List Str}{n z:Str}{lk:Str→Str→Str}(hd:so.Nodup)(hz:z∈so):lkV so (n,so.map (lk n)) z=lk n z:=by
 obtain⟨i,hi⟩:=List.getElem?_of_mem hz
 have e:bP (kF so (n,so.map (lk n))) (Sum.inr z)=some (V.str (lk n z)):=dH so ((so.map (lk n)).map V.str) i z _ hd hi (by rw[List.getElem?_map,List.getElem?_map,hi];rfl)
 unfold lkV
 rw[e]
theorem xa {so ns:List Str}{n z:Str}{lk:Str→Str→Str}(B:aO so (bsR so ns lk))(hn:n∈ns)(hz:z∈so):lkB so (bsR so ns lk) n z=lk n z:=by
 have hb:(n,so.map (lk n))∈bsR so ns lk:=List.mem_map.mpr ⟨n,hn,rfl⟩
 have:=dL (ss:=so) z B.bnd hb
 rw[wN B.snd hz] at this
 exact this
theorem vG {so ns:List Str}{lk:Str→Str→Str}(B:aO so (bsR so ns lk)):cR so ns (lkB so (bsR so ns lk))=cR so ns lk:=by
 unfold cR
 have e:ns.map (iH so (lkB so (bsR so ns lk)))=ns.map (iH so lk):=List.map_congr_left fun n hn=>by
   unfold iH
   rw[List.map_congr_left (f:=lkB so (bsR so ns lk) n) (g:=lk n) fun z hz=>xa B hn hz]
 rw[e]
theorem xK {ss so ns:List Str}{bs:List (Str×List Str)}(B:aO ss bs)(hpm:so.Perm ss)(hnp:ns.Perm (bs.map (·.1))):aO so (bsR so ns (lkB ss bs)):=by
 have hl:=hpm.length_eq
 have key:∀ b∈bsR so ns (lkB ss bs),∃ b'∈bs,b.1=b'.1∧b.2=so.map (lkB ss bs b'.1):=fun b hb=>by
   obtain⟨n,hn,rfl⟩:=List.mem_map.mp hb
   obtain⟨b',hb',rfl⟩:=List.mem_map.mp (hnp.mem_iff.mp hn)
   exact⟨b',hb',rfl,rfl⟩
 refine⟨by rw[hl];exact B.s1,by rw[hl];exact B.s12,hpm.nodup_iff.mpr B.snd,fun x hx=>B.snm x (hpm.mem_iff.mp hx),fun x hx=>B.snw x (hpm.mem_iff.mp hx),?_,?_,?_,?_,?_,?_⟩
 · have:=hnp.length_eq
   rw[List.length_map] at this
   unfold bsR
   rw[List.length_map,this];exact B.b8
 · rw[km];exact hnp.nodup_iff.mpr B.bnd
 · intro b hb
   obtain⟨b',hb',e1,e2⟩:=key b hb
   rw[e1];exact B.bnm b' hb'
 · intro b hb
   obtain⟨b',hb',e1,e2⟩:=key b hb
   rw[e1];exact B.bnw b' hb'
 · intro b hb
   obtain⟨b',hb',e1,e2⟩:=key b hb
   rw[e2,List.length_map]
 · intro b hb x hx
   obtain⟨b',hb',e1,e2⟩:=key b hb
   rw[e2] at hx
   obtain⟨z,hz,rfl⟩:=List.mem_map.mp hx
   rw[dL z B.bnd hb']
   exact hpm.mem_iff.mpr (qJ B hb' (hpm.mem_iff.mp hz))
end

section
variable {P:Program}{w:World}{K:PySem.W.Frag}{mg:Str→Option Value}{base:Heap}
def xz (H:Hp)(lb:Addr)(rw:List (List Str)):Prop:=∃ ps:List Addr,H lb=some (.lst (ps.map V.ref))∧ps.length=rw.length∧∀ (i:Nat) p ws,ps[i]?=some p→rw[i]?=some ws→H p=some (.lst (ws.map V.str))
def q9 (C:Addr):Sp:=fun vs H Q _=>∃ (so ns:List Str)(lk:Str→Str→Str),vs=[.str (cR so ns lk)]∧aO so (bsR so ns lk)∧∀ x H',H x=none→af H H'→bg H' C x so (bsR so ns lk)→Q (.ref x) H'
theorem nB:au ["text", "rows", "baths", "e"] ["text"] (ae iT):=⟨rfl,rfl,rfl,by decide +kernel,rfl,by decide +kernel,by decide +kernel⟩
theorem oj {so ns:List Str}{lk:Str→Str→Str}(B:aO so (bsR so ns lk)):(cR so ns lk).length≤1900:=by
 have hb8:ns.length≤8:=by have:=B.b8;unfold bsR at this;rw[List.length_map] at this;exact this
 have h0:=df (j8 B (List.Perm.refl so))
 have hbt:∀ z∈ns.map (iH so lk),z.length≤181:=fun z hz=>by
   obtain⟨n,hn,rfl⟩:=List.mem_map.mp hz
   have hb:(n,so.map (lk n))∈bsR so ns lk:=List.mem_map.mpr ⟨n,hn,rfl⟩
   have hf:=iq B (List.Perm.refl so) hb
   rw[List.map_congr_left (f:=lkV so (n,so.map (lk n))) (g:=lk n) fun z hz=>wN B.snd hz] at hf
   exact df hf
 have:=nG _ hbt (gL (Str.ofString "shades"::so))
 rw[List.length_map] at this
 unfold cR
 omega
theorem pA {so ns:List Str}{lk:Str→Str→Str}:(gN so ns lk)[0]?=some (Str.ofString "shades"::so):=rfl
theorem iL {so ns:List Str}{lk:Str→Str→Str}:(gN so ns lk).length=ns.length+2:=by
 unfold gN
 rw[List.length_append,List.length_cons,List.length_map]
 rfl
theorem pY {so ns:List Str}{lk:Str→Str→Str}{i:Nat}{n:Str}(h:ns[i]?=some n):(gN so ns lk)[i+1]?=some (Str.ofString "bath"::n::so.map (lk n)):=by
 have hi:=(List.getElem?_eq_some_iff.mp h).1
 unfold gN
 rw[List.cons_append,List.getElem?_cons_succ,List.getElem?_append_left (by rw[List.length_map];exact hi),List.getElem?_map,h]
 rfl
theorem uF {C f fO fI:Addr}{fd fdO fdI:FuncData}(F:Fun K "loosely_read" "loosely_read" iT f fd)(T:Txt mg)(M:Mk K C fI)
   (GO:aw P w K mg base CX0 1 fO fdO ["words"] (nR K))(kO:PySem.W.keepIn K (.ref fO)=true)(bO:az K fdO ["words"] [])(mO:mg "bath_of"=some (.ref fO))
   (GI:aw P w K mg base CX0 4 fI fdI ["self", "shades", "baths"] (pU K C))(bI:az K fdI ["self", "shades", "baths"] [])(mC:mg "Book"=some (.ref C)) :
   aw P w K mg base CX0 6 f fd ["text"] (q9 C):=by
 refine F.ok nB (fun vs H Q E h=>?_) (fun cdv A outer s H vs Q E hr h=>?_)
 · obtain⟨_,_,_,rfl,_⟩:=h
   rfl
 · obtain⟨so,ns,lk,rfl,B,q⟩:=h
   have hr1:=hr.mono (j:=1) (by omega)
   refine⟨_,aj (rH (i:=1) (N':=["row"]) (pk:=[none]) nB.nd rfl (Or.inl rfl) rfl (cc.of (by rfl)) (aQ (cX PySem.F.plainAttrs_str PySem.F.slot_str_split PySem.F.type_str_split pc (pv 0) (aa ba ad))) (fun s H ex=>ao (i:=0) (by show(["row"]:List Str).Nodup;decide +kernel) rfl (Or.inl rfl))
       (fun s H ex=>(cX PySem.F.plainAttrs_str PySem.F.slot_str_split PySem.F.type_str_split pc (pv 0) (aa ba ad):PE _ _ (tBM K "str" _ (tw 0) (cV (tC (.str (Str.ofString " "))) pD)))))
     (aj (rH (i:=2) (N':=["words"]) (pk:=[none]) nB.nd rfl (Or.inl rfl) rfl (cc.of (by rfl)) (aQ (dc gw (pv 1) (dC ah) (dC (k6 g8 ah)))) (fun s H ex=>ao (i:=0) (by show(["words"]:List Str).Nodup;decide +kernel) rfl (Or.inl rfl))
       (fun s H ex=>aq GO hr1 rfl mO kO bO .nil aH (aa (pv 0) ad)))
     (ag (vM fun pn W=>ag (ar (jM M GI hr rfl mC bI .nil aH (aa (dc (gw:SlR _ (xF K)) (aK (aG:IxR _ (qu K)) (pv 1) ah (fun _ _=>rfl)) (dC ah) eV) (aa (pv 2) ad))))))),?_⟩
   have hs:=aP
   have hsz:(4000:Nat)≤sizeLine:=by rw[sizeLine_eq];decide
   have hb8:ns.length≤8:=by have:=B.b8;unfold bsR at this;rw[List.length_map] at this;exact this
   have hs12:=B.s12
   have hlen:=oj B
   have hrw:=p9 B
   have hpl:(er so ns lk).length=ns.length+2:=by
     have:=congrArg List.length hrw
     rw[List.length_map,iL] at this
     exact this
   refine cut (fun σ' H'=>∃ lr,σ'=[some (.str (cR so ns lk)),some (.ref lr),none,none]∧af H H'∧xz H' lr (gN so ns lk)) ?_ ?_
   · walk_at "dm"
     refine⟨rfl,rfl,by omega,fun lo hlo=>?_⟩
     rw[kq B]
     have Sa:af H (upd H lo (.lst ((er so ns lk).map V.str))):=af.updN hlo
     generalize hG:upd H lo (.lst ((er so ns lk).map V.str))=G at Sa
     have hGl:G lo=some (.lst ((er so ns lk).map V.str)):=by rw[←hG];exact ac
     refine⟨⟨_,SqL.of hGl⟩,fun D hD=>?_⟩
     refine nw (H0:=G) (ax (SqL.of hGl)) (by rw[List.length_map];omega) (fun i xs σ' H'=>(∃ o,σ'=[o])∧af G H'∧H' D=some (.lst xs)∧∃ qs:List Addr,xs=qs.map V.ref∧qs.length=i∧∀ (j:Nat) p ws,qs[j]?=some p→(gN so ns lk)[j]?=some ws→hide H' D p=some (.lst (ws.map V.str)))
       ⟨⟨none,rfl⟩,af.updN hD,ac,[],rfl,rfl,(by intro j p b h;simp at h)⟩ (fun i xs σ' H' ⟨_,h1,_,qs,h2,h3,_⟩=>⟨h1,by rw[h2,List.length_map];exact h3⟩) ?_ ?_
     · rintro i xs σ' H' x hi hx ⟨⟨o,rfl⟩,hS,hHD,qs,rfl,hql,hqB⟩ R hR
       rw[List.getElem?_map] at hx
       obtain⟨p,hp,rfl⟩:=Option.map_eq_some_iff.mp hx
       have hwi:(gN so ns lk)[i]?=some (Txt.split p (Str.ofString " ")):=by rw[←hrw,List.getElem?_map,hp];rfl
       have hpl2:p.length≤(cR so ns lk).length:=by
         have:=PyProof.Rows.part_short (x:=cR so ns lk) (y:=Str.ofString "\n") (a:=p) (by rw[kq B];exact List.mem_of_getElem? hp)
         exact this
       walk_at "dm"
       refine⟨rfl,rfl,by omega,fun t ht=>?_⟩
       have htD:t≠D:=fun e=>by rw[e,hHD] at ht;cases ht
       have S4:af H' (upd H' t (.lst ((Txt.split p (Str.ofString " ")).map V.str))):=af.updN ht
       refine hR _ _ _ (S4 _ _ hHD) ⟨⟨_,rfl⟩,(hS.trans S4).step hD,ac,qs++[t],by rw[List.map_append];rfl,by rw[List.length_append,hql];rfl,fun j p2 b2 hp2 hb2=>?_⟩
       rw[dF]
       by_cases hj:j < i
       · rw[List.getElem?_append_left (by omega)] at hp2
         exact af.hide S4 _ _ (hqB j p2 b2 hp2 hb2)
       · have hj2:j=i:=by
           have:=(List.getElem?_eq_some_iff.mp hp2).1
           rw[List.length_append,hql] at this
           simp only[List.length_singleton] at this
           omega
         subst hj2
         rw[List.getElem?_append_right (by omega),hql,Nat.sub_self] at hp2
         cases hp2
         rw[hwi] at hb2
         cases hb2
         rw[bq htD];exact ac
     · rintro xs σ' H' ⟨_,hS,hHD,qs,rfl,hql,hqB⟩
       rw[List.length_map] at hql
       exact⟨Sa.trans hS,qs,hHD,by rw[hql,hpl,iL],fun j p ws hp hw=>cu _ _ (hqB j p ws hp hw)⟩
   rintro σ1 H1 ⟨lr,rfl,S1,ps,hlr,hpsl,hP⟩
   rw[iL] at hpsl
   refine cut (fun σ' H'=>∃ lb,σ'=[some (.str (cR so ns lk)),some (.ref lr),some (.ref lb),none]∧af H1 H'∧jw H' lb (bsR so ns lk)) ?_ ?_
   · walk_at "dm"
     refine⟨_,SqL.of hlr,fun lo hlo=>?_⟩
     have ec:eY (ps.map V.ref) (some 1) (some (-1))=((ps.drop 1).take ns.length).map V.ref:=by
       rw[wy (by rw[List.length_map];omega),List.length_map,hpsl,List.map_take,List.map_drop]
       rfl
     rw[ec]
     have Sa:af H1 (upd H1 lo (.lst (((ps.drop 1).take ns.length).map V.ref))):=af.updN hlo
     generalize hG:upd H1 lo (.lst (((ps.drop 1).take ns.length).map V.ref))=G at Sa
     have hGl:G lo=some (.lst (((ps.drop 1).take ns.length).map V.ref)):=by rw[←hG];exact ac
     have htl:((ps.drop 1).take ns.length).length=ns.length:=by rw[List.length_take,List.length_drop];omega
     refine⟨⟨_,SqL.of hGl⟩,fun D hD=>?_⟩
     refine nw (H0:=G) (ax (SqL.of hGl)) (by rw[List.length_map];omega) (fun i xs σ' H'=>(∃ o,σ'=[o])∧af G H'∧H' D=some (.lst xs)∧∃ qs:List Addr,xs=qs.map V.ref∧qs.length=i∧∀ (j:Nat) p b,qs[j]?=some p→(bsR so ns lk)[j]?=some b→l5 (hide H' D) p b)
       ⟨⟨none,rfl⟩,af.updN hD,ac,[],rfl,rfl,(by intro j p b h;simp at h)⟩ (fun i xs σ' H' ⟨_,h1,_,qs,h2,h3,_⟩=>⟨h1,by rw[h2,List.length_map];exact h3⟩) ?_ ?_
     · rintro i xs σ' H' x hi hx ⟨⟨o,rfl⟩,hS,hHD,qs,rfl,hql,hqB⟩ R hR
       rw[List.getElem?_map] at hx
       obtain⟨p,hp,rfl⟩:=Option.map_eq_some_iff.mp hx
       rw[List.length_map,htl] at hi
       obtain⟨n,hn⟩:∃ n,ns[i]?=some n:=⟨_,List.getElem?_eq_getElem hi⟩
       have hp1:ps[i+1]?=some p:=by
         rw[List.getElem?_take,if_pos hi,List.getElem?_drop] at hp
         rw[Nat.add_comm];exact hp
       have hHp:=(Sa.trans hS) _ _ (hP (i+1) p _ hp1 (pY hn))
       walk_at "dm"
       refine⟨p,_,n,_,rfl,SqL.of hHp,by rw[List.length_map];omega,fun l3 t H2 S4 hl3 ht h1 h2=>?_⟩
       have hl3D:l3≠D:=fun e=>by rw[e,hHD] at hl3;cases hl3
       have htD:t≠D:=fun e=>by rw[e,hHD] at ht;cases ht
       refine hR _ _ _ (S4 _ _ hHD) ⟨⟨_,rfl⟩,(hS.trans S4).step hD,ac,qs++[t],by rw[List.map_append];rfl,by rw[List.length_append,hql];rfl,fun j p2 b2 hp2 hb2=>?_⟩
       rw[dF]
       by_cases hj:j < i
       · rw[List.getElem?_append_left (by omega)] at hp2
         exact af.bthAt (af.hide S4) (hqB j p2 b2 hp2 hb2)
       · have hj2:j=i:=by
           have:=(List.getElem?_eq_some_iff.mp hp2).1
           rw[List.length_append,hql] at this
           simp only[List.length_singleton] at this
           omega
         subst hj2
         rw[List.getElem?_append_right (by omega),hql,Nat.sub_self] at hp2
         cases hp2
         unfold bsR at hb2
         rw[List.getElem?_map,hn] at hb2
         cases hb2
         exact⟨l3,by rw[bq htD];exact h1,by rw[bq hl3D];exact h2⟩
     · rintro xs σ' H' ⟨_,hS,hHD,qs,rfl,hql,hqB⟩
       rw[List.length_map,htl] at hql
       exact⟨Sa.trans hS,qs,hHD,by unfold bsR;rw[hql,List.length_map],fun j p b hp hb=>af.bthAt cu (hqB j p b hp hb)⟩
   rintro σ2 H2 ⟨lb,rfl,S2,hb⟩
   obtain⟨p0,hp0⟩:∃ p,ps[0]?=some p:=⟨_,List.getElem?_eq_getElem (by omega)⟩
   have hH0:=S2 _ _ (hP 0 p0 _ hp0 pA)
   have e0:atI (ps.map V.ref) ((0:Nat):Int)=some (V.ref p0):=eS (by rw[List.getElem?_map,hp0];rfl)
   walk_at "dm"
   refine⟨_,SqL.of (S2 _ _ hlr),_,e0,p0,rfl,_,SqL.of hH0,fun l2 hl2=>?_⟩
   have ec:eY ((Str.ofString "shades"::so).map V.str) (some 1) none=so.map V.str:=oz (k:=1) (by rw[List.length_map,List.length_cons];omega)
   rw[ec]
   have Sa:af H2 (upd H2 l2 (.lst (so.map V.str))):=af.updN hl2
   intro x dx hx hdx hne
   have S5:af (upd H2 l2 (.lst (so.map V.str))) (upd (upd (upd H2 l2 (.lst (so.map V.str))) dx (.own x)) x (.ins C dx [])):=(af.updN hdx).step hx
   have S6:af (upd H2 l2 (.lst (so.map V.str))) (hide (upd (upd (upd H2 l2 (.lst (so.map V.str))) dx (.own x)) x (.ins C dx [])) x):=fun y o e=>by
     rw[bq (ak e hx)];exact S5 y o e
   refine⟨x,dx,l2,lb,so,bsR so ns lk,rfl,ac,SqL.of (S5 _ _ ac),af.bths (Sa.trans S5) hb,B,fun H3 S3 hbk=>⟨rfl,?_⟩⟩
   exact q x H3 (((S1.trans S2).trans Sa).free hx) ((((S1.trans S2).trans Sa).trans S6).trans S3) hbk
def uE (C:Addr):Sp:=fun vs H Q _=>∃ (so ns:List Str)(lk:Str→Str→Str),vs=[.str (cR so ns lk)]∧aO so (bsR so ns lk)∧PyProof.Rows.sortedS so=true∧PyProof.Rows.sortedS ns=true∧∀ x H',H x=none→af H H'→bg H' C x so (bsR so ns lk)→Q (.ref x) H'
theorem ud:au ["text", "book"] ["text"] (ae mz):=⟨rfl,rfl,rfl,by decide +kernel,rfl,by decide +kernel,by decide +kernel⟩
theorem vC {C f fL fW:Addr}{fd fdL fdW:FuncData}(F:Fun K "read_book" "read_book" mz f fd)
   (GL:aw P w K mg base CX0 6 fL fdL ["text"] (q9 C))(kL:PySem.W.keepIn K (.ref fL)=true)(bL:az K fdL ["text"] [])(mL:mg "loosely_read"=some (.ref fL))
   (GW:aw P w K mg base CX0 3 fW fdW ["book"] (qQ C))(kW:PySem.W.keepIn K (.ref fW)=true)(bW:az K fdW ["book"] [])(mW:mg "write_book"=some (.ref fW)) :
   aw P w K mg base CX0 7 f fd ["text"] (uE C):=by
 refine F.ok ud (fun vs H Q E h=>?_) (fun cdv A outer s H vs Q E hr h=>?_)
 · obtain⟨_,_,_,rfl,_⟩:=h
   rfl
 · obtain⟨so,ns,lk,rfl,B,hso,hns,q⟩:=h
   have hr3:=hr.mono (j:=3) (by omega)
   refine⟨_,am (ay (i:=1) ud.nd rfl (Or.inl rfl) (aq GL hr rfl mL kL bL .nil aH (aa (pv 0) ad)))
     (am (aR (aF qU (aq GW hr3 rfl mW kW bW .nil aH (aa (pv 1) ad)) (pv 0) (aM _)) ck aB)
     (ag (ar (pv 1)))),?_⟩
   walk_at "dm"
   refine⟨so,ns,lk,rfl,B,fun x H1 hx S1 hbk=>⟨x,so,_,rfl,hbk,B,fun H2 so2 ns2 S2 h1 h2 h3 h4=>?_⟩⟩
   rw[km] at h3
   have e1:so2=so:=eP h2 hso h1
   have e2:ns2=ns:=eP h4 hns h3
   subst e1 e2
   rw[vG B]
   exact⟨rfl,aV (fun h=>absurd rfl h) (fun _=>q x H2 hx (S1.trans S2) (af.book S2 hbk))⟩
end

section
variable {P:Program}{w:World}{K:PySem.W.Frag}{mg:Str→Option Value}{base:Heap}
def l0 (C cN:Addr):Sp:=fun vs H Q E=>∃ (x:Addr)(ss:List Str)(bs:List (Str×List Str)) (z:Str),vs=[.ref x,.str z]∧bg H C x ss bs∧aO ss bs∧Shw z∧(z∈bs.map (·.1)→Q .non H)∧(z∉bs.map (·.1)→E (.ref cN) none H)
theorem pI {C f cN:Addr}{fd:FuncData}(F:Fun K "check_bath" "Book.check_bath" d8 f fd)(c:Cls K C)(nT:bV K C "tables")(XN:gd K cN)(mN:mg "NoBath"=some (.ref cN)):aw P w K mg base (CX1 P w) 1 f fd ["self", "bath"] (l0 C cN):=by
 refine F.okX oM (fun vs H Q E h=>?_) (fun cdv A outer s H vs Q E hr h=>?_)
 · obtain⟨_,_,_,_,rfl,_⟩:=h
   rfl
 · obtain⟨x,ss,bs,z,rfl,⟨dx,t,d,so,h1,h2,h3,h4,h5⟩,B,hz,q,qe⟩:=h
   have hu:(cr (CX1 P w) P w K mg base ["self", "bath"] "Book.check_bath" (ae d8) f cdv A outer s H E).A.units+1 < cLine:=by
     have:=hr.units
     exact Nat.lt_of_le_of_lt (Nat.add_le_add_left (by decide) _) this
   refine⟨_,ag (aR (e7 (dz hu (pv 1) (cb (pv 0) rfl))) (ag (cY rfl rfl mN XN.exc PySem.F.excBase_ValueError (aa (im (pv 1)) ad) il)) aB),?_⟩
   by_cases hm:z∈bs.map (·.1)
   · obtain⟨b,hb,rfl⟩:=List.mem_map.mp hm
     obtain⟨r,hg,hr⟩:=gJ.get B h5 hb
     walk_at "dm"
     exact⟨C,dx,_,h1,c,nT,_,dt,d,rfl,_,hg,q hm⟩
   · obtain⟨ds,e1,e2,e3⟩:=h5
     walk_at "dm"
     refine⟨C,dx,_,h1,c,nT,_,dt,d,rfl,none,.inl ⟨_,Sum.inr z,e1,rfl,(cK _ _ _ hm).symm⟩,?_⟩
     exact⟨hz.1,hz.2,fun y=>⟨by decide,qe hm⟩⟩
def jW (C cS:Addr):Sp:=fun vs H Q E=>∃ (x:Addr)(ss:List Str)(bs:List (Str×List Str)) (y:Str),vs=[.ref x,.str y]∧bg H C x ss bs∧Shw y∧(y∈ss→Q .non H)∧(y∉ss→E (.ref cS) none H)
theorem og {C f cS:Addr}{fd:FuncData}(F:Fun K "check_shade" "Book.check_shade" eC f fd)(c:Cls K C)(nO:bV K C "order")(XS:gd K cS)(mS:mg "NoShade"=some (.ref cS)):aw P w K mg base (CX1 P w) 1 f fd ["self", "shade"] (jW C cS):=by
 refine F.okX mw (fun vs H Q E h=>?_) (fun cdv A outer s H vs Q E hr h=>?_)
 · obtain⟨_,_,_,_,rfl,_⟩:=h
   rfl
 · obtain⟨x,ss,bs,y,rfl,⟨dx,t,d,so,h1,h2,h3,h4,h5⟩,hy,q,qe⟩:=h
   refine⟨_,ag (aR (aF dW (pv 1) (cb (pv 0) rfl) (by with_unfolding_all rfl)) (ag (cY rfl rfl mS XS.exc PySem.F.excBase_ValueError (aa (im (pv 1)) ad) il)) aB),?_⟩
   by_cases hm:y∈ss
   · have hyo:y∈so:=h3.mem_iff.mpr hm
     walk_at "dm"
     refine⟨C,dx,_,h1,c,nO,_,gb,t,rfl,_,.inr (SqT.of h2),rfl,ee so,?_⟩
     rw[fF,decide_eq_true hyo]
     exact q hm
   · have hyo:y∉so:=fun h=>hm (h3.mem_iff.mp h)
     walk_at "dm"
     refine⟨C,dx,_,h1,c,nO,_,gb,t,rfl,_,.inr (SqT.of h2),rfl,ee so,?_⟩
     rw[fF,decide_eq_false hyo]
     exact⟨hy.1,hy.2,fun w=>⟨by decide,qe hm⟩⟩
end

section
variable {P:Program}{w:World}{K:PySem.W.Frag}{mg:Str→Option Value}{base:Heap}
abbrev Bk:=List Str×List (Str×List Str)
structure Hs where
 cl:List (Str×Str)
 day:Int
 dp:List (Int×Str×Str×Str)
 bk:List (Int×Bk)
def clV (cl:List (Str×Str)):List (Key×V):=cl.map fun c=>(Sum.inr c.1,V.str c.2)
def bkV (bk:List (Int×Bk))(rs:List Addr):List (Key×V):=(bk.zip rs).map fun e=>(Sum.inl e.1.1,V.ref e.2)
structure Ad where
 x:Addr
 dx:Addr
 d1:Addr
 ls:Addr
 db:Addr
def hid (H:Hp)(A:Ad):Hp:=fun b=>if b=A.x∨b=A.d1∨b=A.ls∨b=A.db then none else H b
theorem b9 {H:Hp}{A:Ad}:af (hid H A) H:=fun b o e=>by
 unfold hid at e
 split at e
 · cases e
 · exact e
theorem ff {H H':Hp}{A:Ad}(S:af H H'):af (hid H A) (hid H' A):=fun b o e=>by
 unfold hid at e ⊢
 split at e
 · cases e
 · rename_i h;rw[if_neg h];exact S b o e
def hfs (A:Ad) (day:Int):List (Str×V):=[("first_shades",.ref A.d1),("day_now",.int day),("standing",.ref A.ls),("books_from",.ref A.db)]
structure aX (H:Hp)(C CB:Addr)(A:Ad)(W:Hp)(ss:List Str) (h:Hs):Prop where
 ins:H A.x=some (.ins C A.dx (hfs A h.day))
 cl:H A.d1=some (.dK (clV h.cl))
 dp:∃ ps:List Addr,H A.ls=some (.lst (ps.map V.ref))∧ps.length=h.dp.length∧∀ (i:Nat) p e,ps[i]?=some p→h.dp[i]?=some e→W p=some (.tup [.int e.1,.str e.2.1,.str e.2.2.1,.str e.2.2.2])
 bk:∃ rs:List Addr,H A.db=some (.dK (bkV h.bk rs))∧rs.length=h.bk.length∧∀ (i:Nat) r e,rs[i]?=some r→h.bk[i]?=some e→bg W CB r e.2.1 e.2.2
 ne:A.d1≠A.db
 sub:af W (hid H A)
def yK (H W W':Hp):Prop:=af W W'∧∀ b o,W b=none→H b=some o→W' b=none
structure dj (ss:List Str)(names:List Str) (h:Hs):Prop where
 cnd:(h.cl.map (·.1)).Nodup
 csh:∀ c∈h.cl,c.2∈ss
 cnm:∀ c∈h.cl,bu c.1=true
 d1:1≤h.day
 d4:h.day≤400
 dl:h.dp.length≤1000
 dd:∀ e∈h.dp,1≤e.1∧e.1≤h.day
 ds:∀ e∈h.dp,e.2.2.2∈ss
 k1:∃ b r,h.bk=(1,b)::r
 ks:h.bk.Pairwise (fun a b=>a.1 < b.1)
 kd:∀ e∈h.bk,1≤e.1∧e.1≤h.day
 kl:h.bk.length≤400
 kb:∀ e∈h.bk,aO e.2.1 e.2.2∧(∀ n,n∈e.2.2.map (·.1)↔n∈names)∧∀ z,z∈e.2.1↔z∈ss
def dv:List (Int×Bk)→Int→Bk
 | [],_=>([],[])
 | [e],_=>e.2
 | e::e2::r,d=>if e2.1≤d then dv (e2::r) d else e.2
theorem qK:∀ (bk:List (Int×Bk)) (d M:Int)(b:Bk),bk.Pairwise (fun a b=>a.1 < b.1)→(M,b)∈bk→M≤d→(∀ e∈bk,e.1≤d→e.1≤M)→dv bk d=b
 | [],_,_,_,_,h,_,_=>by cases h
 | [e],d,M,b,_,h,_,_=>by rw[List.mem_singleton] at h;rw[←h];rfl
 | e::e2::r,d,M,b,hp,h,hM,hx=>by
   have hp2:=List.pairwise_cons.mp hp
   unfold dv
   by_cases h2:e2.1≤d
   · rw[if_pos h2]
     rcases List.mem_cons.mp h with h | h
     · have h3:=hp2.1 e2 List.mem_cons_self
       have h4:=hx e2 (List.mem_cons_of_mem _ List.mem_cons_self) h2
       rw[←h] at h3
       exact absurd h3 (by show ¬(M < e2.1);omega)
     · exact qK (e2::r) d M b hp2.2 h hM fun e he=>hx e (List.mem_cons_of_mem _ he)
   · rw[if_neg h2]
     rcases List.mem_cons.mp h with h | h
     · rw[←h]
     · rcases List.mem_cons.mp h with h | h
       · rw[←h] at h2;exact absurd hM h2
       · have:=(List.pairwise_cons.mp hp2.2).1 _ h
         exact absurd hM (by show ¬(M≤d);have h5:e2.1 < M:=this;omega)
theorem m8 {cl:List (Str×Str)}{c:Str×Str}(hd:(cl.map (·.1)).Nodup)(h:c∈cl):bP (clV cl) (Sum.inr c.1)=some (V.str c.2):=by
 induction cl with
 | nil=>cases h
 | cons a r ih =>
   rw[List.map_cons,List.nodup_cons] at hd
   unfold clV bP
   rw[List.map_cons,List.find?_cons]
   by_cases e:a.1=c.1
   · rcases List.mem_cons.mp h with h | h
     · rw[h];simp
     · exact absurd (List.mem_map_of_mem (f:=(·.1)) h) (by rw[←e];exact hd.1)
   · rcases List.mem_cons.mp h with h | h
     · exact absurd (by rw[h]) e
     · have:=ih hd.2 h
       unfold clV bP at this
       simp only[Sum.inr.injEq,e,decide_false]
       exact this
theorem fm {cl:List (Str×Str)}{z:Str}(h:z∉cl.map (·.1)):bP (clV cl) (Sum.inr z)=none:=by
 unfold bP clV
 rw[Option.map_eq_none_iff,List.find?_eq_none]
 intro kv hkv
 obtain⟨c,hc,rfl⟩:=List.mem_map.mp hkv
 simp only[Sum.inr.injEq,decide_eq_true_eq]
 exact fun e=>h (by rw[←e];exact List.mem_map_of_mem hc)
theorem af.house {H H':Hp}{C CB:Addr}{A:Ad}{W:Hp}{ss:List Str}{h:Hs}(S:af H H')(hh:aX H C CB A W ss h):aX H' C CB A W ss h:=by
 obtain⟨h1,h2,⟨ps,h3,h4,h5⟩,⟨rs,h6,h7,h8⟩,h9,h10⟩:=hh
 exact⟨S _ _ h1,S _ _ h2,⟨ps,S _ _ h3,h4,h5⟩,⟨rs,S _ _ h6,h7,h8⟩,h9,h10.trans (ff S)⟩
theorem wk {H:Hp}{A:Ad}{b:Addr}{o:HO}(b1:b≠A.x)(b2:b≠A.d1)(b3:b≠A.ls)(b4:b≠A.db):hid (upd H b o) A=upd (hid H A) b o:=by
 funext y
 unfold hid
 by_cases hy:y=A.x∨y=A.d1∨y=A.ls∨y=A.db
 · rw[if_pos hy]
   have hyb:y≠b:=fun e=>by rw[e] at hy;rcases hy with z | z | z | z;exact b1 z;exact b2 z;exact b3 z;exact b4 z
   rw[ai hyb,if_pos hy]
 · rw[if_neg hy]
   by_cases e:y=b
   · rw[e,ac,ac]
   · rw[ai e,ai e,if_neg hy]
theorem aX.up {H:Hp}{C CB:Addr}{A:Ad}{W:Hp}{ss:List Str}{h:Hs}(hh:aX H C CB A W ss h):af W H:=hh.sub.trans b9
theorem eB {A:Ad}{d:Int}:List.lookup (Str.ofString "first_shades") (hfs A d)=some (.ref A.d1):=rfl
theorem xU {A:Ad}{d:Int}:List.lookup (Str.ofString "day_now") (hfs A d)=some (.int d):=rfl
theorem k7 {A:Ad}{d:Int}:List.lookup (Str.ofString "standing") (hfs A d)=some (.ref A.ls):=rfl
theorem nQ {A:Ad}{d:Int}:List.lookup (Str.ofString "books_from") (hfs A d)=some (.ref A.db):=rfl
theorem gY {A:Ad}{d:Int}{m:Str}(h1:(m==Str.ofString "first_shades")=false)(h2:(m==Str.ofString "day_now")=false)(h3:(m==Str.ofString "standing")=false)(h4:(m==Str.ofString "books_from")=false):List.lookup m (hfs A d)=none:=by
 unfold hfs
 rw[List.lookup_cons,h1]
 show List.lookup m [(Str.ofString "day_now",V.int d),(Str.ofString "standing",V.ref A.ls),(Str.ofString "books_from",V.ref A.db)]=none
 rw[List.lookup_cons,h2]
 show List.lookup m [(Str.ofString "standing",V.ref A.ls),(Str.ofString "books_from",V.ref A.db)]=none
 rw[List.lookup_cons,h3]
 show List.lookup m [(Str.ofString "books_from",V.ref A.db)]=none
 rw[List.lookup_cons,h4]
 rfl
structure Hx (K:PySem.W.Frag)(mg:Str→Option Value)(C:Addr):Prop where
 c:Cls K C
 n1:bV K C "first_shades"
 n2:bV K C "day_now"
 n3:bV K C "standing"
 n4:bV K C "books_from"
 fd:∃ t,mg "FIRST_DAY"=some (.int 1 t)
 ld:∃ t,mg "LAST_DAY"=some (.int 400 t)
 mc:∃ t,mg "MOST_CLOTHS"=some (.int 50 t)
 md:∃ t,mg "MOST_DIPS"=some (.int 1000 t)
 max:mg "max"=none
def nr (cND:Addr):Sp:=fun vs H Q E=>∃ d:Int,vs=[.int d]∧((1≤d∧d≤400)→Q .non H)∧(¬(1≤d∧d≤400)→E (.ref cND) none H)
theorem xI:au ["day"] ["day"] (ae lX):=⟨rfl,rfl,rfl,by decide +kernel,rfl,by decide +kernel,by decide +kernel⟩
theorem ww {f:Addr}{fd:FuncData}{CH CB cND:Addr}(F:Fun K "check_day" "check_day" lX f fd)
   (T:Txt mg)(hX:Hx K mg CH)(cB:Cls K CB)(XND:gd K cND)(mND:mg "NoDay"=some (.ref cND)) :
   aw P w K mg base (CX1 P w) 1 f fd ["day"] (nr cND):=by
 refine F.okX xI (fun vs H Q E h=>?_) (fun cdv A outer s H vs Q E hr h=>?_)
 · obtain⟨_,rfl,_⟩:=h
   rfl
 · obtain⟨d,rfl,q,qe⟩:=h
   obtain⟨_,hfd⟩:=hX.fd
   obtain⟨_,hld⟩:=hX.ld
   refine⟨_,(ag (aR (PW.pt (fc (aF js (pv 0) (da (v:=.int 1) rfl hfd ⟨_,rfl⟩) (aM _)) (eu (aF iE (pv 0) (da (v:=.int 400) rfl hld ⟨_,rfl⟩) (aM _))))) (ag (cY rfl rfl mND XND.exc PySem.F.excBase_ValueError (aa ba ad) il)) aB)),?_⟩
   walk_at "dm"
   refine aV (fun h=>⟨by decide,qe (by omega)⟩) (fun h1=>aV (fun h=>⟨by decide,qe (by omega)⟩) (fun h2=>q (by omega)))
def uR (CH CB cNC:Addr):Sp:=fun vs H Q E=>∃ (A:Ad)(W:Hp)(ss:List Str) (h:Hs) (z:Str),vs=[.ref A.x,.str z]∧aX H CH CB A W ss h∧Shw z∧(h.cl.map (·.1)).Nodup∧(z∈h.cl.map (·.1)→Q .non H)∧(z∉h.cl.map (·.1)→E (.ref cNC) none H)
theorem yF:au ["self", "cloth"] ["self", "cloth"] (ae ez):=⟨rfl,rfl,rfl,by decide +kernel,rfl,by decide +kernel,by decide +kernel⟩
theorem xS {f:Addr}{fd:FuncData}{CH CB cNC:Addr}(F:Fun K "check_cloth" "House.check_cloth" ez f fd)
   (T:Txt mg)(hX:Hx K mg CH)(cB:Cls K CB)(XNC:gd K cNC)(mNC:mg "NoCloth"=some (.ref cNC)) :
   aw P w K mg base (CX1 P w) 1 f fd ["self", "cloth"] (uR CH CB cNC):=by
 refine F.okX yF (fun vs H Q E h=>?_) (fun cdv A outer s H vs Q E hr h=>?_)
 · obtain⟨_,_,_,_,_,rfl,_⟩:=h
   rfl
 · obtain⟨A0,W,ss,h,z,rfl,hh,hz,hnd,q,qe⟩:=h
   have hu:(cr (CX1 P w) P w K mg base ["self", "cloth"] "House.check_cloth" (ae ez) f cdv A outer s H E).A.units+1 < cLine:=by
     have:=hr.units
     exact Nat.lt_of_le_of_lt (Nat.add_le_add_left (by decide) _) this
   refine⟨_,(ag (aR (e7 (dz hu (pv 1) (cb (pv 0) rfl))) (ag (cY rfl rfl mNC XNC.exc PySem.F.excBase_ValueError (aa (im (pv 1)) ad) il)) aB)),?_⟩
   by_cases hm:z∈h.cl.map (·.1)
   · obtain⟨c,hc,rfl⟩:=List.mem_map.mp hm
     walk_at "dm"
     exact⟨CH,A0.dx,_,hh.ins,hX.c,hX.n1,_,eB,A0.d1,rfl,_,.inl ⟨_,Sum.inr c.1,.inl hh.cl,rfl,(m8 hnd hc).symm⟩,q hm⟩
   · walk_at "dm"
     exact⟨CH,A0.dx,_,hh.ins,hX.c,hX.n1,_,eB,A0.d1,rfl,none,.inl ⟨_,Sum.inr z,.inl hh.cl,rfl,(fm hm).symm⟩,hz.1,hz.2,fun y=>⟨by decide,qe hm⟩⟩
def wL (CH CB cND cLa:Addr):Sp:=fun vs H Q E=>∃ (A:Ad)(W:Hp)(ss:List Str) (h:Hs) (d:Int),vs=[.ref A.x,.int d]∧aX H CH CB A W ss h∧((1≤d∧d≤400)→h.day≤d→Q .non H)∧(¬(1≤d∧d≤400)→E (.ref cND) none H)∧((1≤d∧d≤400)→d < h.day→E (.ref cLa) none H)
theorem yk:au ["self", "day"] ["self", "day"] (ae je):=⟨rfl,rfl,rfl,by decide +kernel,rfl,by decide +kernel,by decide +kernel⟩
theorem xN {f fCD:Addr}{fd fdCD:FuncData}{CH CB cLa cND:Addr}(F:Fun K "check_day_to_do" "House.check_day_to_do" je f fd)
   (T:Txt mg)(hX:Hx K mg CH)(cB:Cls K CB)(XLa:gd K cLa)(mLa:mg "Late"=some (.ref cLa))
   (GCD:aw P w K mg base (CX1 P w) 1 fCD fdCD ["day"] (nr cND))(kCD:PySem.W.keepIn K (.ref fCD)=true)(bCD:az K fdCD ["day"] [])(mCD:mg "check_day"=some (.ref fCD)) :
   aw P w K mg base (CX1 P w) 2 f fd ["self", "day"] (wL CH CB cND cLa):=by
 refine F.okX yk (fun vs H Q E h=>?_) (fun cdv A outer s H vs Q E hr h=>?_)
 · obtain⟨_,_,_,_,_,rfl,_⟩:=h
   rfl
 · obtain⟨A0,W,ss,h,d,rfl,hh,q,qd,ql⟩:=h
   have hr1:=hr.mono (j:=1) (by omega)
   refine⟨_,(aj (aU (aq GCD hr1 rfl mCD kCD bCD .nil eN (aa (pv 1) ad)))
     (ag (aR (aF js (pv 1) (cb (pv 0) rfl) (aM _)) (ag (cY rfl rfl mLa XLa.exc PySem.F.excBase_ValueError (aa ba ad) il)) aB))),?_⟩
   refine aW (fun σ' H'=>(1≤d∧d≤400)∧σ'=[some (.ref A0.x),some (.int d)]∧H'=H) (fun R hR=>?_) ?_
   · walk_at "dm"
     exact⟨d,rfl,fun hd=>hR _ _ ⟨hd,rfl,rfl⟩,qd⟩
   rintro σ1 H1 ⟨hd,rfl,rfl⟩
   walk_at "dm"
   exact⟨CH,A0.dx,_,hh.ins,hX.c,hX.n2,_,xU,_,rfl,aV (fun h1=>⟨by decide,ql hd h1⟩) (fun h1=>q hd (by omega))⟩
end

section
variable {P:Program}{w:World}{K:PySem.W.Frag}{mg:Str→Option Value}{base:Heap}
theorem mH {bk:List (Int×Bk)}{rs:List Addr}(h:rs.length=bk.length):(bkV bk rs).length=bk.length:=by
 unfold bkV
 rw[List.length_map,List.length_zip,h,Nat.min_self]
theorem rp:∀ {bk:List (Int×Bk)}{rs:List Addr}{i:Nat}{e:Int×Bk}{r:Addr},bk.Pairwise (fun a b=>a.1 < b.1)→bk[i]?=some e→rs[i]?=some r→bP (bkV bk rs) (Sum.inl e.1)=some (V.ref r)
 | [],_,i,_,_,_,h,_=>by simp at h
 | a::bk,[],i,_,_,_,_,h=>by simp at h
 | a::bk,r0::rs,0,e,r,_,h1,h2=>by
   simp only[List.getElem?_cons_zero,Option.some.injEq] at h1 h2
   subst h1 h2
   unfold bkV bP
   simp
 | a::bk,r0::rs,i+1,e,r,hp,h1,h2=>by
   simp only[List.getElem?_cons_succ] at h1 h2
   have hp2:=List.pairwise_cons.mp hp
   have hlt:=hp2.1 e (List.mem_of_getElem? h1)
   have ih:=rp hp2.2 h1 h2
   unfold bkV bP at ih ⊢
   rw[List.zip_cons_cons,List.map_cons,List.find?_cons]
   have hne:¬(a.1=e.1):=by omega
   simp only[Sum.inl.injEq,hne,decide_false]
   exact ih
def mV (CH CB cND:Addr):Sp:=fun vs H Q E=>∃ (A:Ad)(W:Hp)(ss names:List Str) (h:Hs) (d:Int),vs=[.ref A.x,.int d]∧aX H CH CB A W ss h∧dj ss names h∧((1≤d∧d≤400)→∀ r H',af H H'→bg W CB r (dv h.bk d).1 (dv h.bk d).2→Q (.ref r) H')∧(¬(1≤d∧d≤400)→E (.ref cND) none H)
theorem wm:au ["self", "day"] ["self", "day"] (ae hU):=⟨rfl,rfl,rfl,by decide +kernel,rfl,by decide +kernel,by decide +kernel⟩
theorem tN {f fCD:Addr}{fd fdCD:FuncData}{CH CB cND:Addr}(F:Fun K "book" "House.book" hU f fd)
   (T:Txt mg)(hX:Hx K mg CH)(cB:Cls K CB)
   (GCD:aw P w K mg base (CX1 P w) 1 fCD fdCD ["day"] (nr cND))(kCD:PySem.W.keepIn K (.ref fCD)=true)(bCD:az K fdCD ["day"] [])(mCD:mg "check_day"=some (.ref fCD)) :
   aw P w K mg base (CX1 P w) 2 f fd ["self", "day"] (mV CH CB cND):=by
 refine F.okX wm (fun vs H Q E h=>?_) (fun cdv A outer s H vs Q E hr h=>?_)
 · obtain⟨_,_,_,_,_,_,rfl,_⟩:=h
   rfl
 · obtain⟨A0,W,ss,names,h,d,rfl,hh,ho,q,qd⟩:=h
   have hu:(cr (CX1 P w) P w K mg base ["self", "day"] "House.book" (ae hU) f cdv A outer s H E).A.units+1 < cLine:=by
     have:=hr.units
     exact Nat.lt_of_le_of_lt (Nat.add_le_add_left (by decide) _) this
   have hr1:=hr.mono (j:=1) (by omega)
   refine⟨_,(aj (aU (aq GCD hr1 rfl mCD kCD bCD .nil eN (aa (pv 1) ad)))
     (ag (ar (ca hu (cb (pv 0) rfl) (al (sR rfl) (by rfl) hX.max (by decide +kernel) (aa (v7 (kJ (N':=["start", "day"]) (pk:=[none,some 1]) rfl (cc.of (by rfl)) (rJ (cb (pv 0) rfl)) (fun s H ex=>(ao (i:=0) (by show(["start", "day"]:List Str).Nodup;decide +kernel) rfl (Or.inl rfl))) (fun s H ex=>(aF xm (pv 0) (pv 1) (aM _))) (fun s H ex=>(pv 0)))) ad)) (fun _ _=>rfl))))),?_⟩
   have hs:=aP
   refine aW (fun σ' H'=>(1≤d∧d≤400)∧σ'=[some (.ref A0.x),some (.int d)]∧H'=H) (fun R hR=>?_) ?_
   · walk_at "dm"
     exact⟨d,rfl,fun hd=>hR _ _ ⟨hd,rfl,rfl⟩,qd⟩
   rintro σ1 H1 ⟨hd,rfl,rfl⟩
   obtain⟨rs,hdb,hrl,hrB⟩:=hh.bk
   have hkl:=ho.kl
   have hnf:∀ o u,H1 A0.db≠some (.frz o u):=fun o u e=>by rw[hdb] at e;cases e
   have hkm:(bkV h.bk rs).map (·.1)=h.bk.map (fun e=>Sum.inl e.1):=by
     unfold bkV
     rw[List.map_map]
     have:(fun e:(Int×Bk)×Addr=>(Sum.inl e.1.1:Key))=(fun e=>(Sum.inl e.1:Key))∘Prod.fst:=rfl
     show(h.bk.zip rs).map (fun e=>(Sum.inl e.1.1:Key))=_
     rw[this,←List.map_map,List.map_fst_zip (by omega)]
   walk_at "dm"
   refine⟨CH,A0.dx,_,hh.ins,hX.c,hX.n4,_,nQ,CH,A0.dx,_,hh.ins,hX.c,hX.n4,_,nQ,A0.db,rfl,_,.inl ⟨hdb,fun o D hD=>?_⟩⟩
   have hDb:D≠A0.db:=fun e=>by rw[e,ac] at hD;cases hD
   refine gU (ji (H1:=upd H1 A0.db (.frz o (.dK (bkV h.bk rs)))) ac) (by rw[mH hrl];omega) hD (fun σ=>∃ o,σ=[o,some (.int d)]) (fun i=>decide ((h.bk.getD i (0,([],[]))).1≤d)) (fun i=>V.int (h.bk.getD i (0,([],[]))).1) ⟨none,rfl⟩ ?_ ?_
   · rintro i x σ' H3 hi ⟨k,v,hk,rfl⟩ ⟨o2,rfl⟩ hS R1 R0 h1 h0
     rw[mH hrl] at hi
     obtain⟨e,he⟩:∃ e,h.bk[i]?=some e:=⟨_,List.getElem?_eq_getElem hi⟩
     have ek:k=Sum.inl e.1:=by
       have:=congrArg (fun l=>l[i]?) hkm
       simp only[List.getElem?_map,hk,he] at this
       simpa using this
     subst ek
     have eg:h.bk.getD i (0,([],[]))=e:=by rw[List.getD_eq_getElem?_getD,he];rfl
     rw[eg] at h1 h0
     walk_at "dm"
     refine⟨_,rfl,aV (fun hle=>h1 (decide_eq_true (by simpa using hle)) _ ⟨_,rfl⟩) (fun hle=>h0 (decide_eq_false (by simpa using hle)) _ ⟨_,rfl⟩)⟩
   · refine .inr ⟨A0.db,o,_,by rw[ai (Ne.symm hDb)];exact ac,hnf,?_⟩
     have hD1:H1 D=none:=by rw[ai hDb] at hD;exact hD
     have SF:∀ L:List V,af H1 (upd (upd (upd H1 A0.db (.frz o (.dK (bkV h.bk rs)))) D (.lst L)) A0.db (.dK (bkV h.bk rs))):=fun L b ob e=>by
       by_cases hb:b=A0.db
       · rw[hb,hdb] at e;rw[hb,ac];exact e
       · rw[ai hb,ai (ak e hD1),ai hb];exact e
     rw[mH hrl]
     have eL:((List.range h.bk.length).filter (fun i=>decide ((h.bk.getD i (0,([],[]))).1≤d))).map (fun i=>V.int (h.bk.getD i (0,([],[]))).1)=(((List.range h.bk.length).filter (fun i=>decide ((h.bk.getD i (0,([],[]))).1≤d))).map (fun i=>(h.bk.getD i (0,([],[]))).1)).map V.int:=by rw[List.map_map];rfl
     rw[eL]
     have mem:∀ M,M∈((List.range h.bk.length).filter (fun i=>decide ((h.bk.getD i (0,([],[]))).1≤d))).map (fun i=>(h.bk.getD i (0,([],[]))).1)↔∃ (i:Nat)(e:Int×Bk),h.bk[i]?=some e∧e.1≤d∧e.1=M:=fun M=>by
       rw[List.mem_map]
       constructor
       · rintro⟨i,hi,rfl⟩
         obtain⟨h1,h2⟩:=List.mem_filter.mp hi
         have hl:=List.mem_range.mp h1
         refine⟨i,h.bk.getD i (0,([],[])),?_,by simpa using h2,rfl⟩
         rw[List.getD_eq_getElem?_getD,List.getElem?_eq_getElem hl];rfl
       · rintro⟨i,e,h1,h2,rfl⟩
         have eg:h.bk.getD i (0,([],[]))=e:=by rw[List.getD_eq_getElem?_getD,h1];rfl
         exact⟨i,List.mem_filter.mpr ⟨List.mem_range.mpr (List.getElem?_eq_some_iff.mp h1).1,by rw[eg];exact decide_eq_true h2⟩,by rw[eg]⟩
     refine⟨_,SqL.of (by rw[ai hDb];exact ac),?_,fun M hM hmax=>?_⟩
     · obtain⟨b0,r0,hb0⟩:=ho.k1
       exact List.length_pos_of_mem ((mem 1).mpr ⟨0,(1,b0),by rw[hb0];rfl,hd.1,rfl⟩)
     · obtain⟨i,e,he,hle,rfl⟩:=(mem M).mp hM
       obtain⟨r,hr0⟩:∃ r,rs[i]?=some r:=⟨_,List.getElem?_eq_getElem (by rw[hrl];exact(List.getElem?_eq_some_iff.mp he).1)⟩
       refine⟨A0.db,rfl,V.ref r,.inl ⟨_,Sum.inl e.1,.inl ac,rfl,(rp ho.ks he hr0).symm⟩,q hd r _ (SF _) ?_⟩
       rw[qK h.bk d e.1 e.2 ho.ks (List.mem_of_getElem? he) hle fun e2 he2 hle2=>by
         obtain⟨j,hj⟩:=List.getElem?_of_mem he2
         exact hmax _ ((mem e2.1).mpr ⟨j,e2,hj,hle2,rfl⟩)]
       exact hrB i r e hr0 he
def qx (CH CB:Addr):Sp:=fun vs H Q E=>∃ (A:Ad)(W:Hp)(ss names:List Str) (h:Hs),vs=[.ref A.x]∧aX H CH CB A W ss h∧dj ss names h∧(∀ r H',af H H'→bg W CB r (dv h.bk 400).1 (dv h.bk 400).2→Q (.ref r) H')
theorem xO:au ["self"] ["self"] (ae fb):=⟨rfl,rfl,rfl,by decide +kernel,rfl,by decide +kernel,by decide +kernel⟩
theorem wv {f fHB:Addr}{fd fdHB:FuncData}{CH CB cND:Addr}(F:Fun K "newest_book" "House.newest_book" fb f fd)
   (T:Txt mg)(hX:Hx K mg CH)(cB:Cls K CB)
   (GHB:aw P w K mg base (CX1 P w) 2 fHB fdHB ["self", "day"] (mV CH CB cND))(hmHB:bZ K CH "book" fHB)(bHB:az K fdHB ["self", "day"] []) :
   aw P w K mg base (CX1 P w) 3 f fd ["self"] (qx CH CB):=by
 refine F.okX xO (fun vs H Q E h=>?_) (fun cdv A outer s H vs Q E hr h=>?_)
 · obtain⟨_,_,_,_,_,rfl,_⟩:=h
   rfl
 · obtain⟨A0,W,ss,names,h,rfl,hh,ho,q⟩:=h
   obtain⟨_,hld⟩:=hX.ld
   have cH:=hX.c
   have hr2:=hr.mono (j:=2) (by omega)
   refine⟨_,(ag (ar (br (pv 0) cH hmHB GHB hr2 bHB .nil eN (aa (da (v:=.int 400) rfl hld ⟨_,rfl⟩) ad)))),?_⟩
   walk_at "dm"
   exact⟨A0.dx,_,hh.ins,gY (by decide +kernel) (by decide +kernel) (by decide +kernel) (by decide +kernel),A0,W,ss,names,h,400,rfl,hh,ho,fun _=>q,fun hn=>absurd (by omega) hn⟩
end

section
variable {P:Program}{w:World}{K:PySem.W.Frag}{mg:Str→Option Value}{base:Heap}
def bF (dp:List (Int×Str×Str×Str)) (c:Str) (d:Int):List (Int×Str×Str):=(dp.filter fun e=>decide (e.2.1=c)&&decide (e.1≤d)).map fun e=>(e.1,e.2.2.1,e.2.2.2)
def aY (h:Hs) (c:Str) (d:Int):Str:=match (bF h.dp c d).getLast? with
 | some e=>e.2.2
 | none=>((h.cl.lookup c).getD ⟨#[]⟩)
abbrev d0:Int×Str×Str×Str:=(0,⟨#[]⟩,⟨#[]⟩,⟨#[]⟩)
theorem nC {α β:Type}(l:List α)(dflt:α)(p:α→Bool)(f:α→β):(((List.range l.length).filter (fun i=>p (l.getD i dflt))).map (fun i=>f (l.getD i dflt)))=(l.filter p).map f:=by
 have e:l=(List.range l.length).map (fun i=>l.getD i dflt):=by
   refine List.ext_getElem? fun i=>?_
   rw[List.getElem?_map]
   by_cases hi:i < l.length
   · rw[List.getElem?_range hi,List.getElem?_eq_getElem hi]
     show _=some (l.getD i dflt)
     rw[List.getD_eq_getElem?_getD,List.getElem?_eq_getElem hi];rfl
   · rw[List.getElem?_eq_none (by omega),List.getElem?_eq_none (by simpa using hi)];rfl
 conv=>rhs;rw[e]
 rw[List.filter_map,List.map_map]
 rfl
def oB (CH CB cNC cND:Addr):Sp:=fun vs H Q E=>∃ (A:Ad)(W:Hp)(ss names:List Str) (h:Hs) (z:Str) (d:Int),vs=[.ref A.x,.str z,.int d]∧aX H CH CB A W ss h∧dj ss names h∧Shw z∧(z∈h.cl.map (·.1)→(1≤d∧d≤400)→∀ l ps H',af H H'→H l=none→H' l=some (.lst (ps.map V.ref))→cy H' ps ((bF h.dp z d).map fun e=>[.int e.1,.str e.2.1,.str e.2.2])→Q (.ref l) H')∧(z∉h.cl.map (·.1)→E (.ref cNC) none H)∧(z∈h.cl.map (·.1)→¬(1≤d∧d≤400)→E (.ref cND) none H)
theorem u0:au ["self", "cloth", "day"] ["self", "cloth", "day"] (ae gB):=⟨rfl,rfl,rfl,by decide +kernel,rfl,by decide +kernel,by decide +kernel⟩
theorem sD {f fHC fCD:Addr}{fd fdHC fdCD:FuncData}{CH CB cNC cND:Addr}(F:Fun K "trail" "House.trail" gB f fd)
   (T:Txt mg)(hX:Hx K mg CH)(cB:Cls K CB)
   (GHC:aw P w K mg base (CX1 P w) 1 fHC fdHC ["self", "cloth"] (uR CH CB cNC))(hmHC:bZ K CH "check_cloth" fHC)(bHC:az K fdHC ["self", "cloth"] [])
   (GCD:aw P w K mg base (CX1 P w) 1 fCD fdCD ["day"] (nr cND))(kCD:PySem.W.keepIn K (.ref fCD)=true)(bCD:az K fdCD ["day"] [])(mCD:mg "check_day"=some (.ref fCD)) :
   aw P w K mg base (CX1 P w) 2 f fd ["self", "cloth", "day"] (oB CH CB cNC cND):=by
 refine F.okX u0 (fun vs H Q E h=>?_) (fun cdv A outer s H vs Q E hr h=>?_)
 · obtain⟨_,_,_,_,_,_,_,rfl,_⟩:=h
   rfl
 · obtain⟨A0,W,ss,names,h,z,d,rfl,hh,ho,hz,q,qc,qd⟩:=h
   have cH:=hX.c
   have hr1:=hr.mono (j:=1) (by omega)
   refine⟨_,(aj (aU (br (pv 0) cH hmHC GHC hr1 bHC .nil eN (aa (pv 1) ad)))
     (aj (aU (aq GCD hr1 rfl mCD kCD bCD .nil eN (aa (pv 2) ad)))
     (ag (ar (kJ (N':=["when", "dipped", "bath", "out", "cloth", "day"]) (pk:=[none,none,none,none,some 1,some 2]) rfl (cc.of (by rfl)) (aQ (cb (pv 0) rfl)) (fun s H ex=>((fK (n:=4) rfl (bc (ao (i:=0) (by show(["when", "dipped", "bath", "out", "cloth", "day"]:List Str).Nodup;decide +kernel) rfl (Or.inl rfl)) (bc (ao (i:=1) (by show(["when", "dipped", "bath", "out", "cloth", "day"]:List Str).Nodup;decide +kernel) rfl (Or.inl rfl)) (bc (ao (i:=2) (by show(["when", "dipped", "bath", "out", "cloth", "day"]:List Str).Nodup;decide +kernel) rfl (Or.inl rfl)) (bc (ao (i:=3) (by show(["when", "dipped", "bath", "out", "cloth", "day"]:List Str).Nodup;decide +kernel) rfl (Or.inl rfl)) dY))))):PG _ _ (rM K 4 (dQ (cT 0) (dQ (cT 1) (dQ (cT 2) (dQ (cT 3) pS))))))) (fun s H ex=>(PW.pt (tX (aF dn (pv 1) (pv 4) (aM _)) (qW (aF xm (pv 0) (pv 5) (aM _)))))) (fun s H ex=>(de (aa (pv 0) (aa (pv 2) (aa (pv 3) ad)))))))))),?_⟩
   have hs:=aP
   refine aW (fun σ' H'=>z∈h.cl.map (·.1)∧σ'=[some (.ref A0.x),some (.str z),some (.int d)]∧H'=H) (fun R hR=>?_) ?_
   · walk_at "dm"
     exact⟨A0.dx,_,hh.ins,gY (by decide +kernel) (by decide +kernel) (by decide +kernel) (by decide +kernel),A0,W,ss,h,z,rfl,hh,hz,ho.cnd,fun hm=>hR _ _ ⟨hm,rfl,rfl⟩,qc⟩
   rintro σ1 H1 ⟨hm,rfl,rfl⟩
   refine aW (fun σ' H'=>(1≤d∧d≤400)∧σ'=[some (.ref A0.x),some (.str z),some (.int d)]∧H'=H1) (fun R hR=>?_) ?_
   · walk_at "dm"
     exact⟨d,rfl,fun hd=>hR _ _ ⟨hd,rfl,rfl⟩,qd hm⟩
   rintro σ2 H2 ⟨hd,rfl,rfl⟩
   obtain⟨ps,hls,hpl,hpT⟩:=hh.dp
   have hdl:=ho.dl
   walk_at "dm"
   refine⟨CH,A0.dx,_,hh.ins,hX.c,hX.n3,_,k7,A0.ls,rfl,⟨_,SqL.of hls⟩,fun D hD=>?_⟩
   refine rX (ax (SqL.of hls)) (by rw[List.length_map];omega) hD (fun σ=>∃ o1 o2 o3 o4,σ=[o1,o2,o3,o4,some (.str z),some (.int d)]) (fun i=>(fun e:Int×Str×Str×Str=>decide (e.2.1=z)&&decide (e.1≤d)) (h.dp.getD i d0)) (fun i=>(fun e:Int×Str×Str×Str=>[V.int e.1,.str e.2.2.1,.str e.2.2.2]) (h.dp.getD i d0)) ⟨none,none,none,none,rfl⟩ ?_ ?_
   · rintro i x σ' H3 hi hx ⟨o1,o2,o3,o4,rfl⟩ hS R1 R0 h1 h0
     rw[List.getElem?_map] at hx
     obtain⟨p,hp,rfl⟩:=Option.map_eq_some_iff.mp hx
     obtain⟨e,he⟩:∃ e,h.dp[i]?=some e:=⟨_,List.getElem?_eq_getElem (by rw[List.length_map] at hi;omega)⟩
     have ht:=hS _ _ (hh.up _ _ (hpT i p e hp he))
     have eg:h.dp.getD i d0=e:=by rw[List.getD_eq_getElem?_getD,he];rfl
     simp only[eg] at h1 h0
     refine xC ht ?_
     walk_at "dm"
     refine⟨rfl,aV (fun hc=>aV (fun hle=>⟨by omega,fun p hp=>h1 (by simp[hc,hle]) p _ ⟨_,_,_,_,rfl⟩ hp⟩) (fun hle=>h0 (by simp[hle]) _ ⟨_,_,_,_,rfl⟩)) (fun hc=>h0 (by simp[hc]) _ ⟨_,_,_,_,rfl⟩)⟩
   · intro qs H' S' hHD hT
     rw[List.length_map,hpl,nC h.dp d0 (fun e=>decide (e.2.1=z)&&decide (e.1≤d)) (fun e=>[V.int e.1,.str e.2.2.1,.str e.2.2.2])] at hT
     refine q hm hd D qs H' S' hD hHD ?_
     unfold bF
     rw[List.map_map]
     exact hT
theorem ej {cl:List (Str×Str)}{c:Str×Str}(hd:(cl.map (·.1)).Nodup)(h:c∈cl):cl.lookup c.1=some c.2:=by
 induction cl with
 | nil=>cases h
 | cons a r ih =>
   rw[List.map_cons,List.nodup_cons] at hd
   rw[List.lookup_cons]
   by_cases e:c.1=a.1
   · rw[show(c.1==a.1)=true from beq_iff_eq.mpr e]
     rcases List.mem_cons.mp h with h | h
     · rw[h]
     · exact absurd (List.mem_map_of_mem (f:=(·.1)) h) (by rw[e];exact hd.1)
   · rw[show(c.1==a.1)=false from beq_eq_false_iff_ne.mpr e]
     rcases List.mem_cons.mp h with h | h
     · exact absurd (by rw[h]) e
     · exact ih hd.2 h
def lf (CH CB cNC cND:Addr):Sp:=fun vs H Q E=>∃ (A:Ad)(W:Hp)(ss names:List Str) (h:Hs) (z:Str) (d:Int),vs=[.ref A.x,.str z,.int d]∧aX H CH CB A W ss h∧dj ss names h∧Shw z∧(z∈h.cl.map (·.1)→(1≤d∧d≤400)→∀ H',af H H'→Q (.str (aY h z d)) H')∧(z∉h.cl.map (·.1)→E (.ref cNC) none H)∧(z∈h.cl.map (·.1)→¬(1≤d∧d≤400)→E (.ref cND) none H)
theorem ol:au ["self", "cloth", "day", "trail"] ["self", "cloth", "day"] (ae fw):=⟨rfl,rfl,rfl,by decide +kernel,rfl,by decide +kernel,by decide +kernel⟩
theorem sP {f fHT:Addr}{fd fdHT:FuncData}{CH CB cNC cND:Addr}(F:Fun K "shade" "House.shade" fw f fd)
   (T:Txt mg)(hX:Hx K mg CH)(cB:Cls K CB)
   (GHT:aw P w K mg base (CX1 P w) 2 fHT fdHT ["self", "cloth", "day"] (oB CH CB cNC cND))(hmHT:bZ K CH "trail" fHT)(bHT:az K fdHT ["self", "cloth", "day"] []) :
   aw P w K mg base (CX1 P w) 3 f fd ["self", "cloth", "day"] (lf CH CB cNC cND):=by
 refine F.okX ol (fun vs H Q E h=>?_) (fun cdv A outer s H vs Q E hr h=>?_)
 · obtain⟨_,_,_,_,_,_,_,rfl,_⟩:=h
   rfl
 · obtain⟨A0,W,ss,names,h,z,d,rfl,hh,ho,hz,q,qc,qd⟩:=h
   have hu:(cr (CX1 P w) P w K mg base ["self", "cloth", "day", "trail"] "House.shade" (ae fw) f cdv A outer s H E).A.units+1 < cLine:=by
     have:=hr.units
     exact Nat.lt_of_le_of_lt (Nat.add_le_add_left (by decide) _) this
   have cH:=hX.c
   have hr2:=hr.mono (j:=2) (by omega)
   refine⟨_,(aj (ay (i:=3) ol.nd rfl (Or.inl rfl) (br (pv 0) cH hmHT GHT hr2 bHT .nil eN (aa (pv 1) (aa (pv 2) ad))))
     (aj (aR (aF dn (al aE (by rfl) T.len PySem.boot_len (aa (pv 3) ad)) ah (aM _)) (ag (ar (ca hu (cb (pv 0) rfl) (pv 1) (fun _ _=>rfl)))) aB)
     (ag (ar (aK cp (aK aG (pv 3) (k6 g8 ah) (fun _ _=>rfl)) ah (fun _ _=>rfl)))))),?_⟩
   have hs:=aP
   refine aW (fun σ' H'=>∃ l ps,(z∈h.cl.map (·.1))∧(1≤d∧d≤400)∧σ'=[some (.ref A0.x),some (.str z),some (.int d),some (.ref l)]∧af H H'∧H' l=some (.lst (ps.map V.ref))∧cy H' ps ((bF h.dp z d).map fun e=>[.int e.1,.str e.2.1,.str e.2.2])) (fun R hR=>?_) ?_
   · walk_at "dm"
     exact⟨A0.dx,_,hh.ins,gY (by decide +kernel) (by decide +kernel) (by decide +kernel) (by decide +kernel),A0,W,ss,names,h,z,d,rfl,hh,ho,hz,fun hm hd l ps H' S' hl hH hT=>hR _ _ ⟨l,ps,hm,hd,rfl,S',hH,hT⟩,qc,qd⟩
   rintro σ1 H1 ⟨l,ps,hm,hd,rfl,S1,hl1,hT⟩
   have q:=q hm hd
   refine aW (fun σ' H'=>bF h.dp z d≠[]∧σ'=[some (.ref A0.x),some (.str z),some (.int d),some (.ref l)]∧H'=H1) (fun R hR=>?_) ?_
   · obtain⟨c,hc,rfl⟩:=List.mem_map.mp hm
     walk_at "dm"
     have hpl:=hT.1
     rw[List.length_map] at hpl
     refine⟨_,.inl (SqL.of hl1),rfl,?_⟩
     rw[List.length_map,hpl]
     refine aV (fun h0=>?_) (fun h0=>hR _ _ ⟨fun e=>h0 (by rw[e];rfl),rfl,rfl⟩)
     have e0:bF h.dp c.1 d=[]:=List.length_eq_zero_iff.mp (by omega)
     refine⟨CH,A0.dx,_,S1 _ _ hh.ins,hX.c,hX.n1,_,eB,_,rfl,_,.inl ⟨_,Sum.inr c.1,.inl (S1 _ _ hh.cl),rfl,(m8 ho.cnd hc).symm⟩,?_⟩
     have es:aY h c.1 d=c.2:=by
       unfold aY
       rw[e0]
       show(h.cl.lookup c.1).getD _=_
       rw[ej ho.cnd hc]
       rfl
     have:=q H1 S1
     rw[es] at this
     exact this
   rintro σ2 H2 ⟨hne,rfl,rfl⟩
   have hpl:=hT.1
   rw[List.length_map] at hpl
   have hlast:(bF h.dp z d).getLast?=some ((bF h.dp z d).getLast hne):=List.getLast?_eq_some_getLast hne
   have hps:ps≠[]:=fun e=>hne (List.length_eq_zero_iff.mp (by rw[←hpl,e];rfl))
   walk_at "dm"
   have ea:atI (ps.map V.ref) (-1)=some (V.ref (ps.getLast hps)):=by
     have e:ps.map V.ref=ps.dropLast.map V.ref++[V.ref (ps.getLast hps)]:=by
       rw[←List.map_singleton,←List.map_append,List.dropLast_concat_getLast hps]
     rw[e]
     exact iB _ _
   have ht:=hT.2 (ps.length - 1) (ps.getLast hps) [.int ((bF h.dp z d).getLast hne).1,.str ((bF h.dp z d).getLast hne).2.1,.str ((bF h.dp z d).getLast hne).2.2] (by rw[List.getLast_eq_getElem];exact List.getElem?_eq_getElem _) (by rw[List.getElem?_map,hpl,List.getLast_eq_getElem,List.getElem?_eq_getElem (by have:=List.length_pos_iff.mpr hne;omega)];rfl)
   refine⟨_,SqL.of hl1,_,ea,_,rfl,_,SqT.of ht,V.str ((bF h.dp z d).getLast hne).2.2,rfl,?_⟩
   have es:aY h z d=((bF h.dp z d).getLast hne).2.2:=by
     unfold aY
     rw[hlast]
   rw[←es]
   exact q H2 S1
end

section
variable {P:Program}{w:World}{K:PySem.W.Frag}{mg:Str→Option Value}{base:Heap}
theorem pF1 {v:V}:cP (Str.ofString "first_shades") v []=[(Str.ofString "first_shades",v)]:=rfl
theorem pF2 {v u:V}:cP (Str.ofString "day_now") u [(Str.ofString "first_shades",v)]=[(Str.ofString "first_shades",v),(Str.ofString "day_now",u)]:=by
 show(if Str.ofString "first_shades"=Str.ofString "day_now" then _ else _)=_
 rw[if_neg (by decide +kernel)]
 rfl
theorem pF3 {v u t:V}:cP (Str.ofString "standing") t [(Str.ofString "first_shades",v),(Str.ofString "day_now",u)]=[(Str.ofString "first_shades",v),(Str.ofString "day_now",u),(Str.ofString "standing",t)]:=by
 unfold cP
 rw[if_neg (by decide +kernel)]
 unfold cP
 rw[if_neg (by decide +kernel)]
 rfl
theorem pF4 {v u t r:V}:cP (Str.ofString "books_from") r [(Str.ofString "first_shades",v),(Str.ofString "day_now",u),(Str.ofString "standing",t)]=[(Str.ofString "first_shades",v),(Str.ofString "day_now",u),(Str.ofString "standing",t),(Str.ofString "books_from",r)]:=by
 unfold cP
 rw[if_neg (by decide +kernel)]
 unfold cP
 rw[if_neg (by decide +kernel)]
 unfold cP
 rw[if_neg (by decide +kernel)]
 rfl
theorem pFd {A:Ad}{d e:Int}:cP (Str.ofString "day_now") (.int e) (hfs A d)=hfs A e:=by
 unfold hfs cP
 rw[if_neg (by decide +kernel)]
 unfold cP
 rw[if_pos rfl]
def na (CH CB:Addr):Sp:=fun vs H Q _=>∃ (x dx bk:Addr)(W:Hp)(ss:List Str)(bs:List (Str×List Str)),vs=[.ref x,.ref bk]∧H x=some (.ins CH dx [])∧af W (hide H x)∧bg W CB bk ss bs∧∀ (A:Ad) H',A.x=x→af (hide H x) (hid H' A)→aX H' CH CB A W ss ⟨[],1,[],[(1,(ss,bs))]⟩→Q .non H'
theorem wD:au ["self", "book"] ["self", "book"] (ae i6):=⟨rfl,rfl,rfl,by decide +kernel,rfl,by decide +kernel,by decide +kernel⟩
theorem vz {f:Addr}{fd:FuncData}{CH CB :Addr}(F:Fun K "__init__" "House.__init__" i6 f fd)
   (T:Txt mg)(hX:Hx K mg CH)(cB:Cls K CB)  :
   aw P w K mg base CX0 1 f fd ["self", "book"] (na CH CB):=by
 refine F.ok wD (fun vs H Q E h=>?_) (fun cdv A outer s H vs Q E hr h=>?_)
 · obtain⟨_,_,_,_,_,_,rfl,_⟩:=h
   rfl
 · obtain⟨x,dx,bk,W,ss,bs,rfl,hx,hW,hbk,q⟩:=h
   obtain⟨_,hfd⟩:=hX.fd
   refine⟨_,(aj (gW (pv 0) iz rfl)
     (aj (gW (pv 0) (da (v:=.int 1) rfl hfd ⟨_,rfl⟩) rfl)
     (aj (gW (pv 0) (bp ad) rfl)
     (ag (gW (pv 0) (vI (uz (da (v:=.int 1) rfl hfd ⟨_,rfl⟩) (pv 1) we) rfl rfl (by simp) (by decide)) rfl))))),?_⟩
   have hs:=aP
   have hx0:hide H x x=none:=by unfold hide;rw[if_pos rfl]
   refine aW (fun σ' H'=>∃ d1,σ'=[some (.ref x),some (.ref bk)]∧H d1=none∧H'=upd (upd H d1 (.dK [])) x (.ins CH dx [("first_shades",.ref d1)])) (fun R hR=>?_) ?_
   · walk_at "dm"
     intro d hd
     have hxd:x≠d:=fun e=>by rw[←e,hx] at hd;cases hd
     exact⟨CH,dx,_,by rw[ai hxd];exact hx,hX.c,hX.n1,by decide,hR _ _ ⟨d,rfl,hd,by rw[pF1]⟩⟩
   rintro σ1 H1 ⟨d1,rfl,hd1,rfl⟩
   have hxd1:x≠d1:=fun e=>by rw[←e,hx] at hd1;cases hd1
   refine aW (fun σ' H'=>σ'=[some (.ref x),some (.ref bk)]∧H'=upd (upd H d1 (.dK [])) x (.ins CH dx [("first_shades",.ref d1),("day_now",.int 1)])) (fun R hR=>?_) ?_
   · walk_at "dm"
     exact⟨CH,dx,_,ac,hX.c,hX.n2,by simp,hR _ _ ⟨rfl,by rw[pF2,jC]⟩⟩
   rintro σ2 H2 ⟨rfl,rfl⟩
   refine aW (fun σ' H'=>∃ ls,σ'=[some (.ref x),some (.ref bk)]∧upd (upd H d1 (.dK [])) x (.ins CH dx [("first_shades",.ref d1),("day_now",.int 1)]) ls=none∧H'=upd (upd (upd (upd H d1 (.dK [])) x (.ins CH dx [("first_shades",.ref d1),("day_now",.int 1)])) ls (.lst [])) x (.ins CH dx [("first_shades",.ref d1),("day_now",.int 1),("standing",.ref ls)])) (fun R hR=>?_) ?_
   · walk_at "dm"
     refine⟨by omega,fun ls hls=>?_⟩
     have hxl:x≠ls:=fun e=>by rw[←e,ac] at hls;cases hls
     exact⟨CH,dx,_,by rw[ai hxl];exact ac,hX.c,hX.n3,by simp,hR _ _ ⟨ls,rfl,hls,by rw[pF3]⟩⟩
   rintro σ3 H3 ⟨ls,rfl,hls,rfl⟩
   have hxl:x≠ls:=fun e=>by rw[←e,ac] at hls;cases hls
   have hlsH:ls≠d1:=fun e=>by rw[e,ai (Ne.symm hxd1),ac] at hls;cases hls
   have hlsN:H ls=none:=by rw[ai (Ne.symm hxl),ai hlsH] at hls;exact hls
   walk_at "dm"
   intro p hp
   have hxp:x≠p:=fun e=>by rw[←e,ac] at hp;cases hp
   have hlp:ls≠p:=fun e=>by rw[←e,ai (Ne.symm hxl),ac] at hp;cases hp
   have hdp:d1≠p:=fun e=>by rw[←e,ai (Ne.symm hxd1),ai (Ne.symm hlsH),ai (Ne.symm hxd1),ac] at hp;cases hp
   have hpN:H p=none:=by rw[ai (Ne.symm hxp),ai (Ne.symm hlp),ai (Ne.symm hxp),ai (Ne.symm hdp)] at hp;exact hp
   refine⟨ac,[(Sum.inl 1,V.ref bk)],rfl,by simp,CH,dx,_,by rw[ai hxp,ai hxp,ac],hX.c,hX.n4,by simp,?_⟩
   rw[pF4]
   have e1:cQ [] [((Sum.inl 1:Key),V.ref bk)]=[(Sum.inl 1,V.ref bk)]:=rfl
   rw[e1]
   have S:af (hide H x) (hid (upd (upd (upd (upd (upd (upd (upd H d1 (.dK [])) x (.ins CH dx [("first_shades",.ref d1),("day_now",.int 1)])) ls (.lst [])) x (.ins CH dx [("first_shades",.ref d1),("day_now",.int 1),("standing",.ref ls)])) p (.dK [])) p (.dK [(Sum.inl 1,V.ref bk)])) x (.ins CH dx [("first_shades",.ref d1),("day_now",.int 1),("standing",.ref ls),("books_from",.ref p)])) ⟨x,dx,d1,ls,p⟩):=fun b o e=>by
     have hbx:b≠x:=fun z=>by rw[z,hx0] at e;cases e
     rw[bq hbx] at e
     have h1:b≠d1:=ak e hd1
     have h2:b≠ls:=ak e hlsN
     have h3:b≠p:=ak e hpN
     unfold hid
     rw[if_neg (fun z=>by rcases z with z | z | z | z;exact hbx z;exact h1 z;exact h2 z;exact h3 z)]
     rw[ai hbx,ai h3,ai h3,ai hbx,ai h2,ai hbx,ai h1]
     exact e
   refine q ⟨x,dx,d1,ls,p⟩ _ rfl S ⟨ac,?_,⟨[],?_,rfl,by intro i p e h;simp at h⟩,⟨[bk],?_,rfl,?_⟩,hdp,hW.trans S⟩
   · show upd _ x _ d1=_
     rw[ai (Ne.symm hxd1),ai hdp,ai hdp,ai (Ne.symm hxd1),ai (Ne.symm hlsH),ai (Ne.symm hxd1),ac]
     rfl
   · show upd _ x _ ls=_
     rw[ai (Ne.symm hxl),ai hlp,ai hlp,ai (Ne.symm hxl),ac]
     rfl
   · show upd _ x _ p=_
     rw[ai (Ne.symm hxp),ac]
     rfl
   · intro i r e hr he
     rcases i with _ | i
     · cases hr
       cases he
       exact hbk
     · simp at hr
end

section
variable {P:Program}{w:World}{K:PySem.W.Frag}{mg:Str→Option Value}{base:Heap}
theorem nU:∀ {bk:List (Int×Bk)}{d:Int},bk≠[]→∃ e∈bk,dv bk d=e.2
 | [],_,h=>absurd rfl h
 | [e],d,_=>⟨e,List.mem_cons_self,rfl⟩
 | e::e2::r,d,_=>by
   unfold dv
   by_cases h2:e2.1≤d
   · rw[if_pos h2]
     obtain⟨x,hx,hxe⟩:=nU (bk:=e2::r) (d:=d) (by simp)
     exact⟨x,List.mem_cons_of_mem _ hx,hxe⟩
   · rw[if_neg h2]
     exact⟨e,List.mem_cons_self,rfl⟩
theorem dj.on {ss names:List Str}{h:Hs}(ho:dj ss names h) (d:Int):aO (dv h.bk d).1 (dv h.bk d).2∧(∀ n,n∈(dv h.bk d).2.map (·.1)↔n∈names)∧∀ z,z∈(dv h.bk d).1↔z∈ss:=by
 obtain⟨b,r,hb⟩:=ho.k1
 obtain⟨e,he,hbk⟩:=nU (bk:=h.bk) (d:=d) (by rw[hb];simp)
 rw[hbk]
 exact ho.kb e he
theorem uN {cl:List (Str×Str)}{c z:Str}(h:c∉cl.map (·.1)):fr (clV cl) (Sum.inr c) (V.str z)=clV (cl++[(c,z)]):=by
 rw[eA _ (fm h)]
 unfold clV
 rw[List.map_append]
 rfl
theorem qO {cl:List (Str×Str)}:(clV cl).length=cl.length:=List.length_map ..
theorem ng {H:Hp}{A:Ad}{b:Addr}{o:HO}(h:b=A.x∨b=A.d1∨b=A.ls∨b=A.db):hid (upd H b o) A=hid H A:=by
 funext y
 unfold hid
 by_cases hy:y=A.x∨y=A.d1∨y=A.ls∨y=A.db
 · rw[if_pos hy,if_pos hy]
 · rw[if_neg hy,if_neg hy]
   exact ai fun e=>hy (by rw[e];exact h)
theorem aX.xd {H:Hp}{C CB:Addr}{A:Ad}{W:Hp}{ss:List Str}{h:Hs}(hh:aX H C CB A W ss h):A.x≠A.d1∧A.x≠A.ls∧A.x≠A.db∧A.d1≠A.ls∧A.ls≠A.db:=by
 obtain⟨h1,h2,⟨ps,h3,_⟩,⟨rs,h6,_⟩,_,_⟩:=hh
 refine⟨fun e=>?_,fun e=>?_,fun e=>?_,fun e=>?_,fun e=>?_⟩
 · rw[e,h2] at h1;cases h1
 · rw[e,h3] at h1;cases h1
 · rw[e,h6] at h1;cases h1
 · rw[e,h3] at h2;cases h2
 · rw[e,h6] at h3;cases h3
def la (CH CB cBN cKn cNS cFu:Addr):Sp:=fun vs H Q E=>∃ (A:Ad)(W:Hp)(ss names:List Str) (h:Hs) (c z:Str),vs=[.ref A.x,.str c,.str z]∧aX H CH CB A W ss h∧dj ss names h∧h.cl.length≤1000∧Shw c∧Shw z∧(bu c=false→∀ H',af H H'→E (.ref cBN) none H')∧(bu c=true→c∈h.cl.map (·.1)→∀ H',af H H'→E (.ref cKn) none H')∧(bu c=true→c∉h.cl.map (·.1)→z∉ss→∀ H',af H H'→E (.ref cNS) none H')∧(bu c=true→c∉h.cl.map (·.1)→z∈ss→50≤h.cl.length→∀ H',af H H'→E (.ref cFu) none H')∧(bu c=true→c∉h.cl.map (·.1)→z∈ss→h.cl.length < 50→∀ H',af (hid H A) (hid H' A)→aX H' CH CB A W ss { h with cl:=h.cl++[(c,z)] }→Q .non H')
theorem uw:au ["self", "cloth", "shade"] ["self", "cloth", "shade"] (ae fu):=⟨rfl,rfl,rfl,by decide +kernel,rfl,by decide +kernel,by decide +kernel⟩
theorem sM {f fGd fHN fMH:Addr}{fd fdGd fdHN fdMH:FuncData}{CH CB cBN cFu cKn cNS:Addr}(F:Fun K "bring" "House.bring" fu f fd)
   (T:Txt mg)(hX:Hx K mg CH)(cB:Cls K CB)(XBN:gd K cBN)(mBN:mg "BadName"=some (.ref cBN))(XKn:gd K cKn)(mKn:mg "Known"=some (.ref cKn))(XFu:gd K cFu)(mFu:mg "Full"=some (.ref cFu))
   (GGd:aw P w K mg base CX0 1 fGd fdGd ["text"] qj)(kGd:PySem.W.keepIn K (.ref fGd)=true)(bGd:az K fdGd ["text"] [])(mGd:mg "good_name"=some (.ref fGd))
   (GHN:aw P w K mg base (CX1 P w) 3 fHN fdHN ["self"] (qx CH CB))(hmHN:bZ K CH "newest_book" fHN)(bHN:az K fdHN ["self"] [])
   (GMH:aw P w K mg base (CX1 P w) 1 fMH fdMH ["self", "shade"] (jW CB cNS))(hmMH:bZ K CB "check_shade" fMH)(bMH:az K fdMH ["self", "shade"] []) :
   aw P w K mg base (CX1 P w) 5 f fd ["self", "cloth", "shade"] (la CH CB cBN cKn cNS cFu):=by
 refine F.okX uw (fun vs H Q E h=>?_) (fun cdv A outer s H vs Q E hr h=>?_)
 · obtain⟨_,_,_,_,_,_,_,rfl,_⟩:=h
   rfl
 · obtain⟨A0,W,ss,names,h,c,z,rfl,hh,ho,hcl,hc,hz,qb,qk,qs,qf,q⟩:=h
   have hu:(cr (CX1 P w) P w K mg base ["self", "cloth", "shade"] "House.bring" (ae fu) f cdv A outer s H E).A.units+1 < cLine:=by
     have:=hr.units
     exact Nat.lt_of_le_of_lt (Nat.add_le_add_left (by decide) _) this
   obtain⟨_,hmc⟩:=hX.mc
   have cH:=hX.c
   have hr1:=hr.mono (j:=1) (by omega)
   have hr3:=hr.mono (j:=3) (by omega)
   refine⟨_,(aj (aR (cE (cw (aq GGd hr1 rfl mGd kGd bGd .nil aH (aa (pv 1) ad)))) (ag (cY rfl rfl mBN XBN.exc PySem.F.excBase_ValueError (aa (im (pv 1)) ad) il)) aB)
     (aj (aR (e7 (pT hu (pv 1) (cb (pv 0) rfl))) (ag (cY rfl rfl mKn XKn.exc PySem.F.excBase_ValueError (aa (im (pv 1)) ad) il)) aB)
     (aj (aU (br (eE (pv 0) cH hmHN GHN hr3 bHN .nil eN) cB hmMH GMH hr1 bMH .nil eN (aa (pv 2) ad)))
     (aj (aR (aF jr (al sy (by rfl) T.len PySem.boot_len (aa (cb (pv 0) rfl) ad)) (da (v:=.int 50) rfl hmc ⟨_,rfl⟩) (aM _)) (ag (cY rfl rfl mFu XFu.exc PySem.F.excBase_ValueError (aa ba ad) il)) aB)
     (ag (gu hu (cb (pv 0) rfl) (pv 1) (pv 2) rfl)))))),?_⟩
   have hs:=aP
   refine aW (fun σ' H'=>bu c=true∧σ'=[some (.ref A0.x),some (.str c),some (.str z)]∧af H H') (fun R hR=>?_) ?_
   · walk_at "dm"
     refine⟨c,rfl,hc.1,fun H2 S2=>?_⟩
     by_cases hg:bu c=true
     · rw[hg]
       exact⟨_,rfl,aV (fun h=>by cases h) (fun _=>hR _ _ ⟨hg,rfl,S2⟩)⟩
     · have hg':bu c=false:=by simpa using hg
       rw[hg']
       exact⟨_,rfl,aV (fun _=>⟨hc.1,hc.2,fun y=>⟨by decide,qb hg' _ S2⟩⟩) (fun h=>absurd rfl h)⟩
   rintro σ1 H1 ⟨hg,rfl,S1⟩
   have hh1:=af.house S1 hh
   refine aW (fun σ' H'=>c∉h.cl.map (·.1)∧σ'=[some (.ref A0.x),some (.str c),some (.str z)]∧H'=H1) (fun R hR=>?_) ?_
   · by_cases hm:c∈h.cl.map (·.1)
     · obtain⟨c0,hc0,rfl⟩:=List.mem_map.mp hm
       walk_at "dm"
       exact⟨CH,A0.dx,_,hh1.ins,hX.c,hX.n1,_,eB,A0.d1,rfl,_,.inl ⟨_,Sum.inr c0.1,.inl hh1.cl,rfl,(m8 ho.cnd hc0).symm⟩,hc.1,hc.2,fun y=>⟨by decide,qk hg hm _ S1⟩⟩
     · walk_at "dm"
       exact⟨CH,A0.dx,_,hh1.ins,hX.c,hX.n1,_,eB,A0.d1,rfl,none,.inl ⟨_,Sum.inr c,.inl hh1.cl,rfl,(fm hm).symm⟩,hR _ _ ⟨hm,rfl,rfl⟩⟩
   rintro σ2 H2 ⟨hm,rfl,rfl⟩
   refine aW (fun σ' H'=>z∈ss∧σ'=[some (.ref A0.x),some (.str c),some (.str z)]∧af H H') (fun R hR=>?_) ?_
   · walk_at "dm"
     refine⟨A0.dx,_,hh1.ins,gY (by decide +kernel) (by decide +kernel) (by decide +kernel) (by decide +kernel),A0,W,ss,names,h,rfl,hh1,ho,fun r H3 S3 hbk=>?_⟩
     have hbk2:=af.book (af.house S3 hh1).up hbk
     have hbk3:=hbk2
     obtain⟨dxb,tb,db,so,b1,b2,b3,b4,b5⟩:=hbk2
     exact⟨r,rfl,dxb,_,b1,bU (by decide +kernel) (by decide +kernel),r,_,_,z,rfl,hbk3,hz,fun hzs=>hR _ _ ⟨((ho.on 400).2.2 z).mp hzs,rfl,S1.trans S3⟩,fun hzs=>qs hg hm (fun y=>hzs (((ho.on 400).2.2 z).mpr y)) _ (S1.trans S3)⟩
   rintro σ3 H3 ⟨hzs,rfl,S3⟩
   have hh3:=af.house S3 hh
   refine aW (fun σ' H'=>h.cl.length < 50∧σ'=[some (.ref A0.x),some (.str c),some (.str z)]∧H'=H3) (fun R hR=>?_) ?_
   · walk_at "dm"
     refine⟨CH,A0.dx,_,hh3.ins,hX.c,hX.n1,_,eB,A0.d1,rfl,_,hh3.cl,?_⟩
     rw[qO]
     exact aV (fun h5=>⟨by decide,qf hg hm hzs (by omega) _ S3⟩) (fun h5=>hR _ _ ⟨by omega,rfl,rfl⟩)
   rintro σ4 H4 ⟨h50,rfl,rfl⟩
   obtain⟨n1,n2,n3,n4,n5⟩:=hh3.xd
   walk_at "dm"
   refine⟨CH,A0.dx,_,hh3.ins,hX.c,hX.n1,_,eB,A0.d1,rfl,_,.inl ⟨_,Sum.inr c,hh3.cl,rfl,by rw[qO];omega,rfl⟩,?_⟩
   rw[uN hm]
   have eh:hid (upd H4 A0.d1 (.dK (clV (h.cl++[(c,z)])))) A0=hid H4 A0:=ng (.inr (.inl rfl))
   refine q hg hm hzs h50 _ (by rw[eh];exact ff S3) ?_
   obtain⟨h1,h2,⟨ps,h3,h4,h5⟩,⟨rs,h6,h7,h8⟩,h9,h10⟩:=hh3
   exact⟨by rw[ai n1];exact h1,ac,⟨ps,by rw[ai (Ne.symm n4)];exact h3,h4,h5⟩,⟨rs,by rw[ai (Ne.symm h9)];exact h6,h7,h8⟩,h9,by rw[eh];exact h10⟩
end

section
variable {P:Program}{w:World}{K:PySem.W.Frag}{mg:Str→Option Value}{base:Heap}
theorem qr {ss names:List Str}{h:Hs}(ho:dj ss names h){c:Str}(hc:c∈h.cl.map (·.1)) (d:Int):aY h c d∈ss:=by
 unfold aY
 split
 · rename_i e he
   have hm:=List.mem_of_getLast? he
   unfold bF at hm
   obtain⟨x,hx,rfl⟩:=List.mem_map.mp hm
   exact ho.ds x (List.mem_filter.mp hx).1
 · obtain⟨c0,hc0,rfl⟩:=List.mem_map.mp hc
   rw[ej ho.cnd hc0]
   exact ho.csh c0 hc0
def qI (CH CB cNC cNB cND cLa cFu:Addr):Sp:=fun vs H Q E=>∃ (A:Ad)(W:Hp)(ss names:List Str) (h:Hs) (c b:Str) (d:Int),vs=[.ref A.x,.str c,.str b,.int d]∧aX H CH CB A W ss h∧dj ss names h∧Shw c∧Shw b∧(c∉h.cl.map (·.1)→∀ H',af H H'→E (.ref cNC) none H')∧(c∈h.cl.map (·.1)→b∉names→∀ H',af H H'→E (.ref cNB) none H')∧(c∈h.cl.map (·.1)→b∈names→¬(1≤d∧d≤400)→∀ H',af H H'→E (.ref cND) none H')∧(c∈h.cl.map (·.1)→b∈names→(1≤d∧d≤400)→d < h.day→∀ H',af H H'→E (.ref cLa) none H')∧(c∈h.cl.map (·.1)→b∈names→(1≤d∧d≤400)→h.day≤d→1000≤h.dp.length→∀ H',af H H'→E (.ref cFu) none H')∧(c∈h.cl.map (·.1)→b∈names→(1≤d∧d≤400)→h.day≤d→h.dp.length < 1000→∀ H' W',af (hid H A) (hid H' A)→yK H W W'→aX H' CH CB A W' ss { h with day:=d,dp:=h.dp++[(d,c,b,lkB (dv h.bk d).1 (dv h.bk d).2 b (aY h c d))] }→Q (.str (lkB (dv h.bk d).1 (dv h.bk d).2 b (aY h c d))) H')
theorem t9:au ["self", "cloth", "bath", "day", "out"] ["self", "cloth", "bath", "day"] (ae mo):=⟨rfl,rfl,rfl,by decide +kernel,rfl,by decide +kernel,by decide +kernel⟩
theorem vS {f fHC fHN fMC fHD fHB fHS fMO:Addr}{fd fdHC fdHN fdMC fdHD fdHB fdHS fdMO:FuncData}{CH CB cFu cLa cNB cNC cND:Addr}(F:Fun K "dip" "House.dip" mo f fd)
   (T:Txt mg)(hX:Hx K mg CH)(cB:Cls K CB)(XFu:gd K cFu)(mFu:mg "Full"=some (.ref cFu))
   (GHC:aw P w K mg base (CX1 P w) 1 fHC fdHC ["self", "cloth"] (uR CH CB cNC))(hmHC:bZ K CH "check_cloth" fHC)(bHC:az K fdHC ["self", "cloth"] [])
   (GHN:aw P w K mg base (CX1 P w) 3 fHN fdHN ["self"] (qx CH CB))(hmHN:bZ K CH "newest_book" fHN)(bHN:az K fdHN ["self"] [])
   (GMC:aw P w K mg base (CX1 P w) 1 fMC fdMC ["self", "bath"] (l0 CB cNB))(hmMC:bZ K CB "check_bath" fMC)(bMC:az K fdMC ["self", "bath"] [])
   (GHD:aw P w K mg base (CX1 P w) 2 fHD fdHD ["self", "day"] (wL CH CB cND cLa))(hmHD:bZ K CH "check_day_to_do" fHD)(bHD:az K fdHD ["self", "day"] [])
   (GHB:aw P w K mg base (CX1 P w) 2 fHB fdHB ["self", "day"] (mV CH CB cND))(hmHB:bZ K CH "book" fHB)(bHB:az K fdHB ["self", "day"] [])
   (GHS:aw P w K mg base (CX1 P w) 3 fHS fdHS ["self", "cloth", "day"] (lf CH CB cNC cND))(hmHS:bZ K CH "shade" fHS)(bHS:az K fdHS ["self", "cloth", "day"] [])
   (GMO:aw P w K mg base CX0 2 fMO fdMO ["self", "bath", "shade"] (mZ CB))(hmMO:bZ K CB "out" fMO)(bMO:az K fdMO ["self", "bath", "shade"] []) :
   aw P w K mg base (CX1 P w) 5 f fd ["self", "cloth", "bath", "day"] (qI CH CB cNC cNB cND cLa cFu):=by
 refine F.okX t9 (fun vs H Q E h=>?_) (fun cdv A outer s H vs Q E hr h=>?_)
 · obtain⟨_,_,_,_,_,_,_,_,rfl,_⟩:=h
   rfl
 · obtain⟨A0,W,ss,names,h,c,b,d,rfl,hh,ho,hc,hb,qc,qb,qd,ql,qf,q⟩:=h
   obtain⟨_,hmd⟩:=hX.md
   have cH:=hX.c
   have hr1:=hr.mono (j:=1) (by omega)
   have hr2:=hr.mono (j:=2) (by omega)
   have hr3:=hr.mono (j:=3) (by omega)
   refine⟨_,(aj (aU (br (pv 0) cH hmHC GHC hr1 bHC .nil eN (aa (pv 1) ad)))
     (aj (aU (br (eE (pv 0) cH hmHN GHN hr3 bHN .nil eN) cB hmMC GMC hr1 bMC .nil eN (aa (pv 2) ad)))
     (aj (aU (br (pv 0) cH hmHD GHD hr2 bHD .nil eN (aa (pv 3) ad)))
     (aj (aR (aF jr (al aE (by rfl) T.len PySem.boot_len (aa (cb (pv 0) rfl) ad)) (da (v:=.int 1000) rfl hmd ⟨_,rfl⟩) (aM _)) (ag (cY rfl rfl mFu XFu.exc PySem.F.excBase_ValueError (aa ba ad) il)) aB)
     (aj (ay (i:=4) t9.nd rfl (Or.inl rfl) (br (br (pv 0) cH hmHB GHB hr2 bHB .nil eN (aa (pv 3) ad)) cB hmMO GMO hr2 bMO .nil aH (aa (pv 2) (aa (br (pv 0) cH hmHS GHS hr3 bHS .nil eN (aa (pv 1) (aa (pv 3) ad))) ad))))
     (aj (aU (cX PySem.F.plainAttrs_list PySem.F.slot_list_append PySem.F.type_list_append cj (cb (pv 0) rfl) (aa (de (aa (pv 3) (aa (pv 1) (aa (pv 2) (aa (pv 4) ad))))) ad)))
     (aj (gW (pv 0) (pv 3) rfl)
     (ag (ar (pv 4)))))))))),?_⟩
   have hs:=aP
   have lo:∀ {m:Str}{dd:Int},(m==Str.ofString "first_shades")=false→(m==Str.ofString "day_now")=false→(m==Str.ofString "standing")=false→(m==Str.ofString "books_from")=false→List.lookup m (hfs A0 dd)=none:=fun h1 h2 h3 h4=>gY h1 h2 h3 h4
   refine aW (fun σ' H'=>c∈h.cl.map (·.1)∧σ'=[some (.ref A0.x),some (.str c),some (.str b),some (.int d),none]∧H'=H) (fun R hR=>?_) ?_
   · walk_at "dm"
     exact⟨A0.dx,_,hh.ins,lo (by decide +kernel) (by decide +kernel) (by decide +kernel) (by decide +kernel),A0,W,ss,h,c,rfl,hh,hc,ho.cnd,fun hm=>hR _ _ ⟨hm,rfl,rfl⟩,fun hm=>qc hm _ (af.refl H)⟩
   rintro σ1 H1 ⟨hm,rfl,rfl⟩
   refine aW (fun σ' H'=>b∈names∧σ'=[some (.ref A0.x),some (.str c),some (.str b),some (.int d),none]∧af H1 H') (fun R hR=>?_) ?_
   · walk_at "dm"
     refine⟨A0.dx,_,hh.ins,lo (by decide +kernel) (by decide +kernel) (by decide +kernel) (by decide +kernel),A0,W,ss,names,h,rfl,hh,ho,fun r H3 S3 hbk=>?_⟩
     have hbk2:=af.book (af.house S3 hh).up hbk
     have hbk3:=hbk2
     obtain⟨dxb,tb,db,so,b1,b2,b3,b4,b5⟩:=hbk2
     obtain⟨B,hN,_⟩:=ho.on 400
     exact⟨r,rfl,dxb,_,b1,bU (by decide +kernel) (by decide +kernel),r,_,_,b,rfl,hbk3,B,hb,fun hzs=>hR _ _ ⟨(hN b).mp hzs,rfl,S3⟩,fun hzs=>qb hm (fun z=>hzs ((hN b).mpr z)) _ S3⟩
   rintro σ2 H2 ⟨hbn,rfl,S2⟩
   have hh2:=af.house S2 hh
   refine aW (fun σ' H'=>(1≤d∧d≤400)∧h.day≤d∧σ'=[some (.ref A0.x),some (.str c),some (.str b),some (.int d),none]∧H'=H2) (fun R hR=>?_) ?_
   · walk_at "dm"
     exact⟨A0.dx,_,hh2.ins,lo (by decide +kernel) (by decide +kernel) (by decide +kernel) (by decide +kernel),A0,W,ss,h,d,rfl,hh2,fun hd hl=>hR _ _ ⟨hd,hl,rfl,rfl⟩,fun hd=>qd hm hbn hd _ S2,fun hd hl=>ql hm hbn hd hl _ S2⟩
   rintro σ3 H3 ⟨hd,hl,rfl,rfl⟩
   obtain⟨ps,hls,hpl,hpT⟩:=hh2.dp
   refine aW (fun σ' H'=>h.dp.length < 1000∧σ'=[some (.ref A0.x),some (.str c),some (.str b),some (.int d),none]∧H'=H3) (fun R hR=>?_) ?_
   · walk_at "dm"
     refine⟨CH,A0.dx,_,hh2.ins,hX.c,hX.n3,_,k7,A0.ls,rfl,_,.inl (SqL.of hls),?_⟩
     rw[List.length_map,hpl]
     exact aV (fun h5=>⟨by decide,qf hm hbn hd hl (by omega) _ S2⟩) (fun h5=>hR _ _ ⟨by omega,rfl,rfl⟩)
   rintro σ4 H4 ⟨h1000,rfl,rfl⟩
   obtain⟨B,hN,hZ⟩:=ho.on d
   refine aW (fun σ' H'=>σ'=[some (.ref A0.x),some (.str c),some (.str b),some (.int d),some (.str (lkB (dv h.bk d).1 (dv h.bk d).2 b (aY h c d)))]∧af H4 H') (fun R hR=>?_) ?_
   · walk_at "dm"
     refine⟨A0.dx,_,hh2.ins,lo (by decide +kernel) (by decide +kernel) (by decide +kernel) (by decide +kernel),A0,W,ss,names,h,d,rfl,hh2,ho,fun _ r H5 S5 hbk=>?_,fun hn=>absurd hd hn⟩
     have hbk2:=af.book (af.house S5 hh2).up hbk
     have hbk3:=hbk2
     obtain⟨dxb,tb,db,so,b1,b2,b3,b4,b5⟩:=hbk2
     refine⟨r,rfl,dxb,_,b1,bU (by decide +kernel) (by decide +kernel),A0.dx,_,S5 _ _ hh2.ins,lo (by decide +kernel) (by decide +kernel) (by decide +kernel) (by decide +kernel),A0,W,ss,names,h,c,d,rfl,af.house S5 hh2,ho,hc,fun _ _ H6 S6=>?_,fun hn=>absurd hm hn,fun _ hn=>absurd hd hn⟩
     obtain⟨bb,hbb,rfl⟩:=List.mem_map.mp ((hN b).mpr hbn)
     refine⟨r,_,_,bb,_,rfl,af.book S6 hbk3,B,hbb,(hZ _).mpr (qr ho hm d),?_⟩
     rw[←dL _ B.bnd hbb]
     exact hR _ _ ⟨rfl,S5.trans S6⟩
   rintro σ5 H5 ⟨rfl,S5⟩
   generalize hout:lkB (dv h.bk d).1 (dv h.bk d).2 b (aY h c d)=out at q
   have hh5:=af.house S5 hh2
   obtain⟨n1,n2,n3,n4,n5⟩:=hh5.xd
   have hls5:=S5 _ _ hls
   refine aW (fun σ' H'=>∃ t,σ'=[some (.ref A0.x),some (.str c),some (.str b),some (.int d),some (.str out)]∧H5 t=none∧H'=upd (upd H5 t (.tup [.int d,.str c,.str b,.str out])) A0.ls (.lst (ps.map V.ref++[V.ref t]))) (fun R hR=>?_) ?_
   · walk_at "dm"
     refine⟨CH,A0.dx,_,hh5.ins,hX.c,hX.n3,_,k7,?_⟩
     refine⟨.inl ⟨rfl,_,SqL.of hls5⟩,by omega,fun t ht=>⟨A0.ls,rfl,_,?_,by rw[List.length_map];omega,hR _ _ ⟨t,rfl,ht,rfl⟩⟩⟩
     rw[ai (ak hls5 ht)]
     exact hls5
   rintro σ6 H6 ⟨t,rfl,ht,rfl⟩
   have htx:A0.x≠t:=ak hh5.ins ht
   have htl:A0.ls≠t:=ak hls5 ht
   refine aW (fun σ' H'=>σ'=[some (.ref A0.x),some (.str c),some (.str b),some (.int d),some (.str out)]∧H'=upd (upd (upd H5 t (.tup [.int d,.str c,.str b,.str out])) A0.ls (.lst (ps.map V.ref++[V.ref t]))) A0.x (.ins CH A0.dx (hfs A0 d))) (fun R hR=>?_) ?_
   · walk_at "dm"
     refine⟨CH,A0.dx,_,by rw[ai n2,ai htx];exact hh5.ins,hX.c,hX.n2,by show 4 < 1000;decide,hR _ _ ⟨rfl,?_⟩⟩
     rw[pFd]
   rintro σ7 H7 ⟨rfl,rfl⟩
   walk_at "dm"
   have e1:hid (upd (upd (upd H5 t (.tup [.int d,.str c,.str b,.str out])) A0.ls (.lst (ps.map V.ref++[V.ref t]))) A0.x (.ins CH A0.dx (hfs A0 d))) A0=hid (upd H5 t (.tup [.int d,.str c,.str b,.str out])) A0:=by
     rw[ng (.inl rfl),ng (.inr (.inr (.inl rfl)))]
   have St:af H5 (upd H5 t (.tup [.int d,.str c,.str b,.str out])):=af.updN ht
   obtain⟨h1,h2,⟨ps',h3,h4,h5⟩,⟨rs,h6,h7,h8⟩,h9,h10⟩:=hh5
   have hWt:W t=none:=by
     have hx:hid H5 A0 t=none:=by unfold hid;rw[ht];split<;>rfl
     exact h10.free hx
   have htd:A0.d1≠t:=ak h2 ht
   have htb:A0.db≠t:=ak h6 ht
   have SW:af W (upd W t (.tup [.int d,.str c,.str b,.str out])):=af.updN hWt
   refine q hm hbn hd hl h1000 _ (upd W t (.tup [.int d,.str c,.str b,.str out])) (by rw[e1];exact ff ((S2.trans S5).trans St)) ⟨SW,fun y o hy hHy=>?_⟩ ?_
   · have hyt:y≠t:=fun z=>by rw[z] at hHy;have:=(S2.trans S5) _ _ hHy;rw[ht] at this;cases this
     rw[ai hyt];exact hy
   have eps:ps'=ps:=by
     rw[hls5] at h3
     have h3':ps.map V.ref=ps'.map V.ref:=by simpa using h3
     exact(List.map_inj_right (fun a b e=>by simpa using e)).mp h3'.symm
   subst eps
   refine⟨ac,by rw[ai (Ne.symm n1),ai n4,ai htd];exact h2,⟨ps'++[t],by rw[ai (Ne.symm n2),ac,List.map_append];rfl,by rw[List.length_append,List.length_append,h4];rfl,?_⟩,⟨rs,by rw[ai (Ne.symm n3),ai (Ne.symm n5),ai htb];exact h6,h7,fun i r e hr he=>af.book SW (h8 i r e hr he)⟩,h9,?_⟩
   · intro i p e hp he
     by_cases hi:i < ps'.length
     · rw[List.getElem?_append_left hi] at hp
       rw[List.getElem?_append_left (by omega)] at he
       exact SW _ _ (h5 i p e hp he)
     · have hj:i=ps'.length:=by
         have:=(List.getElem?_eq_some_iff.mp hp).1
         rw[List.length_append,List.length_singleton] at this
         omega
       subst hj
       rw[List.getElem?_append_right (Nat.le_refl _),Nat.sub_self] at hp
       rw[List.getElem?_append_right (by omega),h4,Nat.sub_self] at he
       cases hp
       cases he
       exact ac
   · rw[e1,wk (Ne.symm htx) (Ne.symm htd) (Ne.symm htl) (Ne.symm htb)]
     intro y o hy
     by_cases hyt:y=t
     · rw[hyt,ac] at hy;rw[hyt,ac];exact hy
     · rw[ai hyt] at hy;rw[ai hyt];exact h10 _ _ hy
end

section
variable {P:Program}{w:World}{K:PySem.W.Frag}{mg:Str→Option Value}{base:Heap}
theorem jj (dp:List (Int×Str×Str×Str)) (d:Int) (c b o z:Str) (e:Int):bF (dp++[(d,c,b,o)]) z e=bF dp z e++(if c=z∧d≤e then[(d,b,o)] else[]):=by
 unfold bF
 rw[List.filter_append,List.map_append]
 congr 1
 by_cases h:c=z∧d≤e
 · rw[if_pos h]
   simp[h.1,h.2]
 · rw[if_neg h]
   have:(decide (c=z)&&decide (d≤e))=false:=by
     rw[Bool.and_eq_false_iff]
     by_cases hc:c=z
     · exact .inr (decide_eq_false fun z=>h ⟨hc,z⟩)
     · exact .inl (decide_eq_false hc)
   simp[this]
theorem eU (h:Hs) (d:Int) (c b o z:Str) (e dy:Int):aY { h with day:=dy,dp:=h.dp++[(d,c,b,o)] } z e=if c=z∧d≤e then o else aY h z e:=by
 unfold aY
 show(match (bF (h.dp++[(d,c,b,o)]) z e).getLast? with | some e=>e.2.2 | none=>_)=_
 rw[jj]
 by_cases hc:c=z∧d≤e
 · rw[if_pos hc,if_pos hc,List.getLast?_append]
   rfl
 · rw[if_neg hc,if_neg hc,List.append_nil]
   all_goals rfl
theorem dj.dip {ss names:List Str}{h:Hs}{d:Int}{c b o:Str}(ho:dj ss names h)(hd:1≤d∧d≤400)(hl:h.day≤d)(hn:h.dp.length < 1000)(hos:o∈ss):dj ss names { h with day:=d,dp:=h.dp++[(d,c,b,o)] } :=
 ⟨ho.cnd,ho.csh,ho.cnm,hd.1,hd.2,by show(h.dp++_).length≤1000;rw[List.length_append,List.length_singleton];omega,fun e he=>by
     rcases List.mem_append.mp he with he | he
     · have:=ho.dd e he;exact⟨this.1,by show e.1≤d;omega⟩
     · rw[List.mem_singleton.mp he];exact⟨hd.1,Int.le_refl _⟩,fun e he=>by
     rcases List.mem_append.mp he with he | he
     · exact ho.ds e he
     · rw[List.mem_singleton.mp he];exact hos,ho.k1,ho.ks,fun e he=>by have:=ho.kd e he;exact⟨this.1,by show e.1≤d;omega⟩,ho.kl,ho.kb⟩
theorem dj.bring {ss names:List Str}{h:Hs}{c z:Str}(ho:dj ss names h)(hc:c∉h.cl.map (·.1))(hz:z∈ss)(hg:bu c=true):dj ss names { h with cl:=h.cl++[(c,z)] } :=
 ⟨by show((h.cl++_).map _).Nodup;rw[List.map_append];exact mK ho.cnd hc,fun e he=>by
     rcases List.mem_append.mp he with he | he
     · exact ho.csh e he
     · rw[List.mem_singleton.mp he];exact hz,fun e he=>by
     rcases List.mem_append.mp he with he | he
     · exact ho.cnm e he
     · rw[List.mem_singleton.mp he];exact hg,ho.d1,ho.d4,ho.dl,ho.dd,ho.ds,ho.k1,ho.ks,ho.kd,ho.kl,ho.kb⟩
theorem dj.new {ss:List Str}{bs:List (Str×List Str)}(B:aO ss bs):dj ss (bs.map (·.1)) ⟨[],1,[],[(1,(ss,bs))]⟩ :=
 ⟨List.nodup_nil,(fun e he=>by cases he),(fun e he=>by cases he),by show(1:Int)≤1;decide,by show(1:Int)≤400;decide,by show 0≤1000;decide,(fun e he=>by cases he),(fun e he=>by cases he),⟨(ss,bs),[],rfl⟩,List.pairwise_singleton _ _,fun e he=>by rw[List.mem_singleton.mp he];exact⟨by show(1:Int)≤1;decide,by show(1:Int)≤1;decide⟩,by show 1≤400;decide,fun e he=>by rw[List.mem_singleton.mp he];exact⟨B,fun n=>Iff.rfl,fun z=>Iff.rfl⟩⟩
end

section
variable {P:Program}{w:World}{K:PySem.W.Frag}{mg:Str→Option Value}{base:Heap}
theorem xp {H:Hp}{A:Ad}{b:Addr}{o:HO}(h:H b=some o)(b1:b≠A.x)(b2:b≠A.d1)(b3:b≠A.ls)(b4:b≠A.db):hid H A b=some o:=by
 unfold hid;rw[if_neg (fun z=>by rcases z with z | z | z | z;exact b1 z;exact b2 z;exact b3 z;exact b4 z)];exact h
theorem wA {H H':Hp}{C CB:Addr}{A:Ad}{W:Hp}{ss:List Str}{h:Hs}{b:Addr}{o:HO}(hh:aX H C CB A W ss h)(hb:H b=none)(h':H' b=some o):hid H' A b=some o:=by
 obtain⟨_,hls,_⟩:=hh.dp
 obtain⟨_,hdb,_⟩:=hh.bk
 exact xp h' (fun z=>by rw[z,hh.ins] at hb;cases hb) (fun z=>by rw[z,hh.cl] at hb;cases hb) (fun z=>by rw[z,hls] at hb;cases hb) (fun z=>by rw[z,hdb] at hb;cases hb)
theorem yv {xs:List V}{k:Nat}:eY xs none (some (k:Int))=xs.take k:=by
 unfold eY
 have e1:HT.sIx xs.length 0 none=0:=rfl
 have e2:HT.sIx xs.length xs.length (some (k:Int))=min k xs.length:=by rw[HT.sIx_nat]
 rw[e1,e2,List.drop_zero,Nat.sub_zero]
 rcases Nat.le_total k xs.length with h | h
 · rw[Nat.min_eq_left h]
 · rw[Nat.min_eq_right h,List.take_length,List.take_of_length_le h]
theorem sA (x y:Str):f9 x y=f9 y x:=by
 unfold f9
 by_cases h1:y.cps.toList < x.cps.toList
 · by_cases h2:x.cps.toList < y.cps.toList
   · exact absurd (List.lt_trans h1 h2) (List.lt_irrefl _)
   · rw[if_pos h1,if_neg h2]
 · by_cases h2:x.cps.toList < y.cps.toList
   · rw[if_neg h1,if_pos h2]
   · rw[if_neg h1,if_neg h2]
     have e:x=y:=f8 (dS.mpr h1) (dS.mpr h2)
     rw[e]
theorem nM {cs so:List Str}{i:Nat}{c z:Str}(hc:cs[i]?=some c)(hz:so[i]?=some z):(cs.take (i+1)).zip (so.take (i+1))=(cs.take i).zip (so.take i)++[(c,z)]:=by
 have h1:=(List.getElem?_eq_some_iff.mp hc).1
 have h2:=(List.getElem?_eq_some_iff.mp hz).1
 rw[bx hc,bx hz,List.zip_append (by rw[List.length_take,List.length_take];omega)]
 rfl
def TR (lk:Str→Str→Str)(row:List Str) (dy st:Int) (z:Str) (j:Nat):List (Int×Str×Str):=(List.range j).map fun k:Nat=>(dy+(k:Int)*st,row.getD k ⟨#[]⟩,bX lk (row.take (k+1)) z)
theorem qL {lk:Str→Str→Str}{row:List Str}{dy st:Int}{z n:Str}{j:Nat}(h:row[j]?=some n):TR lk row dy st z (j+1)=TR lk row dy st z j++[(dy+(j:Int)*st,n,lk n (bX lk (row.take j) z))]:=by
 unfold TR
 rw[List.range_succ,List.map_append]
 show _++[(dy+(j:Int)*st,row.getD j ⟨#[]⟩,bX lk (row.take (j+1)) z)]=_
 rw[gD h,List.getD_eq_getElem?_getD,h]
 rfl
theorem oI {lk:Str→Str→Str}{row:List Str}{dy st:Int}{h:Hs}{c z:Str}{j:Nat}(hj:j≤row.length)(ht:bF h.dp c 400=TR lk row dy st z j)(hl:h.cl.lookup c=some z):aY h c 400=bX lk (row.take j) z:=by
 unfold aY
 rw[ht]
 cases j with
 | zero =>
   show(h.cl.lookup c).getD ⟨#[]⟩=z
   rw[hl];rfl
 | succ j =>
   obtain⟨n,hn⟩:∃ n,row[j]?=some n:=⟨_,List.getElem?_eq_getElem (by omega)⟩
   rw[qL hn,List.getLast?_append]
   show lk n (bX lk (row.take j) z)=_
   rw[gD hn]
theorem cn {h:Hs}{d e:Int}(hd:∀ x∈h.dp,x.1≤d)(he:d≤e) (c:Str):aY h c e=aY h c d:=by
 have:bF h.dp c e=bF h.dp c d:=by
   unfold bF
   congr 1
   refine List.filter_congr fun x hx=>?_
   have:=hd x hx
   rw[decide_eq_true (show x.1≤e by omega),decide_eq_true this]
 unfold aY
 rw[this]
def abc:List Str:=["a", "b", "c", "d", "e", "f", "g", "h", "i", "j", "k", "l"].map Str.ofString
theorem yd:abc.Nodup:=by decide +kernel
theorem xJ:∀ c∈abc,Shw c∧bu c=true:=by
 unfold Shw
 decide +kernel
def nZ (K:PySem.W.Frag)(CH CB:Addr):Sp:=fun vs H Q _=>∃ (x lo t r:Addr)(so sb:List Str)(bb:List (Str×List Str))(row:List Str) (zz:Str) (d:Int),vs=[.ref x,.ref lo,.ref t,.int d]∧bg H CB x sb bb∧aO sb bb∧H lo=some (.lst (so.map V.str))∧(∀ z∈so,z∈sb)∧1≤so.length∧so.length≤12∧H t=some (.tup [.ref r,.str zz])∧H r=some (.lst (row.map V.str))∧(∀ n∈row,n∈bb.map (·.1))∧row.length≤1000∧(∀ y∈sb,bX (lkB sb bb) row y=zz)∧1≤d∧d≤400∧∀ H',Q (.bl true) H'
theorem dJ:au ["_law_book", "_law_order", "_law_found", "_law_day", "_law_house", "_law_many", "_law_cloths", "_law_k", "_law_bath", "_law_cloth"] ["_law_book", "_law_order", "_law_found", "_law_day"] (ae gG):=⟨rfl,rfl,rfl,by decide +kernel,rfl,by decide +kernel,by decide +kernel⟩
theorem sL {f fHR fHQ fHS fTI fHI:Addr}{fd fdHR fdHQ fdHS fdTI fdHI:FuncData}{CH CB cBN cKn cNS cFu cNC cNB cND cLa:Addr}(F:Fun K "_law_all_dipped" "_law_all_dipped" gG f fd)
   (T:Txt mg)(hX:Hx K mg CH)(TM:mg "max"=none)
   (GHR:aw P w K mg base (CX1 P w) 5 fHR fdHR ["self", "cloth", "shade"] (la CH CB cBN cKn cNS cFu))(hmHR:bZ K CH "bring" fHR)(bHR:az K fdHR ["self", "cloth", "shade"] [])
   (GHQ:aw P w K mg base (CX1 P w) 5 fHQ fdHQ ["self", "cloth", "bath", "day"] (qI CH CB cNC cNB cND cLa cFu))(hmHQ:bZ K CH "dip" fHQ)(bHQ:az K fdHQ ["self", "cloth", "bath", "day"] [])
   (GHS:aw P w K mg base (CX1 P w) 3 fHS fdHS ["self", "cloth", "day"] (lf CH CB cNC cND))(hmHS:bZ K CH "shade" fHS)(bHS:az K fdHS ["self", "cloth", "day"] [])
   (GTI:aw P w K mg base CX0 1 fTI fdTI ["_law_found", "_law_due"] ph)(kTI:PySem.W.keepIn K (.ref fTI)=true)(bTI:az K fdTI ["_law_found", "_law_due"] [])(mTI:mg "_law_text_is"=some (.ref fTI))
   (MH:Mk K CH fHI)(GHI:aw P w K mg base CX0 1 fHI fdHI ["self", "book"] (na CH CB))(bHI:az K fdHI ["self", "book"] [])(mCH:mg "House"=some (.ref CH)) :
   aw P w K mg base CX0 6 f fd ["_law_book", "_law_order", "_law_found", "_law_day"] (nZ K CH CB):=by
 refine F.ok dJ (fun vs H Q E h=>?_) (fun cdv A outer s H vs Q E hr h=>?_)
 · obtain⟨_,_,_,_,_,_,_,_,_,_,rfl,_⟩:=h
   rfl
 · obtain⟨x,lo,t,r,so,sb,bb,row,zz,d,rfl,hbk,Bb,hlo,hsob,hs1,hs12,ht,hr0,hrow,hrl,hend,hd1,hd4,q⟩:=h
   have cH:=hX.c
   have hr1:=hr.mono (j:=1) (by omega)
   have hr2:=hr.mono (j:=2) (by omega)
   have hr3:=hr.mono (j:=3) (by omega)
   have hr5:=hr.mono (j:=5) (by omega)
   refine⟨_,(aj (ay (i:=4) dJ.nd rfl (Or.inl rfl) (jM MH GHI hr2 rfl mCH bHI .nil aH (aa (pv 0) ad)))
     (aj (ay (i:=5) dJ.nd rfl (Or.inl rfl) (al (gk rfl) (by rfl) T.min (by decide +kernel) (aa (al aE (by rfl) T.len PySem.boot_len (aa (pv 1) ad)) (aa (aC cq ah (al (ml rfl) (by rfl) TM (by decide +kernel) (aa ah (aa (al aE (by rfl) T.len PySem.boot_len (aa (aK cp (pv 2) ah (fun _ _=>rfl)) ad)) ad)))) ad))))
     (aj (ay (i:=6) dJ.nd rfl (Or.inl rfl) (dc gw (bp (yS ["a", "b", "c", "d", "e", "f", "g", "h", "i", "j", "k", "l"] (by decide +kernel))) eV (dC (pv 5))))
     (aj (bj PassesOwn.never rfl (cC rfl T.range (aa (pv 5) ad)) (ao (i:=7) dJ.nd rfl (Or.inl rfl)) (ag (aU (br (pv 4) cH hmHR GHR hr5 bHR .nil k9 (aa (aK aG (pv 6) (pv 7) (fun _ _=>rfl)) (aa (aK aG (pv 1) (pv 7) (fun _ _=>rfl)) ad))))))
     (aj (bj PassesOwn.never rfl (aQ (aK cp (pv 2) ah (fun _ _=>rfl))) (ao (i:=8) dJ.nd rfl (Or.inl rfl)) (ag (bj PassesOwn.never rfl (aQ (pv 6)) (ao (i:=9) dJ.nd rfl (Or.inl rfl)) (ag (aU (br (pv 4) cH hmHQ GHQ hr5 bHQ .nil k9 (aa (pv 9) (aa (pv 8) (aa (pv 3) ad)))))))))
     (aj (bj PassesOwn.never rfl (aQ (pv 6)) (ao (i:=9) dJ.nd rfl (Or.inl rfl)) (ag (aR (cE (cw (aq GTI hr1 rfl mTI kTI bTI .nil aH (aa (br (pv 4) cH hmHS GHS hr3 bHS .nil k9 (aa (pv 9) (aa (pv 3) ad))) (aa (aK cp (pv 2) ah (fun _ _=>rfl)) ad))))) (ag (ar cm)) aB)))
     (ag (ar cm)))))))),?_⟩
   have hs:=aP
   have lk0:∀ {A0:Ad}{m:Str}{dd:Int},(m==Str.ofString "first_shades")=false→(m==Str.ofString "day_now")=false→(m==Str.ofString "standing")=false→(m==Str.ofString "books_from")=false→List.lookup m (hfs A0 dd)=none:=fun h1 h2 h3 h4=>gY h1 h2 h3 h4
   refine aW (fun σ' H'=>∃ (A0:Ad)(W:Hp),σ'=[some (.ref x),some (.ref lo),some (.ref t),some (.int d),some (.ref A0.x),none,none,none,none,none]∧af H (hid H' A0)∧aX H' CH CB A0 W sb ⟨[],1,[],[(1,(sb,bb))]⟩) (fun R hR=>?_) ?_
   · walk_at "dm"
     intro xh dx hx hdx hne
     have S6':af H (hide (upd (upd H dx (.own xh)) xh (.ins CH dx [])) xh):=fun y o e=>by
       rw[bq (ak e hx),ai (ak e hx),ai (ak e hdx)];exact e
     exact⟨xh,dx,x,_,sb,bb,rfl,ac,af.refl _,af.book S6' hbk,fun A0 H2 hA S7 hh=>⟨rfl,by rw[←hA];exact hR _ _ ⟨A0,_,rfl,S6'.trans S7,hh⟩⟩⟩
   rintro σ1 H1 ⟨A0,W,rfl,S1,hh1⟩
   have ho1:=dj.new Bb
   have S1u:=S1.trans (b9 (A:=A0))
   refine aW (fun σ' H'=>∃ m:Nat,m≤so.length∧m*row.length≤1000∧σ'=[some (.ref x),some (.ref lo),some (.ref t),some (.int d),some (.ref A0.x),some (.int m),none,none,none,none]∧H'=H1) (fun R hR=>?_) ?_
   · walk_at "dm"
     refine⟨_,.inl (SqL.of (S1u _ _ hlo)),_,SqT.of (S1u _ _ ht),_,rfl,r,rfl,_,.inl (SqL.of (S1u _ _ hr0)),?_,?_,?_⟩
     · rw[List.length_map];split<;>omega
     · rw[List.length_map];split<;>omega
     · have eg:(if((row.length:Nat):Int) > 1 then((row.length:Nat):Int) else 1)=((max 1 row.length:Nat):Int):=by split<;>omega
       rw[List.length_map,List.length_map,eg]
       have ed:(1000:Int) / ((max 1 row.length:Nat):Int)=((1000 / max 1 row.length:Nat):Int):=(Int.natCast_ediv 1000 _).symm
       rw[ed]
       have em:(if((1000 / max 1 row.length:Nat):Int) < ((so.length:Nat):Int) then((1000 / max 1 row.length:Nat):Int) else((so.length:Nat):Int))=((min so.length (1000 / max 1 row.length):Nat):Int):=by split<;>omega
       rw[em]
       exact hR _ _ ⟨_,Nat.min_le_left _ _,Nat.le_trans (Nat.mul_le_mul (Nat.min_le_right _ _) (Nat.le_max_right 1 _)) (Nat.div_mul_le_self _ _),rfl,rfl⟩
   rintro σ2 H2 ⟨m,hm1,hm2,rfl,rfl⟩
   refine aW (fun σ' H'=>∃ (lc:Addr)(cs:List Str),σ'=[some (.ref x),some (.ref lo),some (.ref t),some (.int d),some (.ref A0.x),some (.int m),some (.ref lc),none,none,none]∧af H2 H'∧hid H' A0 lc=some (.lst (cs.map V.str))∧cs.length=m∧cs.Nodup∧∀ c∈cs,Shw c∧bu c=true) (fun R hR=>?_) ?_
   · walk_at "dm"
     refine⟨by omega,fun p hp=>⟨_,SqL.of ac,fun lc hlc=>?_⟩⟩
     have Sp:=af.updN (o:=.lst (abc.map V.str)) hp
     refine hR _ _ ⟨lc,abc.take m,rfl,Sp.trans (af.updN hlc),wA hh1 (Sp.free hlc) ?_,by rw[List.length_take];show min m 12=m;omega,yd.sublist (List.take_sublist _ _),fun c hc=>xJ c (List.mem_of_mem_take hc)⟩
     rw[ac,yv]
     show some (HO.lst ((abc.map V.str).take m))=_
     rw[List.map_take]
   rintro σ3 H3 ⟨lc,cs,rfl,S3,hlc,hcl,hcnd,hcnm⟩
   have hh3:=af.house S3 hh1
   have S3h:af H (hid H3 A0):=S1.trans (ff S3)
   refine aW (fun σ' H'=>∃ o7,σ'=[some (.ref x),some (.ref lo),some (.ref t),some (.int d),some (.ref A0.x),some (.int m),some (.ref lc),o7,none,none]∧af (hid H3 A0) (hid H' A0)∧aX H' CH CB A0 W sb ⟨cs.zip (so.take m),1,[],[(1,(sb,bb))]⟩∧dj sb (bb.map (·.1)) ⟨cs.zip (so.take m),1,[],[(1,(sb,bb))]⟩) (fun R hR=>?_) ?_
   · walk_at "dm"
     refine⟨by omega,by omega,?_⟩
     rw[Int.toNat_natCast]
     refine bi (H0:=fun _=>none) bM (fun i σ' H'=>∃ o7,σ'=[some (.ref x),some (.ref lo),some (.ref t),some (.int d),some (.ref A0.x),some (.int m),some (.ref lc),o7,none,none]∧af (hid H3 A0) (hid H' A0)∧aX H' CH CB A0 W sb ⟨(cs.take i).zip (so.take i),1,[],[(1,(sb,bb))]⟩∧dj sb (bb.map (·.1)) ⟨(cs.take i).zip (so.take i),1,[],[(1,(sb,bb))]⟩) ⟨none,rfl,af.refl _,hh3,ho1⟩ (fun _ _ _ _ _ b o e=>by cases e) ?_ ?_
     · rintro i y σ' H' hi rfl ⟨o7,rfl,hS,hh,ho⟩ R2 hR2
       have hz:(0:Int)+(i:Int)=i:=by omega
       rw[hz]
       obtain⟨c,hc⟩:∃ c,cs[i]?=some c:=⟨_,List.getElem?_eq_getElem (by omega)⟩
       obtain⟨z,hzi⟩:∃ z,so[i]?=some z:=⟨_,List.getElem?_eq_getElem (by omega)⟩
       have hzs:z∈sb:=hsob z (List.mem_of_getElem? hzi)
       have hcm:=hcnm c (List.mem_of_getElem? hc)
       have hcn:c∉((cs.take i).zip (so.take i)).map (·.1):=fun h=>by
         rw[List.map_fst_zip (by rw[List.length_take,List.length_take];omega)] at h
         exact io hcnd hc h
       have hln:((cs.take i).zip (so.take i)).length≤12:=by rw[List.length_zip,List.length_take,List.length_take];omega
       walk_at "dm"
       refine⟨A0.dx,_,hh.ins,lk0 (by decide +kernel) (by decide +kernel) (by decide +kernel) (by decide +kernel),_,SqL.of (b9 _ _ (hS _ _ hlc)),_,dg hc,_,SqL.of (b9 _ _ (hS _ _ (S3h _ _ hlo))),_,dg hzi,A0,W,sb,_,_,_,_,rfl,hh,ho,by show((cs.take i).zip (so.take i)).length≤1000;omega,hcm.1,Bb.snw z hzs,fun hn=>absurd (hcm.2.symm.trans hn) (by decide),fun _ hn=>absurd hn hcn,fun _ _ hn=>absurd hzs hn,fun _ _ _ hn=>absurd hn (by show ¬(50≤((cs.take i).zip (so.take i)).length);omega),fun _ _ _ _ H2 S2 hh2=>hR2 _ _ ⟨_,rfl,hS.trans S2,?_,?_⟩⟩
       · rw[nM hc hzi];exact hh2
       · rw[nM hc hzi];exact ho.bring hcn hzs hcm.2
     · rintro σ' H' ⟨o7,rfl,hS,hh,ho⟩
       rw[List.take_of_length_le (l:=cs) (by omega)] at hh ho
       exact hR _ _ ⟨o7,rfl,hS,hh,ho⟩
   rintro σ4 H4 ⟨o7,rfl,S4,hh4,ho4⟩
   have S4h:af H (hid H4 A0):=S3h.trans S4
   have hlr4:=S4h _ _ hr0
   have ht4:=S4h _ _ ht
   have hlc4:=S4 _ _ hlc
   have hday:1≤d∧d≤400:=⟨hd1,hd4⟩
   have hlkp:∀ {k:Nat}{c z:Str},cs[k]?=some c→so[k]?=some z→(cs.zip (so.take m)).lookup c=some z:=fun {k c z} h1 h2=>by
     have hk:k < m:=by rw[←hcl];exact(List.getElem?_eq_some_iff.mp h1).1
     have hn:((cs.zip (so.take m)).map (·.1)).Nodup:=by rw[List.map_fst_zip (by rw[List.length_take];omega)];exact hcnd
     have hm:(c,z)∈cs.zip (so.take m):=List.mem_of_getElem? (i:=k) (by rw[List.getElem?_zip_eq_some];exact⟨h1,by rw[List.getElem?_take_of_lt hk];exact h2⟩)
     exact ej (c:=(c,z)) hn hm
   have hcmem:∀ c∈cs,c∈(cs.zip (so.take m)).map (·.1):=fun c h1=>by
     rw[List.map_fst_zip (by rw[List.length_take];omega)];exact h1
   refine aW (fun σ' H'=>∃ (W':Hp) (h':Hs)(o8 o9:Option V),σ'=[some (.ref x),some (.ref lo),some (.ref t),some (.int d),some (.ref A0.x),some (.int m),some (.ref lc),o7,o8,o9]∧af (hid H4 A0) (hid H' A0)∧aX H' CH CB A0 W' sb h'∧dj sb (bb.map (·.1)) h'∧h'.cl=cs.zip (so.take m)∧h'.day≤d∧∀ (k:Nat) (c z:Str),cs[k]?=some c→so[k]?=some z→bF h'.dp c 400=TR (lkB sb bb) row d 0 z row.length) (fun R hR=>?_) ?_
   · walk_at "dm"
     refine⟨_,SqT.of (b9 _ _ ht4),_,rfl,r,rfl,⟨_,SqL.of (b9 _ _ hlr4)⟩,?_⟩
     refine bi (H0:=hid H4 A0) (ax (SqL.of hlr4)) (fun j σ' H'=>∃ (W':Hp) (h':Hs)(o8 o9:Option V),σ'=[some (.ref x),some (.ref lo),some (.ref t),some (.int d),some (.ref A0.x),some (.int m),some (.ref lc),o7,o8,o9]∧af (hid H4 A0) (hid H' A0)∧aX H' CH CB A0 W' sb h'∧dj sb (bb.map (·.1)) h'∧h'.cl=cs.zip (so.take m)∧h'.bk=[(1,(sb,bb))]∧h'.day≤d∧h'.dp.length=j*cs.length∧∀ (k:Nat) (c z:Str),cs[k]?=some c→so[k]?=some z→bF h'.dp c 400=TR (lkB sb bb) row d 0 z j) ⟨W,_,none,none,rfl,af.refl _,hh4,ho4,rfl,rfl,hd1,by rw[Nat.zero_mul];rfl,fun k c z h1 h2=>rfl⟩ (fun _ _ _ _ ⟨_,_,_,_,_,h,_⟩=>h.trans b9) ?_ ?_
     · rintro j y σ' H' hj hy ⟨W',h',o8,o9,rfl,hS,hh,ho,ecl,ebk,hdy,hdl,htr⟩ R2 hR2
       rw[List.getElem?_map] at hy
       obtain⟨n,hn,rfl⟩:=Option.map_eq_some_iff.mp hy
       rw[List.length_map] at hj
       have hnm:=hrow n (List.mem_of_getElem? hn)
       have hnS:Shw n:=by
         obtain⟨b',hb',rfl⟩:=List.mem_map.mp hnm
         exact Bb.bnw b' hb'
       walk_at "dm"
       refine⟨⟨_,SqL.of (b9 _ _ (hS _ _ hlc4))⟩,?_⟩
       refine bi (H0:=hid H4 A0) (ax (SqL.of hlc4)) (fun i σ' H''=>∃ (W':Hp) (h':Hs)(o9:Option V),σ'=[some (.ref x),some (.ref lo),some (.ref t),some (.int d),some (.ref A0.x),some (.int m),some (.ref lc),o7,some (.str n),o9]∧af (hid H4 A0) (hid H'' A0)∧aX H'' CH CB A0 W' sb h'∧dj sb (bb.map (·.1)) h'∧h'.cl=cs.zip (so.take m)∧h'.bk=[(1,(sb,bb))]∧h'.day≤d∧h'.dp.length=j*cs.length+i∧∀ (k:Nat) (c z:Str),cs[k]?=some c→so[k]?=some z→bF h'.dp c 400=TR (lkB sb bb) row d 0 z (if k < i then j+1 else j)) ⟨W',h',o9,rfl,hS,hh,ho,ecl,ebk,hdy,by rw[hdl];rfl,fun k c z h1 h2=>by rw[if_neg (by omega)];exact htr k c z h1 h2⟩ (fun _ _ _ _ ⟨_,_,_,_,h,_⟩=>h.trans b9) ?_ ?_
       · rintro i y σ' H'' hi hy ⟨W',h',o9,rfl,hS,hh,ho,ecl,ebk,hdy,hdl,htr⟩ R3 hR3
         rw[List.getElem?_map] at hy
         obtain⟨c,hc,rfl⟩:=Option.map_eq_some_iff.mp hy
         rw[List.length_map] at hi
         obtain⟨z,hzi⟩:∃ z,so[i]?=some z:=⟨_,List.getElem?_eq_getElem (by omega)⟩
         have hcm:=hcnm c (List.mem_of_getElem? hc)
         have hcl':c∈h'.cl.map (·.1):=by rw[ecl];exact hcmem c (List.mem_of_getElem? hc)
         have hzs:z∈sb:=hsob z (List.mem_of_getElem? hzi)
         have hall:∀ x∈h'.dp,x.1≤h'.day:=fun x hx=>(ho.dd x hx).2
         have hsh:aY h' c d=bX (lkB sb bb) (row.take j) z:=by
           have h1:=htr i c z hc hzi
           rw[if_neg (by omega)] at h1
           rw[cn hall hdy c,←cn hall (e:=400) ho.d4 c]
           exact oI (by omega) h1 (by rw[ecl];exact hlkp hc hzi)
         have hem:bX (lkB sb bb) (row.take j) z∈sb:=gh (dh Bb) _ z (fun m hm=>hrow m (List.mem_of_mem_take hm)) hzs
         have eo:lkB (dv h'.bk d).1 (dv h'.bk d).2 n (aY h' c d)=lkB sb bb n (bX (lkB sb bb) (row.take j) z):=by
           rw[hsh,ebk];rfl
         have hdl9:h'.dp.length < 1000:=by
           rw[hdl]
           have h1:(j+1)*cs.length≤row.length*cs.length:=Nat.mul_le_mul_right _ (by omega)
           rw[Nat.add_mul,hcl,Nat.mul_comm row.length m] at h1
           rw[hcl] at hi ⊢
           omega
         walk_at "dm"
         refine⟨A0.dx,_,hh.ins,lk0 (by decide +kernel) (by decide +kernel) (by decide +kernel) (by decide +kernel),A0,W',sb,_,h',c,n,_,rfl,hh,ho,hcm.1,hnS,fun hn=>absurd hcl' hn,fun _ hn'=>absurd hnm hn',fun _ _ hn=>absurd hday hn,fun _ _ _ hl=>absurd hl (by omega),fun _ _ _ _ hn=>absurd hn (by omega),fun _ _ _ hge hlen H9 W2 S9 G9 hh9=>?_⟩
         rw[eo] at hh9
         refine hR3 _ _ ⟨W2,_,_,rfl,hS.trans S9,hh9,ho.dip hday hge hlen (dh Bb n hnm _ hem),ecl,ebk,Int.le_refl _,?_,fun k c2 z2 h1 h2=>?_⟩
         · show(h'.dp++[_]).length=_
           rw[List.length_append,hdl];rfl
         · show bF (h'.dp++[_]) c2 400=_
           rw[jj]
           by_cases hk:k=i
           · subst hk
             have e1:=Option.some.inj (h1.symm.trans hc)
             have e2:=Option.some.inj (h2.symm.trans hzi)
             subst e1 e2
             rw[if_pos ⟨rfl,hday.2⟩,htr k c2 z2 h1 h2,if_neg (Nat.lt_irrefl _),if_pos (Nat.lt_succ_self _),qL hn,Int.mul_zero,Int.add_zero]
           · have hcc:c≠c2:=fun e=>hk ((List.getElem?_inj (List.getElem?_eq_some_iff.mp h1).1 hcnd).mp (h1.trans (by rw[←e];exact hc.symm)))
             rw[if_neg (fun e=>hcc e.1),List.append_nil,htr k c2 z2 h1 h2]
             by_cases hki:k < i
             · rw[if_pos hki,if_pos (by omega)]
             · rw[if_neg hki,if_neg (by omega)]
       · rintro σ' H'' ⟨W',h',o9,rfl,hS,hh,ho,ecl,ebk,hdy,hdl,htr⟩
         rw[List.length_map] at hdl htr
         refine hR2 _ _ ⟨W',h',_,o9,rfl,hS,hh,ho,ecl,ebk,hdy,by rw[hdl,Nat.add_mul];omega,fun k c z h1 h2=>?_⟩
         have:=htr k c z h1 h2
         rw[if_pos (List.getElem?_eq_some_iff.mp h1).1] at this
         exact this
     · rintro σ' H' ⟨W',h',o8,o9,rfl,hS,hh,ho,ecl,ebk,hdy,hdl,htr⟩
       rw[List.length_map] at htr
       exact hR _ _ ⟨W',h',o8,o9,rfl,hS,hh,ho,ecl,hdy,htr⟩
   rintro σ5 H5 ⟨W',h',o8,o9,rfl,S5,hh5,ho5,ecl,hdy,htr⟩
   have hlc5:=b9 _ _ (S5 _ _ hlc4)
   have ht5:=b9 _ _ (S5 _ _ ht4)
   refine aW (fun σ' H'=>∃ σ1,σ'=σ1) (fun R hR=>?_) ?_
   · walk_at "dm"
     refine⟨⟨_,SqL.of hlc5⟩,?_⟩
     refine bi (H0:=H5) (ax (SqL.of hlc5)) (fun k σ' H'=>∃ (o9:Option V),σ'=[some (.ref x),some (.ref lo),some (.ref t),some (.int d),some (.ref A0.x),some (.int m),some (.ref lc),o7,o8,o9]∧af H5 H') ⟨_,rfl,af.refl _⟩ (fun _ _ _ _ ⟨_,_,h⟩=>h) ?_ (fun σ H' _=>hR _ _ ⟨_,rfl⟩)
     rintro k y σ' H' hk hy ⟨o9,rfl,S⟩ R2 hR2
     rw[List.getElem?_map] at hy
     obtain⟨c,hck,rfl⟩:=Option.map_eq_some_iff.mp hy
     rw[List.length_map] at hk
     obtain⟨z,hzk⟩:∃ z,so[k]?=some z:=⟨_,List.getElem?_eq_getElem (by omega)⟩
     have hcm:=hcnm c (List.mem_of_getElem? hck)
     have hcl5:c∈h'.cl.map (·.1):=by rw[ecl];exact hcmem c (List.mem_of_getElem? hck)
     have hh6:=af.house S hh5
     have hall:∀ x∈h'.dp,x.1≤h'.day:=fun x hx=>(ho5.dd x hx).2
     have e1:aY h' c d=zz:=by
       rw[cn hall hdy c,←cn hall (e:=400) ho5.d4 c,oI (Nat.le_refl _) (htr k c z hck hzk) (by rw[ecl];exact hlkp hck hzk),List.take_of_length_le (Nat.le_refl _)]
       exact hend z (hsob z (List.mem_of_getElem? hzk))
     walk_at "dm"
     refine⟨A0.dx,_,hh6.ins,lk0 (by decide +kernel) (by decide +kernel) (by decide +kernel) (by decide +kernel),A0,W',sb,_,h',c,d,rfl,hh6,ho5,hcm.1,fun _ _ H7 S7=>?_,fun hn=>absurd hcl5 hn,fun _ hn=>absurd hday hn⟩
     exact⟨_,SqT.of (S7 _ _ (S _ _ ht5)),_,rfl,_,_,rfl,true,by rw[e1,decide_eq_true rfl],aV (fun h=>by cases h) (fun _=>hR2 _ _ ⟨_,rfl,S.trans S7⟩)⟩
   rintro σ6 H6 ⟨σ1,rfl⟩
   walk_at "dm"
   exact q _
end

section
variable {P:Program}{w:World}{K:PySem.W.Frag}{mg:Str→Option Value}{base:Heap}
theorem kx {a b:Str}:∀ {L:List (Str×Str)},((L.map b7).any fun e=>pj e [V.str a,V.str b])=decide ((a,b)∈L)
 | []=>rfl
 | e::L=>by
   rw[List.map_cons,List.any_cons,kx (L:=L)]
   have h:pj (b7 e) [V.str a,V.str b]=decide (e=(a,b)):=by
     obtain⟨x,y⟩:=e
     show(eqV (.str x) (.str a)&&(eqV (.str y) (.str b)&&true))=_
     rw[Bool.and_true]
     show(decide (x=a)&&decide (y=b))=_
     rw[←Bool.decide_and]
     exact decide_eq_decide.mpr (by rw[Prod.mk.injEq])
   rw[h,←Bool.decide_or]
   exact decide_eq_decide.mpr (by rw[List.mem_cons];exact⟨fun h=>h.imp Eq.symm id,fun h=>h.imp Eq.symm id⟩)
def rc (K:PySem.W.Frag)(CH CB:Addr):Sp:=fun vs H Q _=>∃ (x l o lr:Addr)(sb:List Str)(bb:List (Str×List Str))(rs:List Addr)(L:List (Str×Str)) (z1 z2:Str)(row:List Str) (dy st:Int),vs=[.ref x,.ref l,.ref o,.ref lr,.int dy,.int st]∧bg H CB x sb bb∧aO sb bb∧H l=some (.lst (rs.map V.ref))∧cy H rs (L.map b7)∧H o=some (.tup [.str z1,.str z2])∧(z1,z2)∈L∧iO (lkB sb bb) (bb.map (·.1)) sb L∧H lr=some (.lst (row.map V.str))∧row.length≤40∧(∀ n∈row,n∈bb.map (·.1))∧1≤dy∧dy≤49∧0≤st∧st≤9∧∀ H',Q (.bl true) H'
theorem jF:au ["_law_book", "_law_pairs", "_law_one", "_law_row_here", "_law_day", "_law_step", "_law_house", "_law_k", "_law_came"] ["_law_book", "_law_pairs", "_law_one", "_law_row_here", "_law_day", "_law_step"] (ae ic):=⟨rfl,rfl,rfl,by decide +kernel,rfl,by decide +kernel,by decide +kernel⟩
theorem t5 {f fHR fHQ fHI:Addr}{fd fdHR fdHQ fdHI:FuncData}{CH CB cBN cKn cNS cFu cNC cNB cND cLa:Addr}(F:Fun K "_law_stay_apart" "_law_stay_apart" ic f fd)
   (T:Txt mg)(hX:Hx K mg CH)
   (GHR:aw P w K mg base (CX1 P w) 5 fHR fdHR ["self", "cloth", "shade"] (la CH CB cBN cKn cNS cFu))(hmHR:bZ K CH "bring" fHR)(bHR:az K fdHR ["self", "cloth", "shade"] [])
   (GHQ:aw P w K mg base (CX1 P w) 5 fHQ fdHQ ["self", "cloth", "bath", "day"] (qI CH CB cNC cNB cND cLa cFu))(hmHQ:bZ K CH "dip" fHQ)(bHQ:az K fdHQ ["self", "cloth", "bath", "day"] [])
   (MH:Mk K CH fHI)(GHI:aw P w K mg base CX0 1 fHI fdHI ["self", "book"] (na CH CB))(bHI:az K fdHI ["self", "book"] [])(mCH:mg "House"=some (.ref CH)) :
   aw P w K mg base CX0 6 f fd ["_law_book", "_law_pairs", "_law_one", "_law_row_here", "_law_day", "_law_step"] (rc K CH CB):=by
 refine F.ok jF (fun vs H Q E h=>?_) (fun cdv A outer s H vs Q E hr h=>?_)
 · obtain⟨_,_,_,_,_,_,_,_,_,_,_,_,_,rfl,_⟩:=h
   rfl
 · obtain⟨x,l,o,lr,sb,bb,rs,L,z1,z2,row,dy,st,rfl,hbk,Bb,hl,hT,hoo,hzL,SL,hlr,hr40,hrow,hdy1,hdy2,hst1,hst2,q⟩:=h
   have hu:(cr CX0 P w K mg base ["_law_book", "_law_pairs", "_law_one", "_law_row_here", "_law_day", "_law_step", "_law_house", "_law_k", "_law_came"] "_law_stay_apart" (ae ic) f cdv A outer s H E).A.units+1 < cLine:=by
     have:=hr.units
     exact Nat.lt_of_le_of_lt (Nat.add_le_add_left (by decide) _) this
   have cH:=hX.c
   have hr2:=hr.mono (j:=2) (by omega)
   have hr5:=hr.mono (j:=5) (by omega)
   refine⟨_,(aj (ay (i:=6) jF.nd rfl (Or.inl rfl) (jM MH GHI hr2 rfl mCH bHI .nil aH (aa (pv 0) ad)))
     (aj (aU (br (pv 6) cH hmHR GHR hr5 bHR .nil k9 (aa ba (aa (aK cp (pv 2) ah (fun _ _=>rfl)) ad))))
     (aj (aU (br (pv 6) cH hmHR GHR hr5 bHR .nil k9 (aa ba (aa (aK cp (pv 2) ah (fun _ _=>rfl)) ad))))
     (aj (bj PassesOwn.never rfl (cC rfl T.range (aa (al aE (by rfl) T.len PySem.boot_len (aa (pv 3) ad)) ad)) (ao (i:=7) jF.nd rfl (Or.inl rfl)) (aj (ay (i:=8) jF.nd rfl (Or.inl rfl) (bp (aa (br (pv 6) cH hmHQ GHQ hr5 bHQ .nil k9 (aa ba (aa (aK aG (pv 3) (pv 7) (fun _ _=>rfl)) (aa (aC bQ (pv 4) (aC gf (pv 7) (pv 5))) ad)))) (aa (br (pv 6) cH hmHQ GHQ hr5 bHQ .nil k9 (aa ba (aa (aK aG (pv 3) (pv 7) (fun _ _=>rfl)) (aa (aC bQ (pv 4) (aC gf (pv 7) (pv 5))) ad)))) ad))))
     (aj (aR (PW.pt (fc (cE (cw (al cJ (by rfl) T.isi (by decide +kernel) (aa (aK aG (pv 8) ah (fun _ _=>rfl)) (aa (dD (v:=.ty "str") rfl T.str (by decide +kernel) rfl) ad))))) (fc (cE (cw (al cJ (by rfl) T.isi (by decide +kernel) (aa (aK aG (pv 8) ah (fun _ _=>rfl)) (aa (dD (v:=.ty "str") rfl T.str (by decide +kernel) rfl) ad))))) (eu (aF dn (aK aG (pv 8) ah (fun _ _=>rfl)) (aK aG (pv 8) ah (fun _ _=>rfl)) (aM _)))))) (ag (ar cm)) aB)
     (ag (aR (PW.pt (tX (aF (lC hu) (de (aa (aK aG (pv 8) ah (fun _ _=>rfl)) (aa (aK aG (pv 8) ah (fun _ _=>rfl)) ad))) (pv 1) (by with_unfolding_all rfl)) (qW (aF (lC hu) (de (aa (aK aG (pv 8) ah (fun _ _=>rfl)) (aa (aK aG (pv 8) ah (fun _ _=>rfl)) ad))) (pv 1) (by with_unfolding_all rfl))))) (ag (ar cm)) aB)))))
     (ag (ar cm)))))),?_⟩
   have hs:=aP
   have lk0:∀ {A0:Ad}{m:Str}{dd:Int},(m==Str.ofString "first_shades")=false→(m==Str.ofString "day_now")=false→(m==Str.ofString "standing")=false→(m==Str.ofString "books_from")=false→List.lookup m (hfs A0 dd)=none:=fun h1 h2 h3 h4=>gY h1 h2 h3 h4
   have hz1:=(SL.mem _ hzL).1
   have hz2:=(SL.mem _ hzL).2.1
   refine aW (fun σ' H'=>∃ (A0:Ad)(W:Hp),σ'=[some (.ref x),some (.ref l),some (.ref o),some (.ref lr),some (.int dy),some (.int st),some (.ref A0.x),none,none]∧af H (hid H' A0)∧aX H' CH CB A0 W sb ⟨[],1,[],[(1,(sb,bb))]⟩) (fun R hR=>?_) ?_
   · walk_at "dm"
     intro xh dx hx hdx hne
     have S6':af H (hide (upd (upd H dx (.own xh)) xh (.ins CH dx [])) xh):=fun y o e=>by
       rw[bq (ak e hx),ai (ak e hx),ai (ak e hdx)];exact e
     exact⟨xh,dx,x,_,sb,bb,rfl,ac,af.refl _,af.book S6' hbk,fun A0 H2 hA S7 hh=>⟨rfl,by rw[←hA];exact hR _ _ ⟨A0,_,rfl,S6'.trans S7,hh⟩⟩⟩
   rintro σ14 H14 ⟨A0,W,rfl,S14,hh14⟩
   have ho14:=dj.new Bb
   have shl:Shw (Str.ofString "left"):=⟨by decide +kernel,by decide +kernel⟩
   have shr:Shw (Str.ofString "right"):=⟨by decide +kernel,by decide +kernel⟩
   have gl:bu (Str.ofString "left")=true:=by decide +kernel
   have gr:bu (Str.ofString "right")=true:=by decide +kernel
   have hlr':Str.ofString "left"≠Str.ofString "right":=by decide +kernel
   have hrn:Str.ofString "right"∉[(Str.ofString "left",z1)].map (·.1):=fun h=>hlr' (List.mem_singleton.mp h).symm
   have ho15:dj sb (bb.map (·.1)) ⟨[(Str.ofString "left",z1)],1,[],[(1,(sb,bb))]⟩:=ho14.bring List.not_mem_nil hz1 gl
   have ho16:dj sb (bb.map (·.1)) ⟨[(Str.ofString "left",z1),(Str.ofString "right",z2)],1,[],[(1,(sb,bb))]⟩:=ho15.bring hrn hz2 gr
   refine aW (fun σ' H'=>σ'=[some (.ref x),some (.ref l),some (.ref o),some (.ref lr),some (.int dy),some (.int st),some (.ref A0.x),none,none]∧af (hid H14 A0) (hid H' A0)∧aX H' CH CB A0 W sb ⟨[(Str.ofString "left",z1)],1,[],[(1,(sb,bb))]⟩) (fun R hR=>?_) ?_
   · walk_at "dm"
     exact⟨A0.dx,_,hh14.ins,lk0 (by decide +kernel) (by decide +kernel) (by decide +kernel) (by decide +kernel),_,SqT.of (b9 _ _ (S14 _ _ hoo)),_,rfl,A0,W,sb,_,_,_,_,rfl,hh14,ho14,Nat.zero_le _,shl,Bb.snw z1 hz1,fun hn=>absurd (gl.symm.trans hn) (by decide),fun _ hn=>absurd hn List.not_mem_nil,fun _ _ hn=>absurd hz1 hn,fun _ _ _ hn=>absurd hn (by show ¬(50≤0);omega),fun _ _ _ _ H2 S2 hh2=>hR _ _ ⟨rfl,S2,hh2⟩⟩
   rintro σ15 H15 ⟨rfl,S15,hh15⟩
   refine aW (fun σ' H'=>σ'=[some (.ref x),some (.ref l),some (.ref o),some (.ref lr),some (.int dy),some (.int st),some (.ref A0.x),none,none]∧af (hid H15 A0) (hid H' A0)∧aX H' CH CB A0 W sb ⟨[(Str.ofString "left",z1),(Str.ofString "right",z2)],1,[],[(1,(sb,bb))]⟩) (fun R hR=>?_) ?_
   · walk_at "dm"
     exact⟨A0.dx,_,hh15.ins,lk0 (by decide +kernel) (by decide +kernel) (by decide +kernel) (by decide +kernel),_,SqT.of (b9 _ _ (S15 _ _ (S14 _ _ hoo))),_,rfl,A0,W,sb,_,_,_,_,rfl,hh15,ho15,by show 1≤1000;omega,shr,Bb.snw z2 hz2,fun hn=>absurd (gr.symm.trans hn) (by decide),fun _ hn=>absurd hn hrn,fun _ _ hn=>absurd hz2 hn,fun _ _ _ hn=>absurd hn (by show ¬(50≤1);omega),fun _ _ _ _ H2 S2 hh2=>hR _ _ ⟨rfl,S2,hh2⟩⟩
   rintro σ16 H16 ⟨rfl,S16,hh16⟩
   have hmul:∀ j:Nat,j≤39→0≤(j:Int)*st∧(j:Int)*st≤351:=fun j hj=>by
     refine⟨Int.mul_nonneg (by omega) hst1,?_⟩
     have h1:(j:Int)*st≤39*st:=Int.mul_le_mul_of_nonneg_right (by omega) hst1
     omega
   have S6h:af H (hid H16 A0):=S14.trans (S15.trans S16)
   have hcnd:([(Str.ofString "left",z1),(Str.ofString "right",z2)].map (·.1)).Nodup:=ho16.cnd
   refine aW (fun σ' H'=>∃ σ1,σ'=σ1) (fun R hR=>?_) ?_
   · walk_at "dm"
     refine⟨_,.inl (SqL.of (b9 _ _ (S6h _ _ hlr))),by omega,by rw[List.length_map];omega,?_⟩
     rw[List.length_map,Int.toNat_natCast]
     refine bi (H0:=fun _=>none) bM (fun j σ' H'=>∃ (W':Hp) (h':Hs)(o7 o8:Option V) (u v:Str),σ'=[some (.ref x),some (.ref l),some (.ref o),some (.ref lr),some (.int dy),some (.int st),some (.ref A0.x),o7,o8]∧af (hid H16 A0) (hid H' A0)∧aX H' CH CB A0 W' sb h'∧dj sb (bb.map (·.1)) h'∧h'.cl=[(Str.ofString "left",z1),(Str.ofString "right",z2)]∧h'.bk=[(1,(sb,bb))]∧h'.day≤dy+(j:Int)*st∧h'.dp.length=j*2∧aY h' (Str.ofString "left") 400=u∧aY h' (Str.ofString "right") 400=v∧((u,v)∈L∨(v,u)∈L)) ⟨W,_,none,none,z1,z2,rfl,af.refl _,hh16,ho16,rfl,rfl,by show 1≤_;omega,rfl,?_,?_,.inl hzL⟩ (fun _ _ _ _ _ b o e=>by cases e) ?_ (fun σ H' _=>hR _ _ ⟨_,rfl⟩)
     · unfold aY
       show(([(Str.ofString "left",z1),(Str.ofString "right",z2)].lookup (Str.ofString "left")).getD ⟨#[]⟩)=z1
       rw[ej (c:=(Str.ofString "left",z1)) hcnd (by simp)]
       rfl
     · unfold aY
       show(([(Str.ofString "left",z1),(Str.ofString "right",z2)].lookup (Str.ofString "right")).getD ⟨#[]⟩)=z2
       rw[ej (c:=(Str.ofString "right",z2)) hcnd (by simp)]
       rfl
     rintro j y σ' H' hj rfl ⟨W',h',o7,o8,u,v,rfl,hS,hh,ho,ecl,ebk,hdy,hdl,hu1,hv1,huv⟩ R2 hR2
     have hz:(0:Int)+(j:Int)=j:=by omega
     rw[hz]
     obtain⟨n,hn⟩:∃ n,row[j]?=some n:=⟨_,List.getElem?_eq_getElem hj⟩
     have hnm:=hrow n (List.mem_of_getElem? hn)
     have hmj:=hmul j (by omega)
     have hday:1≤dy+(j:Int)*st∧dy+(j:Int)*st≤400:=⟨by omega,by omega⟩
     have hnS:Shw n:=by
       obtain⟨b',hb',rfl⟩:=List.mem_map.mp hnm
       exact Bb.bnw b' hb'
     have hdn:dy+(j:Int)*st≤dy+((j+1:Nat):Int)*st:=by
       have:((j+1:Nat):Int)*st=(j:Int)*st+st:=by rw[Int.natCast_add,Int.add_mul];simp
       omega
     have hstk:lkB sb bb n u≠lkB sb bb n v∧f9 (lkB sb bb n u) (lkB sb bb n v)∈L:=by
       rcases huv with h1 | h1
       · exact SL.out _ h1 n hnm
       · have:=SL.out _ h1 n hnm
         exact⟨fun e=>this.1 e.symm,by rw[sA];exact this.2⟩
     have huvm:u∈sb∧v∈sb:=by
       rcases huv with h1 | h1
       · exact⟨(SL.mem _ h1).1,(SL.mem _ h1).2.1⟩
       · exact⟨(SL.mem _ h1).2.1,(SL.mem _ h1).1⟩
     have hall:∀ x∈h'.dp,x.1≤h'.day:=fun x hx=>(ho.dd x hx).2
     have hshl:aY h' (Str.ofString "left") (dy+(j:Int)*st)=u:=by
       rw[cn hall hdy,←cn hall (e:=400) ho.d4]
       exact hu1
     have hcll:Str.ofString "left"∈h'.cl.map (·.1):=by rw[ecl];exact List.mem_cons_self
     have hclr:Str.ofString "right"∈h'.cl.map (·.1):=by rw[ecl];exact List.mem_cons_of_mem _ List.mem_cons_self
     have hum:=dh Bb n hnm _ huvm.1
     have hvm:=dh Bb n hnm _ huvm.2
     refine aW (fun σ2 H2=>∃ (lc:Addr)(W2:Hp) (h2:Hs),σ2=[some (.ref x),some (.ref l),some (.ref o),some (.ref lr),some (.int dy),some (.int st),some (.ref A0.x),some (.int j),some (.ref lc)]∧af (hid H16 A0) (hid H2 A0)∧aX H2 CH CB A0 W2 sb h2∧dj sb (bb.map (·.1)) h2∧h2.cl=[(Str.ofString "left",z1),(Str.ofString "right",z2)]∧h2.bk=[(1,(sb,bb))]∧h2.day=dy+(j:Int)*st∧h2.dp.length=(j+1)*2∧aY h2 (Str.ofString "left") 400=lkB sb bb n u∧aY h2 (Str.ofString "right") 400=lkB sb bb n v∧H2 lc=some (.lst [.str (lkB sb bb n u),.str (lkB sb bb n v)])) (fun R3 hR3=>?_) ?_
     · walk_at "dm"
       refine⟨A0.dx,_,hh.ins,lk0 (by decide +kernel) (by decide +kernel) (by decide +kernel) (by decide +kernel),_,SqL.of (b9 _ _ (hS _ _ (S6h _ _ hlr))),_,dg hn,.inl ⟨by omega,by omega⟩,A0,W',sb,_,h',_,n,_,rfl,hh,ho,shl,hnS,fun hn=>absurd hcll hn,fun _ hn'=>absurd hnm hn',fun _ _ hn=>absurd hday hn,fun _ _ _ hl=>absurd hl (by omega),fun _ _ _ _ hn=>absurd hn (by omega),fun _ _ _ hge hlen H9 W9 S9 G9 hh9=>?_⟩
       have eo:lkB (dv h'.bk (dy+(j:Int)*st)).1 (dv h'.bk (dy+(j:Int)*st)).2 n (aY h' (Str.ofString "left") (dy+(j:Int)*st))=lkB sb bb n u:=by
         rw[hshl,ebk];rfl
       rw[eo] at hh9 ⊢
       have ho9:=ho.dip (c:=Str.ofString "left") (b:=n) hday hge hlen hum
       generalize eh9:({ h' with day:=dy+(j:Int)*st,dp:=h'.dp++[(dy+(j:Int)*st,Str.ofString "left",n,lkB sb bb n u)] }:Hs)=h9 at hh9 ho9
       have e9:h9.cl=h'.cl∧h9.bk=h'.bk∧h9.day=dy+(j:Int)*st∧h9.dp.length=j*2+1:=by
         subst eh9
         exact⟨rfl,rfl,rfl,by show(h'.dp++[_]).length=_;rw[List.length_append,hdl];rfl⟩
       have hl9:aY h9 (Str.ofString "left") 400=lkB sb bb n u:=by
         subst eh9
         rw[eU,if_pos ⟨rfl,hday.2⟩]
       have hr9:aY h9 (Str.ofString "right") 400=v:=by
         subst eh9
         rw[eU,if_neg (fun h=>hlr' h.1)]
         exact hv1
       have hr9d:aY h9 (Str.ofString "right") (dy+(j:Int)*st)=v:=by
         rw[←cn (e:=400) (fun x hx=>by have:=(ho9.dd x hx).2;rw[e9.2.2.1] at this;exact this) hday.2]
         exact hr9
       have hclr9:Str.ofString "right"∈h9.cl.map (·.1):=by rw[e9.1];exact hclr
       have S69:=hS.trans S9
       refine⟨A0.dx,_,hh9.ins,lk0 (by decide +kernel) (by decide +kernel) (by decide +kernel) (by decide +kernel),_,SqL.of (b9 _ _ (S69 _ _ (S6h _ _ hlr))),_,dg hn,.inl ⟨by omega,by omega⟩,A0,W9,sb,_,h9,_,n,_,rfl,hh9,ho9,shr,hnS,fun hn=>absurd hclr9 hn,fun _ hn'=>absurd hnm hn',fun _ _ hn=>absurd hday hn,fun _ _ _ hl=>absurd hl (by rw[e9.2.2.1];omega),fun _ _ _ _ hn=>absurd hn (by rw[e9.2.2.2];omega),fun _ _ _ hge hlen H10 W10 S10 G10 hh10=>?_⟩
       have eo2:lkB (dv h9.bk (dy+(j:Int)*st)).1 (dv h9.bk (dy+(j:Int)*st)).2 n (aY h9 (Str.ofString "right") (dy+(j:Int)*st))=lkB sb bb n v:=by
         rw[hr9d,e9.2.1,ebk];rfl
       rw[eo2] at hh10 ⊢
       have ho10:=ho9.dip (c:=Str.ofString "right") (b:=n) hday hge hlen hvm
       have hl10:aY { h9 with day:=dy+(j:Int)*st,dp:=h9.dp++[(dy+(j:Int)*st,Str.ofString "right",n,lkB sb bb n v)] } (Str.ofString "left") 400=lkB sb bb n u:=by
         rw[eU,if_neg (fun h=>hlr' h.1.symm)]
         exact hl9
       have hr10:aY { h9 with day:=dy+(j:Int)*st,dp:=h9.dp++[(dy+(j:Int)*st,Str.ofString "right",n,lkB sb bb n v)] } (Str.ofString "right") 400=lkB sb bb n v:=by
         rw[eU,if_pos ⟨rfl,hday.2⟩]
       refine⟨by omega,fun p hp=>hR3 _ _ ⟨p,_,_,rfl,S69.trans (S10.trans (ff (af.updN hp))),af.house (af.updN hp) hh10,ho10,e9.1.trans ecl,e9.2.1.trans ebk,rfl,?_,hl10,hr10,ac⟩⟩
       show(h9.dp++[_]).length=_
       rw[List.length_append,e9.2.2.2,Nat.add_mul];rfl
     rintro σ2 H2 ⟨lc,W2,h2,rfl,S2,hh2,ho2,ecl2,ebk2,hdy2,hdl2,hu2,hv2,hlc⟩
     refine aW (fun σ3 H3=>σ3=[some (.ref x),some (.ref l),some (.ref o),some (.ref lr),some (.int dy),some (.int st),some (.ref A0.x),some (.int j),some (.ref lc)]∧H3=H2) (fun R3 hR3=>?_) ?_
     · walk_at "dm"
       exact⟨_,SqL.of hlc,_,rfl,_,.str _,true,rfl,aV (fun h=>by cases h) (fun _=>⟨_,SqL.of hlc,_,rfl,_,.str _,true,rfl,aV (fun h=>by cases h) (fun _=>⟨_,SqL.of hlc,_,rfl,_,SqL.of hlc,_,rfl,rfl,aV (fun e=>absurd (V.str.inj e) hstk.1) (fun _=>hR3 _ _ ⟨rfl,rfl⟩)⟩)⟩)⟩
     rintro σ3 H3 ⟨rfl,rfl⟩
     have S63:af H H3:=(S6h.trans S2).trans b9
     have hT3:=hT.same S63
     have hl3:=S63 _ _ hl
     have hnin:∀ {G:Hp}{p:Addr},af H3 G→G p=none→p∉rs:=fun {G p} SG hp hm=>by
       obtain⟨i,hi⟩:=List.getElem?_of_mem hm
       have hil:=(List.getElem?_eq_some_iff.mp hi).1
       obtain⟨e,he⟩:∃ e,(L.map b7)[i]?=some e:=⟨_,List.getElem?_eq_getElem (by rw[←hT3.1];exact hil)⟩
       have:=SG _ _ (hT3.2 i p e hi he)
       rw[hp] at this
       cases this
     have hflat:∀ e∈L.map b7,e.length=2∧e.all dR=true:=fun e he=>by
       obtain⟨x,_,rfl⟩:=List.mem_map.mp he
       exact⟨rfl,rfl⟩
     have hgo:∀ {G:Hp}{o9:Option V},af H3 G→R2 [some (.ref x),some (.ref l),some (.ref o),some (.ref lr),some (.int dy),some (.int st),some (.ref A0.x),some (.int j),some (.ref lc)] G:=fun {G o9} SG =>
       hR2 _ _ ⟨W2,h2,_,_,lkB sb bb n u,lkB sb bb n v,rfl,S2.trans (ff SG),af.house SG hh2,ho2,ecl2,ebk2,by omega,hdl2,hu2,hv2,by
         have:=hstk.2
         unfold f9 at this
         split at this
         · exact .inr this
         · exact .inl this⟩
     walk_at "dm"
     refine⟨_,SqL.of hlc,_,rfl,_,SqL.of hlc,_,rfl,by omega,fun p hp=>?_⟩
     have Sp:=af.updN (o:=.tup [V.str (lkB sb bb n u),V.str (lkB sb bb n v)]) hp
     refine⟨p,l,_,rs,L.map b7,rfl,rfl,ac,SqL.of (Sp _ _ hl3),hT3.1,(hT3.same Sp).2,hnin (af.refl _) hp,hflat,rfl,?_⟩
     rw[kx]
     refine⟨_,rfl,aV (fun h1=>?_) (fun _=>hgo (o9:=none) Sp)⟩
     refine⟨_,SqL.of (Sp _ _ hlc),_,rfl,_,SqL.of (Sp _ _ hlc),_,rfl,by omega,fun p2 hp2=>?_⟩
     have Sp2:=af.updN (o:=.tup [V.str (lkB sb bb n v),V.str (lkB sb bb n u)]) hp2
     refine⟨p2,l,_,rs,L.map b7,rfl,rfl,ac,SqL.of (Sp2 _ _ (Sp _ _ hl3)),hT3.1,(hT3.same (Sp.trans Sp2)).2,hnin Sp hp2,hflat,rfl,?_⟩
     rw[kx]
     refine⟨_,rfl,aV (fun h2=>?_) (fun _=>hgo (o9:=none) (Sp.trans Sp2))⟩
     exfalso
     rw[Bool.true_xor,Bool.not_eq_true',decide_eq_false_iff_not] at h1 h2
     have:=hstk.2
     unfold f9 at this
     split at this
     · exact h2 this
     · exact h1 this
   rintro σ17 H17 ⟨σ1,rfl⟩
   walk_at "dm"
   exact q _
end

section
variable {P:Program}{w:World}{K:PySem.W.Frag}{mg:Str→Option Value}{base:Heap}
def re (K:PySem.W.Frag):Sp:=fun vs H Q _=>∃ (a:Addr)(ns:List Int),vs=[.ref a]∧SqL K H a (ns.map V.int)∧ns.length≤63∧∀ H',Q (.bl true) H'
theorem fg:au ["_law_script", "_law_shades", "_law_baths", "_law_spare", "_law_other", "_law_tables_here", "_law_order", "_law_book", "_law_found", "_law_day", "_law_row_here", "_law_one"] ["_law_script"] (ae mP):=⟨rfl,rfl,rfl,by decide +kernel,rfl,by decide +kernel,by decide +kernel⟩
theorem xH {f fA fDr fTa fHd fRw fTx fRB fA1 fPr fSk fTo fLD fLP:Addr}{fd fdA fdDr fdTa fdHd fdRw fdTx fdRB fdA1 fdPr fdSk fdTo fdLD fdLP:FuncData}{CH CB:Addr}(F:Fun K "law" "law" mP f fd)
   (T:Txt mg)(hX:Hx K mg CH)
   (GA:aw P w K mg base CX0 1 fA fdA ["_law_script", "_law_k"] (rV K))(kA:PySem.W.keepIn K (.ref fA)=true)(bA:az K fdA ["_law_script", "_law_k"] [])(mA:mg "_law_at"=some (.ref fA))
   (GDr:aw P w K mg base CX0 5 fDr fdDr ["_law_script"] (rh K))(kDr:PySem.W.keepIn K (.ref fDr)=true)(bDr:az K fdDr ["_law_script"] [])(mDr:mg "_law_drawn"=some (.ref fDr))
   (GTa:aw P w K mg base CX0 1 fTa fdTa ["_law_shades", "_law_baths"] (oW K))(kTa:PySem.W.keepIn K (.ref fTa)=true)(bTa:az K fdTa ["_law_shades", "_law_baths"] [])(mTa:mg "_law_tables"=some (.ref fTa))
   (GHd:aw P w K mg base CX0 6 fHd fdHd ["_law_shades", "_law_baths"] (oQ K CB))(kHd:PySem.W.keepIn K (.ref fHd)=true)(bHd:az K fdHd ["_law_shades", "_law_baths"] [])(mHd:mg "_law_handed"=some (.ref fHd))
   (GRw:aw P w K mg base CX0 2 fRw fdRw ["_law_cell", "_law_size", "_law_titles", "_law_mixed"] (w5 K))(kRw:PySem.W.keepIn K (.ref fRw)=true)(bRw:az K fdRw ["_law_cell", "_law_size", "_law_titles", "_law_mixed"] [])(mRw:mg "_law_row"=some (.ref fRw))
   (GTx:aw P w K mg base CX0 1 fTx fdTx ["_law_order", "_law_tables_here"] (t4 K))(kTx:PySem.W.keepIn K (.ref fTx)=true)(bTx:az K fdTx ["_law_order", "_law_tables_here"] [])(mTx:mg "_law_text"=some (.ref fTx))
   (GRB:aw P w K mg base CX0 7 fRB fdRB ["text"] (uE CB))(kRB:PySem.W.keepIn K (.ref fRB)=true)(bRB:az K fdRB ["text"] [])(mRB:mg "read_book"=some (.ref fRB))
   (GA1:aw P w K mg base CX0 5 fA1 fdA1 ["book"] (k4 CB))(kA1:PySem.W.keepIn K (.ref fA1)=true)(bA1:az K fdA1 ["book"] [])(mA1:mg "all_to_one"=some (.ref fA1))
   (GPr:aw P w K mg base CX0 1 fPr fdPr ["_law_found"] pH)(kPr:PySem.W.keepIn K (.ref fPr)=true)(bPr:az K fdPr ["_law_found"] [])(mPr:mg "_law_pair"=some (.ref fPr))
   (GSk:aw P w K mg base CX0 2 fSk fdSk ["_law_pairs", "_law_order", "_law_tables_here"] (oK K))(kSk:PySem.W.keepIn K (.ref fSk)=true)(bSk:az K fdSk ["_law_pairs", "_law_order", "_law_tables_here"] [])(mSk:mg "_law_stuck"=some (.ref fSk))
   (GTo:aw P w K mg base CX0 2 fTo fdTo ["_law_found", "_law_order", "_law_tables_here"] (pe K))(kTo:PySem.W.keepIn K (.ref fTo)=true)(bTo:az K fdTo ["_law_found", "_law_order", "_law_tables_here"] [])(mTo:mg "_law_to_one"=some (.ref fTo))
   (GLD:aw P w K mg base CX0 6 fLD fdLD ["_law_book", "_law_order", "_law_found", "_law_day"] (nZ K CH CB))(kLD:PySem.W.keepIn K (.ref fLD)=true)(bLD:az K fdLD ["_law_book", "_law_order", "_law_found", "_law_day"] [])(mLD:mg "_law_all_dipped"=some (.ref fLD))
   (GLP:aw P w K mg base CX0 6 fLP fdLP ["_law_book", "_law_pairs", "_law_one", "_law_row_here", "_law_day", "_law_step"] (rc K CH CB))(kLP:PySem.W.keepIn K (.ref fLP)=true)(bLP:az K fdLP ["_law_book", "_law_pairs", "_law_one", "_law_row_here", "_law_day", "_law_step"] [])(mLP:mg "_law_stay_apart"=some (.ref fLP)) :
   aw P w K mg base CX0 8 f fd ["_law_script"] (re K):=by
 refine F.ok fg (fun vs H Q E h=>?_) (fun cdv A outer s H vs Q E hr h=>?_)
 · obtain⟨_,_,rfl,_⟩:=h
   rfl
 · obtain⟨a,ns,rfl,ha,hn,q⟩:=h
   have hr1:=hr.mono (j:=1) (by omega)
   have hr2:=hr.mono (j:=2) (by omega)
   have hr5:=hr.mono (j:=5) (by omega)
   have hr6:=hr.mono (j:=6) (by omega)
   have hr7:=hr.mono (j:=7) (by omega)
   refine⟨_,(aj (qi (aq GDr hr5 rfl mDr kDr bDr .nil aH (aa (pv 0) ad)) (fK (n:=4) rfl (bc (ao (i:=1) fg.nd rfl (Or.inl rfl)) (bc (ao (i:=2) fg.nd rfl (Or.inl rfl)) (bc (ao (i:=3) fg.nd rfl (Or.inl rfl)) (bc (ao (i:=4) fg.nd rfl (Or.inl rfl)) dY))))))
     (aj (ay (i:=5) fg.nd rfl (Or.inl rfl) (aq GTa hr1 rfl mTa kTa bTa .nil aH (aa (pv 1) (aa (pv 2) ad))))
     (aj (ay (i:=6) fg.nd rfl (Or.inl rfl) (al dU (by rfl) T.sorted (by decide +kernel) (aa (pv 1) ad)))
     (aj (ay (i:=7) fg.nd rfl (Or.inl rfl) (aq GHd hr6 rfl mHd kHd bHd .nil aH (aa (pv 1) (aa (pv 2) ad))))
     (aj (aR (aF dn (aC bn (aq GA hr1 rfl mA kA bA .nil aH (aa (pv 0) (aa ah ad))) ah) ah (aM _)) (ag (ay (i:=7) fg.nd rfl (Or.inl rfl) (aq GRB hr7 rfl mRB kRB bRB .nil aH (aa (aq GTx hr1 rfl mTx kTx bTx .nil aH (aa (pv 6) (aa (pv 5) ad))) ad)))) aB)
     (aj (ay (i:=8) fg.nd rfl (Or.inl rfl) (aq GA1 hr5 rfl mA1 kA1 bA1 .nil aH (aa (pv 7) ad)))
     (aj (ay (i:=9) fg.nd rfl (Or.inl rfl) (aC bQ ah (aC bn (aq GA hr1 rfl mA kA bA .nil aH (aa (pv 0) (aa ah ad))) ah)))
     (aj (aR (cE (cw (aq GPr hr1 rfl mPr kPr bPr .nil aH (aa (pv 8) ad)))) (ag (ar cm)) aB)
     (aj (aR (aF rb (aK cp (pv 8) ah (fun _ _=>rfl)) nk (aM _)) (ag (ar (pJ (aq GTo hr2 rfl mTo kTo bTo .nil aH (aa (pv 8) (aa (pv 6) (aa (pv 5) ad)))) (pN (aq GLD hr6 rfl mLD kLD bLD .nil aH (aa (pv 7) (aa (pv 6) (aa (pv 8) (aa (pv 9) ad))))))))) aB)
     (aj (aR (cE (cw (aq GSk hr2 rfl mSk kSk bSk .nil aH (aa (aK cp (pv 8) ah (fun _ _=>rfl)) (aa (pv 6) (aa (pv 5) ad)))))) (ag (ar cm)) aB)
     (aj (ay (i:=10) fg.nd rfl (Or.inl rfl) (aq GRw hr2 rfl mRw kRw bRw .nil aH (aa (aq GA hr1 rfl mA kA bA .nil aH (aa (pv 0) (aa ah ad))) (aa (aC bn (aq GA hr1 rfl mA kA bA .nil aH (aa (pv 0) (aa ah ad))) ah) (aa (al (fV rfl) (by rfl) T.sorted (by decide +kernel) (aa (pv 5) ad)) (aa ah ad))))))
     (aj (ay (i:=11) fg.nd rfl (Or.inl rfl) (aK aG (aK cp (pv 8) ah (fun _ _=>rfl)) (aC bn (aq GA hr1 rfl mA kA bA .nil aH (aa (pv 0) (aa ah ad))) (al aE (by rfl) T.len PySem.boot_len (aa (aK cp (pv 8) ah (fun _ _=>rfl)) ad))) (fun _ _=>rfl)))
     (ag (ar (aq GLP hr6 rfl mLP kLP bLP .nil aH (aa (pv 7) (aa (aK cp (pv 8) ah (fun _ _=>rfl)) (aa (pv 11) (aa (pv 10) (aa (pv 9) (aa (aC bn (aq GA hr1 rfl mA kA bA .nil aH (aa (pv 0) (aa ah ad))) ah) ad))))))))))))))))))))),?_⟩
   have hs:=aP
   refine aW (fun σ' H'=>∃ l lb ss bs v3 v4,σ'=[some (.ref a),some (.ref l),some (.ref lb),v3,v4,none,none,none,none,none,none,none]∧af H H'∧H' l=some (.lst (ss.map V.str))∧jw H' lb bs∧aO ss bs) (fun R hR=>?_) ?_
   · walk_at "dm"
     exact⟨a,ns,rfl,ha,fun p l lb ss bs spare other H' S h1 h2 h3 h4 h5 B _ _ _ _=>⟨p,_,rfl,SqT.of h1,rfl,_,_,rfl,_,_,rfl,_,_,rfl,_,_,rfl,rfl,hR _ _ ⟨l,lb,ss,bs,_,_,rfl,S,h3,h5,B⟩⟩⟩
   rintro σ1 H1 ⟨l,lb,ss,bs,v3,v4,rfl,S1,hl,hb,B⟩
   have hs12:=B.s12
   have hs1:=B.s1
   have hb8:=B.b8
   refine aW (fun σ' H'=>∃ tb,σ'=[some (.ref a),some (.ref l),some (.ref lb),v3,v4,some (.ref tb),none,none,none,none,none,none]∧af H1 H'∧gJ H' tb ss bs) (fun R hR=>?_) ?_
   · walk_at "dm"
     exact⟨l,lb,ss,bs,rfl,SqL.of hl,hb,B,fun d H' hd S hT=>hR _ _ ⟨d,rfl,S,hT⟩⟩
   rintro σ2 H2 ⟨tb,rfl,S2,hT⟩
   have hG:=gJ.toG B hT
   refine aW (fun σ' H'=>∃ (lo:Addr)(so:List Str),σ'=[some (.ref a),some (.ref l),some (.ref lb),v3,v4,some (.ref tb),some (.ref lo),none,none,none,none,none]∧af H2 H'∧H' lo=some (.lst (so.map V.str))∧so.Perm ss∧PyProof.Rows.sortedS so=true) (fun R hR=>?_) ?_
   · walk_at "dm"
     exact⟨ss,SqL.of (S2 _ _ hl),by omega,fun ls so hls hpm hso=>hR _ _ ⟨ls,so,rfl,af.updN hls,ac,hpm,hso⟩⟩
   rintro σ3 H3 ⟨lo,so,rfl,S3,hlo,hpm,hso⟩
   have hsl:so.length=ss.length:=hpm.length_eq
   have S03:=S1.trans (S2.trans S3)
   refine aW (fun σ' H'=>∃ x0,σ'=[some (.ref a),some (.ref l),some (.ref lb),v3,v4,some (.ref tb),some (.ref lo),some (.ref x0),none,none,none,none]∧af H3 H'∧bg H' CB x0 ss bs) (fun R hR=>?_) ?_
   · walk_at "dm"
     exact⟨l,lb,ss,bs,rfl,SqL.of ((S2.trans S3) _ _ hl),af.bths (S2.trans S3) hb,B,fun x H' hx S hbk=>hR _ _ ⟨x,rfl,S,hbk⟩⟩
   rintro σ7 H7 ⟨x0,rfl,S7,hbk⟩
   have hG7:=Fz.tabG (af.fz (S3.trans S7)) hG
   have hlo7:=S7 _ _ hlo
   have hkR:∀ {nt:List Str},(bsR so nt (lkB ss bs)).map (·.1)=nt:=fun {nt}=>km so nt (lkB ss bs)
   refine aW (fun σ' H'=>∃ (x0:Addr)(sb:List Str)(bb:List (Str×List Str)),σ'=[some (.ref a),some (.ref l),some (.ref lb),v3,v4,some (.ref tb),some (.ref lo),some (.ref x0),none,none,none,none]∧af H7 H'∧bg H' CB x0 sb bb∧aO sb bb∧(∀ z,z∈sb↔z∈ss)∧(∀ n,n∈bb.map (·.1)↔n∈bs.map (·.1))∧∀ n z,n∈bs.map (·.1)→z∈ss→lkB sb bb n z=lkB ss bs n z) (fun R hR=>?_) ?_
   · walk_at "dm"
     refine cO ((S03.trans S7).seq ha) (by decide) ⟨_,rfl,by decide,rfl,aV (fun _=>?_) (fun _=>hR _ _ ⟨x0,ss,bs,rfl,af.refl _,hbk,B,fun _=>Iff.rfl,fun _=>Iff.rfl,fun _ _ _ _=>rfl⟩)⟩
     refine⟨lo,tb,ss,so,bs.map (·.1),bs,lkB ss bs,rfl,B,hlo7,hpm,hG7,List.Perm.refl _,fun b hb z hz=>dL z B.bnd hb,fun H' nt S hnp hns=>?_⟩
     have BR:=xK B hpm hnp
     exact⟨so,nt,lkB ss bs,rfl,BR,hso,hns,fun x2 H2 _ S2 hbk2=>hR _ _ ⟨x2,so,_,rfl,S.trans S2,hbk2,BR,fun z=>hpm.mem_iff,fun n=>by rw[hkR];exact hnp.mem_iff,fun n z hn hz=>xa BR (hnp.mem_iff.mpr hn) (hpm.mem_iff.mpr hz)⟩⟩
   rintro σ8 H8 ⟨x,sb,bb,rfl,S8,hbk8,Bb,hzb,hnb,hlk⟩
   have eR:∀ (r:List Str) (z:Str),(∀ n∈r,n∈bb.map (·.1))→z∈ss→bX (lkB sb bb) r z=bX (lkB ss bs) r z:=by
     intro r
     induction r with
     | nil=>intro z _ _;rfl
     | cons n r ih =>
       intro z hr hz
       have hn:=(hnb n).mp (hr n List.mem_cons_self)
       show bX _ r (lkB sb bb n z)=bX _ r (lkB ss bs n z)
       rw[hlk n z hn hz]
       exact ih _ (fun m hm=>hr m (List.mem_cons_of_mem _ hm)) (dh B n hn z hz)
   refine aW (fun σ' H'=>∃ fo,σ'=[some (.ref a),some (.ref l),some (.ref lb),v3,v4,some (.ref tb),some (.ref lo),some (.ref x),some (.ref fo),none,none,none]∧af H8 H'∧bg H' CB x sb bb∧((∃ (R:List Str) (z:Str)(r:Addr),OkR (bb.map (·.1)) R∧R.length≤1000∧(∀ y∈sb,bX (lkB sb bb) R y=z)∧H' fo=some (.tup [.ref r,.str z])∧H' r=some (.lst (R.map V.str)))∨∃ (L:List (Str×Str))(rs:List Addr)(lp:Addr),iO (lkB sb bb) (bb.map (·.1)) sb L∧H' fo=some (.tup [.non,.ref lp])∧H' lp=some (.lst (rs.map V.ref))∧cy H' rs (L.map b7))) (fun R hR=>?_) ?_
   · walk_at "dm"
     exact⟨x,sb,bb,rfl,hbk8,Bb,fun R z t r H'' hRo hRl hRe hz S' hr0 ht hr=>hR _ _ ⟨t,rfl,S',af.book S' hbk8,.inl ⟨R,z,r,hRo,hRl,hRe,ht,hr⟩⟩,fun L rs t lp H'' St S' hl0 ht hlp hT=>hR _ _ ⟨t,rfl,S',af.book S' hbk8,.inr ⟨L,rs,lp,St,ht,hlp,hT⟩⟩⟩
   rintro σ4 H4 ⟨fo,rfl,S4,hbk4,hfo⟩
   have S84:=S8.trans S4
   have hG4:=Fz.tabG (af.fz S84) hG7
   have hlo4:=S84 _ _ hlo7
   have ha4:=((S03.trans S7).trans S84).seq ha
   refine aW (fun σ' H'=>∃ dy:Int,1≤dy∧dy≤49∧σ'=[some (.ref a),some (.ref l),some (.ref lb),v3,v4,some (.ref tb),some (.ref lo),some (.ref x),some (.ref fo),some (.int dy),none,none]∧H'=H4) (fun R hR=>?_) ?_
   · walk_at "dm"
     exact cO ha4 (by decide) ⟨_,rfl,by decide,hR _ _ ⟨_,by omega,by omega,rfl,rfl⟩⟩
   rintro σ5 H5 ⟨dy,hdy1,hdy2,rfl,rfl⟩
   refine aW (fun σ' H'=>σ'=[some (.ref a),some (.ref l),some (.ref lb),v3,v4,some (.ref tb),some (.ref lo),some (.ref x),some (.ref fo),some (.int dy),none,none]∧H'=H5) (fun R hR=>?_) ?_
   · obtain⟨x,y,ht⟩:∃ x y,H5 fo=some (.tup [x,y]):=by
       rcases hfo with ⟨_,_,_,_,_,_,h1,_⟩ | ⟨_,_,_,_,h1,_⟩
       · exact⟨_,_,h1⟩
       · exact⟨_,_,h1⟩
     walk_at "dm"
     exact⟨fo,_,_,rfl,ht,true,rfl,aV (fun h=>by cases h) (fun _=>hR _ _ ⟨rfl,rfl⟩)⟩
   rintro σ6 H6 ⟨rfl,rfl⟩
   refine aW (fun σ' H'=>σ'=[some (.ref a),some (.ref l),some (.ref lb),v3,v4,some (.ref tb),some (.ref lo),some (.ref x),some (.ref fo),some (.int dy),none,none]∧H'=H6∧∃ (L:List (Str×Str))(rs:List Addr)(lp:Addr),iO (lkB sb bb) (bb.map (·.1)) sb L∧H6 fo=some (.tup [.non,.ref lp])∧H6 lp=some (.lst (rs.map V.ref))∧cy H6 rs (L.map b7)) (fun R hR=>?_) ?_
   · rcases hfo with ⟨R',z,r,hRo,hRl,hRe,h1,h2⟩ | h
     · walk_at "dm"
       refine⟨_,SqT.of h1,_,rfl,aV (fun _=>?_) (fun e=>absurd (fun h=>by cases h) e)⟩
       refine⟨fo,lo,tb,r,so,ss,bs.map (·.1),R',lkB ss bs,z,rfl,h1,h2,SqL.of hlo4,hpm,by omega,hG4,dh B,fun n hn=>(hnb n).mp (hRo n hn),hRl,fun y hy=>by rw[←eR R' y hRo hy];exact hRe y ((hzb y).mpr hy),fun H7 S7=>⟨true,rfl,aV (fun _=>?_) (fun h=>absurd rfl h)⟩⟩
       exact⟨x,lo,fo,r,so,sb,bb,R',z,dy,rfl,af.book S7 hbk4,Bb,S7 _ _ hlo4,fun z hz=>(hzb z).mpr (hpm.mem_iff.mp hz),by omega,by omega,S7 _ _ h1,S7 _ _ h2,hRo,hRl,hRe,hdy1,by omega,q⟩
     · obtain⟨_,_,_,_,h1,_⟩:=id h
       walk_at "dm"
       exact⟨_,SqT.of h1,_,rfl,aV (fun e=>absurd rfl e) (fun _=>hR _ _ ⟨rfl,rfl,h⟩)⟩
   rintro σ9 H9 ⟨rfl,rfl,L,rs,lp,St,h1,h2,h3⟩
   refine aW (fun σ' H'=>σ'=[some (.ref a),some (.ref l),some (.ref lb),v3,v4,some (.ref tb),some (.ref lo),some (.ref x),some (.ref fo),some (.int dy),none,none]∧Fz H9 H') (fun R hR=>?_) ?_
   · have St':iO (lkB ss bs) (bs.map (·.1)) ss L:=⟨St.ne,St.nd,fun e he=>⟨(hzb _).mp (St.mem e he).1,(hzb _).mp (St.mem e he).2.1,(St.mem e he).2.2⟩,fun e he n hn=>by rw[←hlk n e.1 hn ((hzb _).mp (St.mem e he).1),←hlk n e.2 hn ((hzb _).mp (St.mem e he).2.1)];exact St.out e he n ((hnb n).mpr hn),St.len⟩
     walk_at "dm"
     exact⟨_,SqT.of h1,_,rfl,lp,lo,tb,rs,so,ss,bs.map (·.1),lkB ss bs,L,rfl,h2,h3,hlo4,hpm,by omega,hG4,dh B,St',fun H' F=>⟨true,rfl,aV (fun h=>by cases h) (fun _=>hR _ _ ⟨rfl,F⟩)⟩⟩
   rintro σ10 H10 ⟨rfl,F10⟩
   refine aW (fun σ' H'=>∃ (lr:Addr)(row:List Str),σ'=[some (.ref a),some (.ref l),some (.ref lb),v3,v4,some (.ref tb),some (.ref lo),some (.ref x),some (.ref fo),some (.int dy),some (.ref lr),none]∧Fz H10 H'∧H' lr=some (.lst (row.map V.str))∧row.length≤40∧∀ n∈row,n∈bs.map (·.1)) (fun R9 hR9=>?_) ?_
   · obtain⟨kvs,hRd,hkeys,_⟩:=Fz.tabG F10 hG4
     have ha10:=F10.seq ha4
     obtain⟨m,hm⟩:∃ m:Nat,atL ns 16 % 41=(m:Int):=Int.eq_ofNat_of_zero_le (by omega)
     walk_at "dm"
     refine cO ha10 (by decide) (cO ha10 (by decide) ⟨_,rfl,by decide,bs.map (·.1),kvs,hRd,hkeys,by rw[List.length_map];omega,fun p ts hp hpp _=>?_⟩)
     rw[hm]
     exact⟨_,_,m,p,ts,rfl,SqL.of ac,by omega,by rw[hpp.length_eq,List.length_map];exact hb8,.inr rfl,fun p2 row H6 _ S6 hH hlen hrow=>hR9 _ _ ⟨p2,row,rfl,af.fz ((af.updN hp).trans S6),hH,hlen,fun n hn=>hpp.mem_iff.mp (hrow n hn)⟩⟩
   rintro σ11 H11 ⟨lr,row,rfl,F11,hlr,h40,hrow⟩
   have F911:=F10.trans F11
   have h1':=F911.1 _ _ h1 (fun kvs e=>by cases e)
   have h2':=F911.1 _ _ h2 (fun kvs e=>by cases e)
   have h3':cy H11 rs (L.map b7):=⟨h3.1,fun i p e hp he=>F911.1 _ _ (h3.2 i p e hp he) (fun kvs e=>by cases e)⟩
   have ha11:=F911.seq ha4
   have hLl:rs.length=L.length:=by have:=h3.1;rw[List.length_map] at this;exact this
   have hL1:0 < L.length:=List.length_pos_iff.mpr St.ne
   refine aW (fun σ' H'=>∃ (on:Addr)(e:Str×Str),σ'=[some (.ref a),some (.ref l),some (.ref lb),v3,v4,some (.ref tb),some (.ref lo),some (.ref x),some (.ref fo),some (.int dy),some (.ref lr),some (.ref on)]∧H'=H11∧e∈L∧H11 on=some (.tup [.str e.1,.str e.2])) (fun R hR=>?_) ?_
   · obtain⟨j,hj⟩:∃ j:Nat,atL ns 17 % (rs.length:Int)=(j:Int):=Int.eq_ofNat_of_zero_le (Int.emod_nonneg _ (by omega))
     have hjl:j < rs.length:=by have:=Int.emod_lt_of_pos (atL ns 17) (show(0:Int) < (rs.length:Int) by omega);omega
     obtain⟨p,hp⟩:∃ p,rs[j]?=some p:=⟨_,List.getElem?_eq_getElem hjl⟩
     obtain⟨e,he⟩:∃ e,L[j]?=some e:=⟨_,List.getElem?_eq_getElem (by omega)⟩
     walk_at "dm"
     refine⟨_,SqT.of h1',_,rfl,cO ha11 (by decide) ⟨_,SqT.of h1',_,rfl,lp,rfl,_,.inl (SqL.of h2'),_,rfl,by rw[List.length_map];omega,lp,rfl,_,SqL.of h2',V.ref p,?_,hR _ _ ⟨p,e,rfl,rfl,List.mem_of_getElem? he,h3'.2 j p _ hp (by rw[List.getElem?_map,he];rfl)⟩⟩⟩
     rw[List.length_map,hj]
     exact eS (by rw[List.getElem?_map,hp];rfl)
   rintro σ12 H12 ⟨on,e,rfl,rfl,heL,hon⟩
   walk_at "dm"
   exact⟨_,SqT.of h1',_,rfl,cO ha11 (by decide) ⟨_,rfl,by decide,x,lp,on,lr,sb,bb,rs,L,e.1,e.2,row,dy,_,rfl,Fz.book F911 hbk4,Bb,h2',h3',hon,heL,St,hlr,h40,fun n hn=>(hnb n).mpr (hrow n hn),hdy1,hdy2,by omega,by omega,q⟩⟩
end

end DM
set_option Elab.async false
set_option linter.all false
set_option maxRecDepth 100000
set_option maxHeartbeats 8000000
namespace DM
open PySem L2
theorem all_mk {l:PySem.W.OpenLaw}{w:World}{K:PySem.W.Frag}{h:Heap}{mg:Str→Option Value}{fa:Addr}(X:K.In h)(G:h.Ns mainGlobals mg)(hfa:mg "law"=some (.ref fa))
   {CB:Addr}
   {fI:Addr}{odI anI:Option Addr}{slI:Array (Option Value)}{ocI kVI dcI pmI cdI ctI:Value}
   {fMS:Addr}{odMS anMS:Option Addr}{slMS:Array (Option Value)}{ocMS kVMS dcMS pmMS cdMS ctMS:Value}
   {fMB:Addr}{odMB anMB:Option Addr}{slMB:Array (Option Value)}{ocMB kVMB dcMB pmMB cdMB ctMB:Value}
   {fMT:Addr}{odMT anMT:Option Addr}{slMT:Array (Option Value)}{ocMT kVMT dcMT pmMT cdMT ctMT:Value}
   {fMC:Addr}{odMC anMC:Option Addr}{slMC:Array (Option Value)}{ocMC kVMC dcMC pmMC cdMC ctMC:Value}
   {fMH:Addr}{odMH anMH:Option Addr}{slMH:Array (Option Value)}{ocMH kVMH dcMH pmMH cdMH ctMH:Value}
   {fMO:Addr}{odMO anMO:Option Addr}{slMO:Array (Option Value)}{ocMO kVMO dcMO pmMO cdMO ctMO:Value}
   {CH:Addr}
   {fHI:Addr}{odHI anHI:Option Addr}{slHI:Array (Option Value)}{ocHI kVHI dcHI pmHI cdHI ctHI:Value}
   {fHR:Addr}{odHR anHR:Option Addr}{slHR:Array (Option Value)}{ocHR kVHR dcHR pmHR cdHR ctHR:Value}
   {fHQ:Addr}{odHQ anHQ:Option Addr}{slHQ:Array (Option Value)}{ocHQ kVHQ dcHQ pmHQ cdHQ ctHQ:Value}
   {fHB:Addr}{odHB anHB:Option Addr}{slHB:Array (Option Value)}{ocHB kVHB dcHB pmHB cdHB ctHB:Value}
   {fHS:Addr}{odHS anHS:Option Addr}{slHS:Array (Option Value)}{ocHS kVHS dcHS pmHS cdHS ctHS:Value}
   {fHT:Addr}{odHT anHT:Option Addr}{slHT:Array (Option Value)}{ocHT kVHT dcHT pmHT cdHT ctHT:Value}
   {fHN:Addr}{odHN anHN:Option Addr}{slHN:Array (Option Value)}{ocHN kVHN dcHN pmHN cdHN ctHN:Value}
   {fHC:Addr}{odHC anHC:Option Addr}{slHC:Array (Option Value)}{ocHC kVHC dcHC pmHC cdHC ctHC:Value}
   {fHD:Addr}{odHD anHD:Option Addr}{slHD:Array (Option Value)}{ocHD kVHD dcHD pmHD cdHD ctHD:Value}
   {fGd:Addr}{odGd anGd:Option Addr}{slGd:Array (Option Value)}{ocGd kVGd dcGd pmGd cdGd ctGd:Value}
   {fCn:Addr}{odCn anCn:Option Addr}{slCn:Array (Option Value)}{ocCn kVCn dcCn pmCn cdCn ctCn:Value}
   {fCs:Addr}{odCs anCs:Option Addr}{slCs:Array (Option Value)}{ocCs kVCs dcCs pmCs cdCs ctCs:Value}
   {fCo:Addr}{odCo anCo:Option Addr}{slCo:Array (Option Value)}{ocCo kVCo dcCo pmCo cdCo ctCo:Value}
   {fCb:Addr}{odCb anCb:Option Addr}{slCb:Array (Option Value)}{ocCb kVCb dcCb pmCb cdCb ctCb:Value}
   {fCD:Addr}{odCD anCD:Option Addr}{slCD:Array (Option Value)}{ocCD kVCD dcCD pmCD cdCD ctCD:Value}
   {fA:Addr}{odA anA:Option Addr}{slA:Array (Option Value)}{ocA kVA dcA pmA cdA ctA:Value}
   {fD:Addr}{odD anD:Option Addr}{slD:Array (Option Value)}{ocD kVD dcD pmD cdD ctD:Value}
   {fN:Addr}{odN anN:Option Addr}{slN:Array (Option Value)}{ocN kVN dcN pmN cdN ctN:Value}
   {fNs:Addr}{odNs anNs:Option Addr}{slNs:Array (Option Value)}{ocNs kVNs dcNs pmNs cdNs ctNs:Value}
   {fTu:Addr}{odTu anTu:Option Addr}{slTu:Array (Option Value)}{ocTu kVTu dcTu pmTu cdTu ctTu:Value}
   {fOu:Addr}{odOu anOu:Option Addr}{slOu:Array (Option Value)}{ocOu kVOu dcOu pmOu cdOu ctOu:Value}
   {fSh:Addr}{odSh anSh:Option Addr}{slSh:Array (Option Value)}{ocSh kVSh dcSh pmSh cdSh ctSh:Value}
   {fNd:Addr}{odNd anNd:Option Addr}{slNd:Array (Option Value)}{ocNd kVNd dcNd pmNd cdNd ctNd:Value}
   {fSz:Addr}{odSz anSz:Option Addr}{slSz:Array (Option Value)}{ocSz kVSz dcSz pmSz cdSz ctSz:Value}
   {fDn:Addr}{odDn anDn:Option Addr}{slDn:Array (Option Value)}{ocDn kVDn dcDn pmDn cdDn ctDn:Value}
   {fTa:Addr}{odTa anTa:Option Addr}{slTa:Array (Option Value)}{ocTa kVTa dcTa pmTa cdTa ctTa:Value}
   {fHd:Addr}{odHd anHd:Option Addr}{slHd:Array (Option Value)}{ocHd kVHd dcHd pmHd cdHd ctHd:Value}
   {fTI:Addr}{odTI anTI:Option Addr}{slTI:Array (Option Value)}{ocTI kVTI dcTI pmTI cdTI ctTI:Value}
   {fRw:Addr}{odRw anRw:Option Addr}{slRw:Array (Option Value)}{ocRw kVRw dcRw pmRw cdRw ctRw:Value}
   {fAE:Addr}{odAE anAE:Option Addr}{slAE:Array (Option Value)}{ocAE kVAE dcAE pmAE cdAE ctAE:Value}
   {fWR:Addr}{odWR anWR:Option Addr}{slWR:Array (Option Value)}{ocWR kVWR dcWR pmWR cdWR ctWR:Value}
   {fWB:Addr}{odWB anWB:Option Addr}{slWB:Array (Option Value)}{ocWB kVWB dcWB pmWB cdWB ctWB:Value}
   {fBO:Addr}{odBO anBO:Option Addr}{slBO:Array (Option Value)}{ocBO kVBO dcBO pmBO cdBO ctBO:Value}
   {fLO:Addr}{odLO anLO:Option Addr}{slLO:Array (Option Value)}{ocLO kVLO dcLO pmLO cdLO ctLO:Value}
   {fRB:Addr}{odRB anRB:Option Addr}{slRB:Array (Option Value)}{ocRB kVRB dcRB pmRB cdRB ctRB:Value}
   {fTx:Addr}{odTx anTx:Option Addr}{slTx:Array (Option Value)}{ocTx kVTx dcTx pmTx cdTx ctTx:Value}
   {fWa:Addr}{odWa anWa:Option Addr}{slWa:Array (Option Value)}{ocWa kVWa dcWa pmWa cdWa ctWa:Value}
   {fAP:Addr}{odAP anAP:Option Addr}{slAP:Array (Option Value)}{ocAP kVAP dcAP pmAP cdAP ctAP:Value}
   {fJR:Addr}{odJR anJR:Option Addr}{slJR:Array (Option Value)}{ocJR kVJR dcJR pmJR cdJR ctJR:Value}
   {fJS:Addr}{odJS anJS:Option Addr}{slJS:Array (Option Value)}{ocJS kVJS dcJS pmJS cdJS ctJS:Value}
   {fJD:Addr}{odJD anJD:Option Addr}{slJD:Array (Option Value)}{ocJD kVJD dcJD pmJD cdJD ctJD:Value}
   {fA1:Addr}{odA1 anA1:Option Addr}{slA1:Array (Option Value)}{ocA1 kVA1 dcA1 pmA1 cdA1 ctA1:Value}
   {fPr:Addr}{odPr anPr:Option Addr}{slPr:Array (Option Value)}{ocPr kVPr dcPr pmPr cdPr ctPr:Value}
   {fLo:Addr}{odLo anLo:Option Addr}{slLo:Array (Option Value)}{ocLo kVLo dcLo pmLo cdLo ctLo:Value}
   {fT1:Addr}{odT1 anT1:Option Addr}{slT1:Array (Option Value)}{ocT1 kVT1 dcT1 pmT1 cdT1 ctT1:Value}
   {fSk:Addr}{odSk anSk:Option Addr}{slSk:Array (Option Value)}{ocSk kVSk dcSk pmSk cdSk ctSk:Value}
   {fLD:Addr}{odLD anLD:Option Addr}{slLD:Array (Option Value)}{ocLD kVLD dcLD pmLD cdLD ctLD:Value}
   {fLP:Addr}{odLP anLP:Option Addr}{slLP:Array (Option Value)}{ocLP kVLP dcLP pmLP cdLP ctLP:Value}
   {fL:Addr}{odL anL:Option Addr}{slL:Array (Option Value)}{ocL kVL dcL pmL cdL ctL:Value}
   {xNoDay:Addr}
   {cdNoDay:ClassData}
   {xLate:Addr}
   {cdLate:ClassData}
   {xNoCloth:Addr}
   {cdNoCloth:ClassData}
   {xKnown:Addr}
   {cdKnown:ClassData}
   {xBadName:Addr}
   {cdBadName:ClassData}
   {xFull:Addr}
   {cdFull:ClassData}
   {xNoBath:Addr}
   {cdNoBath:ClassData}
   {xNoShade:Addr}
   {cdNoShade:ClassData}
   {tlett:Tok}
   {tlong:Tok}
   {tmostS:Tok}
   {tmostB:Tok}
   {tfday:Tok}
   {tlday:Tok}
   {tmostC:Tok}
   {tmostD:Tok}
   (aCB:PySem.W.nsIn K mainGlobals "Book"=some (some (.ref CB)))
   (aI:PySem.W.findIn K (.ref CB) "__init__"=some (some (.ref fI)))
   (iI:PySem.W.isFn K (.ref fI)=true)
   (lI:K.lookup fI=some ⟨ocI,odI,.func (PySem.W.fnOf "__init__" "Book.__init__" (av jT) (ap jT) (ae jT) .none kVI dcI pmI anI cdI ctI),slI⟩)
   (cI:PySem.W.codeIn K cdI "Book.__init__"=true)
   (kI:PySem.W.keepIn K (.ref fI)=true)
   (aMS:PySem.W.findIn K (.ref CB) "shades"=some (some (.ref fMS)))
   (iMS:PySem.W.isFn K (.ref fMS)=true)
   (lMS:K.lookup fMS=some ⟨ocMS,odMS,.func (PySem.W.fnOf "shades" "Book.shades" (av fe) (ap fe) (ae fe) .none kVMS dcMS pmMS anMS cdMS ctMS),slMS⟩)
   (cMS:PySem.W.codeIn K cdMS "Book.shades"=true)
   (kMS:PySem.W.keepIn K (.ref fMS)=true)
   (aMB:PySem.W.findIn K (.ref CB) "baths"=some (some (.ref fMB)))
   (iMB:PySem.W.isFn K (.ref fMB)=true)
   (lMB:K.lookup fMB=some ⟨ocMB,odMB,.func (PySem.W.fnOf "baths" "Book.baths" (av gF) (ap gF) (ae gF) .none kVMB dcMB pmMB anMB cdMB ctMB),slMB⟩)
   (cMB:PySem.W.codeIn K cdMB "Book.baths"=true)
   (kMB:PySem.W.keepIn K (.ref fMB)=true)
   (aMT:PySem.W.findIn K (.ref CB) "table"=some (some (.ref fMT)))
   (iMT:PySem.W.isFn K (.ref fMT)=true)
   (lMT:K.lookup fMT=some ⟨ocMT,odMT,.func (PySem.W.fnOf "table" "Book.table" (av fj) (ap fj) (ae fj) .none kVMT dcMT pmMT anMT cdMT ctMT),slMT⟩)
   (cMT:PySem.W.codeIn K cdMT "Book.table"=true)
   (kMT:PySem.W.keepIn K (.ref fMT)=true)
   (aMC:PySem.W.findIn K (.ref CB) "check_bath"=some (some (.ref fMC)))
   (iMC:PySem.W.isFn K (.ref fMC)=true)
   (lMC:K.lookup fMC=some ⟨ocMC,odMC,.func (PySem.W.fnOf "check_bath" "Book.check_bath" (av d8) (ap d8) (ae d8) .none kVMC dcMC pmMC anMC cdMC ctMC),slMC⟩)
   (cMC:PySem.W.codeIn K cdMC "Book.check_bath"=true)
   (kMC:PySem.W.keepIn K (.ref fMC)=true)
   (aMH:PySem.W.findIn K (.ref CB) "check_shade"=some (some (.ref fMH)))
   (iMH:PySem.W.isFn K (.ref fMH)=true)
   (lMH:K.lookup fMH=some ⟨ocMH,odMH,.func (PySem.W.fnOf "check_shade" "Book.check_shade" (av eC) (ap eC) (ae eC) .none kVMH dcMH pmMH anMH cdMH ctMH),slMH⟩)
   (cMH:PySem.W.codeIn K cdMH "Book.check_shade"=true)
   (kMH:PySem.W.keepIn K (.ref fMH)=true)
   (aMO:PySem.W.findIn K (.ref CB) "out"=some (some (.ref fMO)))
   (iMO:PySem.W.isFn K (.ref fMO)=true)
   (lMO:K.lookup fMO=some ⟨ocMO,odMO,.func (PySem.W.fnOf "out" "Book.out" (av kH) (ap kH) (ae kH) .none kVMO dcMO pmMO anMO cdMO ctMO),slMO⟩)
   (cMO:PySem.W.codeIn K cdMO "Book.out"=true)
   (kMO:PySem.W.keepIn K (.ref fMO)=true)
   (pgB:PySem.W.plainGet K CB Str.empty=true)
   (hdB:PySem.W.hasDictIn K CB=true)
   (poB:PySem.W.plainOver K CB=true)
   (saB:PySem.W.findIn K (.ref CB) "__setattr__"=some (some (.builtin "object.__setattr__")))
   (mkB:PySem.W.makesIn K CB=true)
   (kcB:PySem.W.keepIn K (.ref CB)=true)
   (naB_order:PySem.W.findIn K (.ref CB) "order"=some none)
   (naB_tables:PySem.W.findIn K (.ref CB) "tables"=some none)
   (aCH:PySem.W.nsIn K mainGlobals "House"=some (some (.ref CH)))
   (aHI:PySem.W.findIn K (.ref CH) "__init__"=some (some (.ref fHI)))
   (iHI:PySem.W.isFn K (.ref fHI)=true)
   (lHI:K.lookup fHI=some ⟨ocHI,odHI,.func (PySem.W.fnOf "__init__" "House.__init__" (av i6) (ap i6) (ae i6) .none kVHI dcHI pmHI anHI cdHI ctHI),slHI⟩)
   (cHI:PySem.W.codeIn K cdHI "House.__init__"=true)
   (kHI:PySem.W.keepIn K (.ref fHI)=true)
   (aHR:PySem.W.findIn K (.ref CH) "bring"=some (some (.ref fHR)))
   (iHR:PySem.W.isFn K (.ref fHR)=true)
   (lHR:K.lookup fHR=some ⟨ocHR,odHR,.func (PySem.W.fnOf "bring" "House.bring" (av fu) (ap fu) (ae fu) .none kVHR dcHR pmHR anHR cdHR ctHR),slHR⟩)
   (cHR:PySem.W.codeIn K cdHR "House.bring"=true)
   (kHR:PySem.W.keepIn K (.ref fHR)=true)
   (aHQ:PySem.W.findIn K (.ref CH) "dip"=some (some (.ref fHQ)))
   (iHQ:PySem.W.isFn K (.ref fHQ)=true)
   (lHQ:K.lookup fHQ=some ⟨ocHQ,odHQ,.func (PySem.W.fnOf "dip" "House.dip" (av mo) (ap mo) (ae mo) .none kVHQ dcHQ pmHQ anHQ cdHQ ctHQ),slHQ⟩)
   (cHQ:PySem.W.codeIn K cdHQ "House.dip"=true)
   (kHQ:PySem.W.keepIn K (.ref fHQ)=true)
   (aHB:PySem.W.findIn K (.ref CH) "book"=some (some (.ref fHB)))
   (iHB:PySem.W.isFn K (.ref fHB)=true)
   (lHB:K.lookup fHB=some ⟨ocHB,odHB,.func (PySem.W.fnOf "book" "House.book" (av hU) (ap hU) (ae hU) .none kVHB dcHB pmHB anHB cdHB ctHB),slHB⟩)
   (cHB:PySem.W.codeIn K cdHB "House.book"=true)
   (kHB:PySem.W.keepIn K (.ref fHB)=true)
   (aHS:PySem.W.findIn K (.ref CH) "shade"=some (some (.ref fHS)))
   (iHS:PySem.W.isFn K (.ref fHS)=true)
   (lHS:K.lookup fHS=some ⟨ocHS,odHS,.func (PySem.W.fnOf "shade" "House.shade" (av fw) (ap fw) (ae fw) .none kVHS dcHS pmHS anHS cdHS ctHS),slHS⟩)
   (cHS:PySem.W.codeIn K cdHS "House.shade"=true)
   (kHS:PySem.W.keepIn K (.ref fHS)=true)
   (aHT:PySem.W.findIn K (.ref CH) "trail"=some (some (.ref fHT)))
   (iHT:PySem.W.isFn K (.ref fHT)=true)
   (lHT:K.lookup fHT=some ⟨ocHT,odHT,.func (PySem.W.fnOf "trail" "House.trail" (av gB) (ap gB) (ae gB) .none kVHT dcHT pmHT anHT cdHT ctHT),slHT⟩)
   (cHT:PySem.W.codeIn K cdHT "House.trail"=true)
   (kHT:PySem.W.keepIn K (.ref fHT)=true)
   (aHN:PySem.W.findIn K (.ref CH) "newest_book"=some (some (.ref fHN)))
   (iHN:PySem.W.isFn K (.ref fHN)=true)
   (lHN:K.lookup fHN=some ⟨ocHN,odHN,.func (PySem.W.fnOf "newest_book" "House.newest_book" (av fb) (ap fb) (ae fb) .none kVHN dcHN pmHN anHN cdHN ctHN),slHN⟩)
   (cHN:PySem.W.codeIn K cdHN "House.newest_book"=true)
   (kHN:PySem.W.keepIn K (.ref fHN)=true)
   (aHC:PySem.W.findIn K (.ref CH) "check_cloth"=some (some (.ref fHC)))
   (iHC:PySem.W.isFn K (.ref fHC)=true)
   (lHC:K.lookup fHC=some ⟨ocHC,odHC,.func (PySem.W.fnOf "check_cloth" "House.check_cloth" (av ez) (ap ez) (ae ez) .none kVHC dcHC pmHC anHC cdHC ctHC),slHC⟩)
   (cHC:PySem.W.codeIn K cdHC "House.check_cloth"=true)
   (kHC:PySem.W.keepIn K (.ref fHC)=true)
   (aHD:PySem.W.findIn K (.ref CH) "check_day_to_do"=some (some (.ref fHD)))
   (iHD:PySem.W.isFn K (.ref fHD)=true)
   (lHD:K.lookup fHD=some ⟨ocHD,odHD,.func (PySem.W.fnOf "check_day_to_do" "House.check_day_to_do" (av je) (ap je) (ae je) .none kVHD dcHD pmHD anHD cdHD ctHD),slHD⟩)
   (cHD:PySem.W.codeIn K cdHD "House.check_day_to_do"=true)
   (kHD:PySem.W.keepIn K (.ref fHD)=true)
   (pgH:PySem.W.plainGet K CH Str.empty=true)
   (hdH:PySem.W.hasDictIn K CH=true)
   (poH:PySem.W.plainOver K CH=true)
   (saH:PySem.W.findIn K (.ref CH) "__setattr__"=some (some (.builtin "object.__setattr__")))
   (mkH:PySem.W.makesIn K CH=true)
   (kcH:PySem.W.keepIn K (.ref CH)=true)
   (naH_first_shades:PySem.W.findIn K (.ref CH) "first_shades"=some none)
   (naH_day_now:PySem.W.findIn K (.ref CH) "day_now"=some none)
   (naH_standing:PySem.W.findIn K (.ref CH) "standing"=some none)
   (naH_books_from:PySem.W.findIn K (.ref CH) "books_from"=some none)
   (aGd:PySem.W.nsIn K mainGlobals "good_name"=some (some (.ref fGd)))
   (lGd:K.lookup fGd=some ⟨ocGd,odGd,.func (PySem.W.fnOf "good_name" "good_name" (av lW) (ap lW) (ae lW) .none kVGd dcGd pmGd anGd cdGd ctGd),slGd⟩)
   (cGd:PySem.W.codeIn K cdGd "good_name"=true)
   (kGd:PySem.W.keepIn K (.ref fGd)=true)
   (aCn:PySem.W.nsIn K mainGlobals "check_names"=some (some (.ref fCn)))
   (lCn:K.lookup fCn=some ⟨ocCn,odCn,.func (PySem.W.fnOf "check_names" "check_names" (av gE) (ap gE) (ae gE) .none kVCn dcCn pmCn anCn cdCn ctCn),slCn⟩)
   (cCn:PySem.W.codeIn K cdCn "check_names"=true)
   (kCn:PySem.W.keepIn K (.ref fCn)=true)
   (aCs:PySem.W.nsIn K mainGlobals "check_shades"=some (some (.ref fCs)))
   (lCs:K.lookup fCs=some ⟨ocCs,odCs,.func (PySem.W.fnOf "check_shades" "check_shades" (av e8) (ap e8) (ae e8) .none kVCs dcCs pmCs anCs cdCs ctCs),slCs⟩)
   (cCs:PySem.W.codeIn K cdCs "check_shades"=true)
   (kCs:PySem.W.keepIn K (.ref fCs)=true)
   (aCo:PySem.W.nsIn K mainGlobals "check_outs"=some (some (.ref fCo)))
   (lCo:K.lookup fCo=some ⟨ocCo,odCo,.func (PySem.W.fnOf "check_outs" "check_outs" (av i9) (ap i9) (ae i9) .none kVCo dcCo pmCo anCo cdCo ctCo),slCo⟩)
   (cCo:PySem.W.codeIn K cdCo "check_outs"=true)
   (kCo:PySem.W.keepIn K (.ref fCo)=true)
   (aCb:PySem.W.nsIn K mainGlobals "check_baths"=some (some (.ref fCb)))
   (lCb:K.lookup fCb=some ⟨ocCb,odCb,.func (PySem.W.fnOf "check_baths" "check_baths" (av gj) (ap gj) (ae gj) .none kVCb dcCb pmCb anCb cdCb ctCb),slCb⟩)
   (cCb:PySem.W.codeIn K cdCb "check_baths"=true)
   (kCb:PySem.W.keepIn K (.ref fCb)=true)
   (aCD:PySem.W.nsIn K mainGlobals "check_day"=some (some (.ref fCD)))
   (lCD:K.lookup fCD=some ⟨ocCD,odCD,.func (PySem.W.fnOf "check_day" "check_day" (av lX) (ap lX) (ae lX) .none kVCD dcCD pmCD anCD cdCD ctCD),slCD⟩)
   (cCD:PySem.W.codeIn K cdCD "check_day"=true)
   (kCD:PySem.W.keepIn K (.ref fCD)=true)
   (aA:PySem.W.nsIn K mainGlobals "_law_at"=some (some (.ref fA)))
   (lA:K.lookup fA=some ⟨ocA,odA,.func (PySem.W.fnOf "_law_at" "_law_at" (av sAt) (ap sAt) (ae sAt) .none kVA dcA pmA anA cdA ctA),slA⟩)
   (cA:PySem.W.codeIn K cdA "_law_at"=true)
   (kA:PySem.W.keepIn K (.ref fA)=true)
   (aD:PySem.W.nsIn K mainGlobals "_law_draws"=some (some (.ref fD)))
   (lD:K.lookup fD=some ⟨ocD,odD,.func (PySem.W.fnOf "_law_draws" "_law_draws" (av jc) (ap jc) (ae jc) .none kVD dcD pmD anD cdD ctD),slD⟩)
   (cD:PySem.W.codeIn K cdD "_law_draws"=true)
   (kD:PySem.W.keepIn K (.ref fD)=true)
   (aN:PySem.W.nsIn K mainGlobals "_law_name"=some (some (.ref fN)))
   (lN:K.lookup fN=some ⟨ocN,odN,.func (PySem.W.fnOf "_law_name" "_law_name" (av mr) (ap mr) (ae mr) .none kVN dcN pmN anN cdN ctN),slN⟩)
   (cN:PySem.W.codeIn K cdN "_law_name"=true)
   (kN:PySem.W.keepIn K (.ref fN)=true)
   (aNs:PySem.W.nsIn K mainGlobals "_law_names"=some (some (.ref fNs)))
   (lNs:K.lookup fNs=some ⟨ocNs,odNs,.func (PySem.W.fnOf "_law_names" "_law_names" (av iG) (ap iG) (ae iG) .none kVNs dcNs pmNs anNs cdNs ctNs),slNs⟩)
   (cNs:PySem.W.codeIn K cdNs "_law_names"=true)
   (kNs:PySem.W.keepIn K (.ref fNs)=true)
   (aTu:PySem.W.nsIn K mainGlobals "_law_turned"=some (some (.ref fTu)))
   (lTu:K.lookup fTu=some ⟨ocTu,odTu,.func (PySem.W.fnOf "_law_turned" "_law_turned" (av gC) (ap gC) (ae gC) .none kVTu dcTu pmTu anTu cdTu ctTu),slTu⟩)
   (cTu:PySem.W.codeIn K cdTu "_law_turned"=true)
   (kTu:PySem.W.keepIn K (.ref fTu)=true)
   (aOu:PySem.W.nsIn K mainGlobals "_law_outs"=some (some (.ref fOu)))
   (lOu:K.lookup fOu=some ⟨ocOu,odOu,.func (PySem.W.fnOf "_law_outs" "_law_outs" (av mh) (ap mh) (ae mh) .none kVOu dcOu pmOu anOu cdOu ctOu),slOu⟩)
   (cOu:PySem.W.codeIn K cdOu "_law_outs"=true)
   (kOu:PySem.W.keepIn K (.ref fOu)=true)
   (aSh:PySem.W.nsIn K mainGlobals "_law_shape"=some (some (.ref fSh)))
   (lSh:K.lookup fSh=some ⟨ocSh,odSh,.func (PySem.W.fnOf "_law_shape" "_law_shape" (av i0) (ap i0) (ae i0) .none kVSh dcSh pmSh anSh cdSh ctSh),slSh⟩)
   (cSh:PySem.W.codeIn K cdSh "_law_shape"=true)
   (kSh:PySem.W.keepIn K (.ref fSh)=true)
   (aNd:PySem.W.nsIn K mainGlobals "_law_named"=some (some (.ref fNd)))
   (lNd:K.lookup fNd=some ⟨ocNd,odNd,.func (PySem.W.fnOf "_law_named" "_law_named" (av iJ) (ap iJ) (ae iJ) .none kVNd dcNd pmNd anNd cdNd ctNd),slNd⟩)
   (cNd:PySem.W.codeIn K cdNd "_law_named"=true)
   (kNd:PySem.W.keepIn K (.ref fNd)=true)
   (aSz:PySem.W.nsIn K mainGlobals "_law_sized"=some (some (.ref fSz)))
   (lSz:K.lookup fSz=some ⟨ocSz,odSz,.func (PySem.W.fnOf "_law_sized" "_law_sized" (av i5) (ap i5) (ae i5) .none kVSz dcSz pmSz anSz cdSz ctSz),slSz⟩)
   (cSz:PySem.W.codeIn K cdSz "_law_sized"=true)
   (kSz:PySem.W.keepIn K (.ref fSz)=true)
   (aDn:PySem.W.nsIn K mainGlobals "_law_drawn"=some (some (.ref fDn)))
   (lDn:K.lookup fDn=some ⟨ocDn,odDn,.func (PySem.W.fnOf "_law_drawn" "_law_drawn" (av jg) (ap jg) (ae jg) .none kVDn dcDn pmDn anDn cdDn ctDn),slDn⟩)
   (cDn:PySem.W.codeIn K cdDn "_law_drawn"=true)
   (kDn:PySem.W.keepIn K (.ref fDn)=true)
   (aTa:PySem.W.nsIn K mainGlobals "_law_tables"=some (some (.ref fTa)))
   (lTa:K.lookup fTa=some ⟨ocTa,odTa,.func (PySem.W.fnOf "_law_tables" "_law_tables" (av fP) (ap fP) (ae fP) .none kVTa dcTa pmTa anTa cdTa ctTa),slTa⟩)
   (cTa:PySem.W.codeIn K cdTa "_law_tables"=true)
   (kTa:PySem.W.keepIn K (.ref fTa)=true)
   (aHd:PySem.W.nsIn K mainGlobals "_law_handed"=some (some (.ref fHd)))
   (lHd:K.lookup fHd=some ⟨ocHd,odHd,.func (PySem.W.fnOf "_law_handed" "_law_handed" (av gH) (ap gH) (ae gH) .none kVHd dcHd pmHd anHd cdHd ctHd),slHd⟩)
   (cHd:PySem.W.codeIn K cdHd "_law_handed"=true)
   (kHd:PySem.W.keepIn K (.ref fHd)=true)
   (aTI:PySem.W.nsIn K mainGlobals "_law_text_is"=some (some (.ref fTI)))
   (lTI:K.lookup fTI=some ⟨ocTI,odTI,.func (PySem.W.fnOf "_law_text_is" "_law_text_is" (av gn) (ap gn) (ae gn) .none kVTI dcTI pmTI anTI cdTI ctTI),slTI⟩)
   (cTI:PySem.W.codeIn K cdTI "_law_text_is"=true)
   (kTI:PySem.W.keepIn K (.ref fTI)=true)
   (aRw:PySem.W.nsIn K mainGlobals "_law_row"=some (some (.ref fRw)))
   (lRw:K.lookup fRw=some ⟨ocRw,odRw,.func (PySem.W.fnOf "_law_row" "_law_row" (av sC) (ap sC) (ae sC) .none kVRw dcRw pmRw anRw cdRw ctRw),slRw⟩)
   (cRw:PySem.W.codeIn K cdRw "_law_row"=true)
   (kRw:PySem.W.keepIn K (.ref fRw)=true)
   (aAE:PySem.W.nsIn K mainGlobals "_law_at_end"=some (some (.ref fAE)))
   (lAE:K.lookup fAE=some ⟨ocAE,odAE,.func (PySem.W.fnOf "_law_at_end" "_law_at_end" (av g6) (ap g6) (ae g6) .none kVAE dcAE pmAE anAE cdAE ctAE),slAE⟩)
   (cAE:PySem.W.codeIn K cdAE "_law_at_end"=true)
   (kAE:PySem.W.keepIn K (.ref fAE)=true)
   (aWR:PySem.W.nsIn K mainGlobals "write_row"=some (some (.ref fWR)))
   (lWR:K.lookup fWR=some ⟨ocWR,odWR,.func (PySem.W.fnOf "write_row" "write_row" (av lS) (ap lS) (ae lS) .none kVWR dcWR pmWR anWR cdWR ctWR),slWR⟩)
   (cWR:PySem.W.codeIn K cdWR "write_row"=true)
   (kWR:PySem.W.keepIn K (.ref fWR)=true)
   (aWB:PySem.W.nsIn K mainGlobals "write_book"=some (some (.ref fWB)))
   (lWB:K.lookup fWB=some ⟨ocWB,odWB,.func (PySem.W.fnOf "write_book" "write_book" (av iR) (ap iR) (ae iR) .none kVWB dcWB pmWB anWB cdWB ctWB),slWB⟩)
   (cWB:PySem.W.codeIn K cdWB "write_book"=true)
   (kWB:PySem.W.keepIn K (.ref fWB)=true)
   (aBO:PySem.W.nsIn K mainGlobals "bath_of"=some (some (.ref fBO)))
   (lBO:K.lookup fBO=some ⟨ocBO,odBO,.func (PySem.W.fnOf "bath_of" "bath_of" (av gq) (ap gq) (ae gq) .none kVBO dcBO pmBO anBO cdBO ctBO),slBO⟩)
   (cBO:PySem.W.codeIn K cdBO "bath_of"=true)
   (kBO:PySem.W.keepIn K (.ref fBO)=true)
   (aLO:PySem.W.nsIn K mainGlobals "loosely_read"=some (some (.ref fLO)))
   (lLO:K.lookup fLO=some ⟨ocLO,odLO,.func (PySem.W.fnOf "loosely_read" "loosely_read" (av iT) (ap iT) (ae iT) .none kVLO dcLO pmLO anLO cdLO ctLO),slLO⟩)
   (cLO:PySem.W.codeIn K cdLO "loosely_read"=true)
   (kLO:PySem.W.keepIn K (.ref fLO)=true)
   (aRB:PySem.W.nsIn K mainGlobals "read_book"=some (some (.ref fRB)))
   (lRB:K.lookup fRB=some ⟨ocRB,odRB,.func (PySem.W.fnOf "read_book" "read_book" (av mz) (ap mz) (ae mz) .none kVRB dcRB pmRB anRB cdRB ctRB),slRB⟩)
   (cRB:PySem.W.codeIn K cdRB "read_book"=true)
   (kRB:PySem.W.keepIn K (.ref fRB)=true)
   (aTx:PySem.W.nsIn K mainGlobals "_law_text"=some (some (.ref fTx)))
   (lTx:K.lookup fTx=some ⟨ocTx,odTx,.func (PySem.W.fnOf "_law_text" "_law_text" (av kf) (ap kf) (ae kf) .none kVTx dcTx pmTx anTx cdTx ctTx),slTx⟩)
   (cTx:PySem.W.codeIn K cdTx "_law_text"=true)
   (kTx:PySem.W.keepIn K (.ref fTx)=true)
   (aWa:PySem.W.nsIn K mainGlobals "walk"=some (some (.ref fWa)))
   (lWa:K.lookup fWa=some ⟨ocWa,odWa,.func (PySem.W.fnOf "walk" "walk" (av mf) (ap mf) (ae mf) .none kVWa dcWa pmWa anWa cdWa ctWa),slWa⟩)
   (cWa:PySem.W.codeIn K cdWa "walk"=true)
   (kWa:PySem.W.keepIn K (.ref fWa)=true)
   (aAP:PySem.W.nsIn K mainGlobals "all_pairs"=some (some (.ref fAP)))
   (lAP:K.lookup fAP=some ⟨ocAP,odAP,.func (PySem.W.fnOf "all_pairs" "all_pairs" (av d9) (ap d9) (ae d9) .none kVAP dcAP pmAP anAP cdAP ctAP),slAP⟩)
   (cAP:PySem.W.codeIn K cdAP "all_pairs"=true)
   (kAP:PySem.W.keepIn K (.ref fAP)=true)
   (aJR:PySem.W.nsIn K mainGlobals "joining_row"=some (some (.ref fJR)))
   (lJR:K.lookup fJR=some ⟨ocJR,odJR,.func (PySem.W.fnOf "joining_row" "joining_row" (av jS) (ap jS) (ae jS) .none kVJR dcJR pmJR anJR cdJR ctJR),slJR⟩)
   (cJR:PySem.W.codeIn K cdJR "joining_row"=true)
   (kJR:PySem.W.keepIn K (.ref fJR)=true)
   (aJS:PySem.W.nsIn K mainGlobals "joining_rows"=some (some (.ref fJS)))
   (lJS:K.lookup fJS=some ⟨ocJS,odJS,.func (PySem.W.fnOf "joining_rows" "joining_rows" (av ia) (ap ia) (ae ia) .none kVJS dcJS pmJS anJS cdJS ctJS),slJS⟩)
   (cJS:PySem.W.codeIn K cdJS "joining_rows"=true)
   (kJS:PySem.W.keepIn K (.ref fJS)=true)
   (aJD:PySem.W.nsIn K mainGlobals "joined"=some (some (.ref fJD)))
   (lJD:K.lookup fJD=some ⟨ocJD,odJD,.func (PySem.W.fnOf "joined" "joined" (av fU) (ap fU) (ae fU) .none kVJD dcJD pmJD anJD cdJD ctJD),slJD⟩)
   (cJD:PySem.W.codeIn K cdJD "joined"=true)
   (kJD:PySem.W.keepIn K (.ref fJD)=true)
   (aA1:PySem.W.nsIn K mainGlobals "all_to_one"=some (some (.ref fA1)))
   (lA1:K.lookup fA1=some ⟨ocA1,odA1,.func (PySem.W.fnOf "all_to_one" "all_to_one" (av dr) (ap dr) (ae dr) .none kVA1 dcA1 pmA1 anA1 cdA1 ctA1),slA1⟩)
   (cA1:PySem.W.codeIn K cdA1 "all_to_one"=true)
   (kA1:PySem.W.keepIn K (.ref fA1)=true)
   (aPr:PySem.W.nsIn K mainGlobals "_law_pair"=some (some (.ref fPr)))
   (lPr:K.lookup fPr=some ⟨ocPr,odPr,.func (PySem.W.fnOf "_law_pair" "_law_pair" (av me) (ap me) (ae me) .none kVPr dcPr pmPr anPr cdPr ctPr),slPr⟩)
   (cPr:PySem.W.codeIn K cdPr "_law_pair"=true)
   (kPr:PySem.W.keepIn K (.ref fPr)=true)
   (aLo:PySem.W.nsIn K mainGlobals "_law_list_of_names"=some (some (.ref fLo)))
   (lLo:K.lookup fLo=some ⟨ocLo,odLo,.func (PySem.W.fnOf "_law_list_of_names" "_law_list_of_names" (av d5) (ap d5) (ae d5) .none kVLo dcLo pmLo anLo cdLo ctLo),slLo⟩)
   (cLo:PySem.W.codeIn K cdLo "_law_list_of_names"=true)
   (kLo:PySem.W.keepIn K (.ref fLo)=true)
   (aT1:PySem.W.nsIn K mainGlobals "_law_to_one"=some (some (.ref fT1)))
   (lT1:K.lookup fT1=some ⟨ocT1,odT1,.func (PySem.W.fnOf "_law_to_one" "_law_to_one" (av iZ) (ap iZ) (ae iZ) .none kVT1 dcT1 pmT1 anT1 cdT1 ctT1),slT1⟩)
   (cT1:PySem.W.codeIn K cdT1 "_law_to_one"=true)
   (kT1:PySem.W.keepIn K (.ref fT1)=true)
   (aSk:PySem.W.nsIn K mainGlobals "_law_stuck"=some (some (.ref fSk)))
   (lSk:K.lookup fSk=some ⟨ocSk,odSk,.func (PySem.W.fnOf "_law_stuck" "_law_stuck" (av gS) (ap gS) (ae gS) .none kVSk dcSk pmSk anSk cdSk ctSk),slSk⟩)
   (cSk:PySem.W.codeIn K cdSk "_law_stuck"=true)
   (kSk:PySem.W.keepIn K (.ref fSk)=true)
   (aLD:PySem.W.nsIn K mainGlobals "_law_all_dipped"=some (some (.ref fLD)))
   (lLD:K.lookup fLD=some ⟨ocLD,odLD,.func (PySem.W.fnOf "_law_all_dipped" "_law_all_dipped" (av gG) (ap gG) (ae gG) .none kVLD dcLD pmLD anLD cdLD ctLD),slLD⟩)
   (cLD:PySem.W.codeIn K cdLD "_law_all_dipped"=true)
   (kLD:PySem.W.keepIn K (.ref fLD)=true)
   (aLP:PySem.W.nsIn K mainGlobals "_law_stay_apart"=some (some (.ref fLP)))
   (lLP:K.lookup fLP=some ⟨ocLP,odLP,.func (PySem.W.fnOf "_law_stay_apart" "_law_stay_apart" (av ic) (ap ic) (ae ic) .none kVLP dcLP pmLP anLP cdLP ctLP),slLP⟩)
   (cLP:PySem.W.codeIn K cdLP "_law_stay_apart"=true)
   (kLP:PySem.W.keepIn K (.ref fLP)=true)
   (aL:PySem.W.nsIn K mainGlobals "law"=some (some (.ref fL)))
   (lL:K.lookup fL=some ⟨ocL,odL,.func (PySem.W.fnOf "law" "law" (av mP) (ap mP) (ae mP) .none kVL dcL pmL anL cdL ctL),slL⟩)
   (cL:PySem.W.codeIn K cdL "law"=true)
   (kL:PySem.W.keepIn K (.ref fL)=true)
   (aNoDay:PySem.W.nsIn K mainGlobals "NoDay"=some (some (.ref xNoDay)))
   (exND:PySem.W.excIn K xNoDay [.type "ValueError",.type "Exception",.type "BaseException",.type "object"] "ValueError.__new__"=true)
   (elND:PySem.W.clsIn K xNoDay=some cdNoDay)
   (egND:PySem.W.findIn K (.ref xNoDay) "__getattribute__"=some (some (.builtin "BaseException.__getattribute__")))
   (etND:PySem.W.findIn K (.ref xNoDay) "__getattr__"=some none)
   (eaND:PySem.W.findIn K (.ref xNoDay) "__class__"=some (some (.builtin "object.__class__")))
   (emND:PySem.W.mroIn K xNoDay (.type "object")=some true)
   (ebND:PySem.W.mroIn K xNoDay (.type "BaseException")=some true)
   (aLate:PySem.W.nsIn K mainGlobals "Late"=some (some (.ref xLate)))
   (exLa:PySem.W.excIn K xLate [.type "ValueError",.type "Exception",.type "BaseException",.type "object"] "ValueError.__new__"=true)
   (elLa:PySem.W.clsIn K xLate=some cdLate)
   (egLa:PySem.W.findIn K (.ref xLate) "__getattribute__"=some (some (.builtin "BaseException.__getattribute__")))
   (etLa:PySem.W.findIn K (.ref xLate) "__getattr__"=some none)
   (eaLa:PySem.W.findIn K (.ref xLate) "__class__"=some (some (.builtin "object.__class__")))
   (emLa:PySem.W.mroIn K xLate (.type "object")=some true)
   (ebLa:PySem.W.mroIn K xLate (.type "BaseException")=some true)
   (aNoCloth:PySem.W.nsIn K mainGlobals "NoCloth"=some (some (.ref xNoCloth)))
   (exNC:PySem.W.excIn K xNoCloth [.type "ValueError",.type "Exception",.type "BaseException",.type "object"] "ValueError.__new__"=true)
   (elNC:PySem.W.clsIn K xNoCloth=some cdNoCloth)
   (egNC:PySem.W.findIn K (.ref xNoCloth) "__getattribute__"=some (some (.builtin "BaseException.__getattribute__")))
   (etNC:PySem.W.findIn K (.ref xNoCloth) "__getattr__"=some none)
   (eaNC:PySem.W.findIn K (.ref xNoCloth) "__class__"=some (some (.builtin "object.__class__")))
   (emNC:PySem.W.mroIn K xNoCloth (.type "object")=some true)
   (ebNC:PySem.W.mroIn K xNoCloth (.type "BaseException")=some true)
   (aKnown:PySem.W.nsIn K mainGlobals "Known"=some (some (.ref xKnown)))
   (exKn:PySem.W.excIn K xKnown [.type "ValueError",.type "Exception",.type "BaseException",.type "object"] "ValueError.__new__"=true)
   (elKn:PySem.W.clsIn K xKnown=some cdKnown)
   (egKn:PySem.W.findIn K (.ref xKnown) "__getattribute__"=some (some (.builtin "BaseException.__getattribute__")))
   (etKn:PySem.W.findIn K (.ref xKnown) "__getattr__"=some none)
   (eaKn:PySem.W.findIn K (.ref xKnown) "__class__"=some (some (.builtin "object.__class__")))
   (emKn:PySem.W.mroIn K xKnown (.type "object")=some true)
   (ebKn:PySem.W.mroIn K xKnown (.type "BaseException")=some true)
   (aBadName:PySem.W.nsIn K mainGlobals "BadName"=some (some (.ref xBadName)))
   (exBN:PySem.W.excIn K xBadName [.type "ValueError",.type "Exception",.type "BaseException",.type "object"] "ValueError.__new__"=true)
   (elBN:PySem.W.clsIn K xBadName=some cdBadName)
   (egBN:PySem.W.findIn K (.ref xBadName) "__getattribute__"=some (some (.builtin "BaseException.__getattribute__")))
   (etBN:PySem.W.findIn K (.ref xBadName) "__getattr__"=some none)
   (eaBN:PySem.W.findIn K (.ref xBadName) "__class__"=some (some (.builtin "object.__class__")))
   (emBN:PySem.W.mroIn K xBadName (.type "object")=some true)
   (ebBN:PySem.W.mroIn K xBadName (.type "BaseException")=some true)
   (aFull:PySem.W.nsIn K mainGlobals "Full"=some (some (.ref xFull)))
   (exFu:PySem.W.excIn K xFull [.type "ValueError",.type "Exception",.type "BaseException",.type "object"] "ValueError.__new__"=true)
   (elFu:PySem.W.clsIn K xFull=some cdFull)
   (egFu:PySem.W.findIn K (.ref xFull) "__getattribute__"=some (some (.builtin "BaseException.__getattribute__")))
   (etFu:PySem.W.findIn K (.ref xFull) "__getattr__"=some none)
   (eaFu:PySem.W.findIn K (.ref xFull) "__class__"=some (some (.builtin "object.__class__")))
   (emFu:PySem.W.mroIn K xFull (.type "object")=some true)
   (ebFu:PySem.W.mroIn K xFull (.type "BaseException")=some true)
   (aNoBath:PySem.W.nsIn K mainGlobals "NoBath"=some (some (.ref xNoBath)))
   (exNB:PySem.W.excIn K xNoBath [.type "ValueError",.type "Exception",.type "BaseException",.type "object"] "ValueError.__new__"=true)
   (elNB:PySem.W.clsIn K xNoBath=some cdNoBath)
   (egNB:PySem.W.findIn K (.ref xNoBath) "__getattribute__"=some (some (.builtin "BaseException.__getattribute__")))
   (etNB:PySem.W.findIn K (.ref xNoBath) "__getattr__"=some none)
   (eaNB:PySem.W.findIn K (.ref xNoBath) "__class__"=some (some (.builtin "object.__class__")))
   (emNB:PySem.W.mroIn K xNoBath (.type "object")=some true)
   (ebNB:PySem.W.mroIn K xNoBath (.type "BaseException")=some true)
   (aNoShade:PySem.W.nsIn K mainGlobals "NoShade"=some (some (.ref xNoShade)))
   (exNS:PySem.W.excIn K xNoShade [.type "ValueError",.type "Exception",.type "BaseException",.type "object"] "ValueError.__new__"=true)
   (elNS:PySem.W.clsIn K xNoShade=some cdNoShade)
   (egNS:PySem.W.findIn K (.ref xNoShade) "__getattribute__"=some (some (.builtin "BaseException.__getattribute__")))
   (etNS:PySem.W.findIn K (.ref xNoShade) "__getattr__"=some none)
   (eaNS:PySem.W.findIn K (.ref xNoShade) "__class__"=some (some (.builtin "object.__class__")))
   (emNS:PySem.W.mroIn K xNoShade (.type "object")=some true)
   (ebNS:PySem.W.mroIn K xNoShade (.type "BaseException")=some true)
   (eN1:PySem.W.specialIn K (.builtin "object.__class__") "__get__"=some (some (.builtin "getset_descriptor.__get__")))
   (eT1:PySem.W.takesIn K (.builtin "object.__class__")=some true)
   (zlen:PySem.W.nsIn K mainGlobals "len"=some none)
   (zall:PySem.W.nsIn K mainGlobals "all"=some none)
   (zrange:PySem.W.nsIn K mainGlobals "range"=some none)
   (zisinstance:PySem.W.nsIn K mainGlobals "isinstance"=some none)
   (zlist:PySem.W.nsIn K mainGlobals "list"=some none)
   (zstr:PySem.W.nsIn K mainGlobals "str"=some none)
   (zsorted:PySem.W.nsIn K mainGlobals "sorted"=some none)
   (ztuple:PySem.W.nsIn K mainGlobals "tuple"=some none)
   (zdict:PySem.W.nsIn K mainGlobals "dict"=some none)
   (zzip:PySem.W.nsIn K mainGlobals "zip"=some none)
   (zset:PySem.W.nsIn K mainGlobals "set"=some none)
   (zmin:PySem.W.nsIn K mainGlobals "min"=some none)
   (zint:PySem.W.nsIn K mainGlobals "int"=some none)
   (zmax:PySem.W.nsIn K mainGlobals "max"=some none)
   (zbool:PySem.W.nsIn K mainGlobals "bool"=some none)
   (zenumerate:PySem.W.nsIn K mainGlobals "enumerate"=some none)
   (vlett:PySem.W.nsIn K mainGlobals "LETTERS"=some (some (.str bz tlett)))
   (vlong:PySem.W.nsIn K mainGlobals "LONGEST"=some (some (.int 8 tlong)))
   (vmostS:PySem.W.nsIn K mainGlobals "MOST_SHADES"=some (some (.int 12 tmostS)))
   (vmostB:PySem.W.nsIn K mainGlobals "MOST_BATHS"=some (some (.int 8 tmostB)))
   (vfday:PySem.W.nsIn K mainGlobals "FIRST_DAY"=some (some (.int 1 tfday)))
   (vlday:PySem.W.nsIn K mainGlobals "LAST_DAY"=some (some (.int 400 tlday)))
   (vmostC:PySem.W.nsIn K mainGlobals "MOST_CLOTHS"=some (some (.int 50 tmostC)))
   (vmostD:PySem.W.nsIn K mainGlobals "MOST_DIPS"=some (some (.int 1000 tmostD))) :
   ∃ fd:FuncData,(∀ (s:Shared) (v:Value),BindsTo s fd ⟨[v],[]⟩ [("_law_script",v)])∧∀ base:Heap,K.In base→base.Ns mainGlobals mg→aw l.prog w K mg base CX0 8 fa fd ["_law_script"] (re K):=by
 have e:=hfa.symm.trans (PySem.W.mg_of X G aL)
 cases e
 have FI:=aJ (st:=jT) lI cI kI
 have bI:=FI.binds (ps:=["self", "shades", "baths"]) fun _ _ _ _ _ _ us hl=>match us,hl with | [_,_,_],_=>rfl
 have FMS:=aJ (st:=fe) lMS cMS kMS
 have bMS:=FMS.binds (ps:=["self"]) fun _ _ _ _ _ _ us hl=>match us,hl with | [_],_=>rfl
 have FMB:=aJ (st:=gF) lMB cMB kMB
 have bMB:=FMB.binds (ps:=["self"]) fun _ _ _ _ _ _ us hl=>match us,hl with | [_],_=>rfl
 have FMT:=aJ (st:=fj) lMT cMT kMT
 have bMT:=FMT.binds (ps:=["self", "bath"]) fun _ _ _ _ _ _ us hl=>match us,hl with | [_,_],_=>rfl
 have FMC:=aJ (st:=d8) lMC cMC kMC
 have bMC:=FMC.binds (ps:=["self", "bath"]) fun _ _ _ _ _ _ us hl=>match us,hl with | [_,_],_=>rfl
 have FMH:=aJ (st:=eC) lMH cMH kMH
 have bMH:=FMH.binds (ps:=["self", "shade"]) fun _ _ _ _ _ _ us hl=>match us,hl with | [_,_],_=>rfl
 have FMO:=aJ (st:=kH) lMO cMO kMO
 have bMO:=FMO.binds (ps:=["self", "bath", "shade"]) fun _ _ _ _ _ _ us hl=>match us,hl with | [_,_,_],_=>rfl
 have mCB:=PySem.W.mg_of X G aCB
 have FHI:=aJ (st:=i6) lHI cHI kHI
 have bHI:=FHI.binds (ps:=["self", "book"]) fun _ _ _ _ _ _ us hl=>match us,hl with | [_,_],_=>rfl
 have FHR:=aJ (st:=fu) lHR cHR kHR
 have bHR:=FHR.binds (ps:=["self", "cloth", "shade"]) fun _ _ _ _ _ _ us hl=>match us,hl with | [_,_,_],_=>rfl
 have FHQ:=aJ (st:=mo) lHQ cHQ kHQ
 have bHQ:=FHQ.binds (ps:=["self", "cloth", "bath", "day"]) fun _ _ _ _ _ _ us hl=>match us,hl with | [_,_,_,_],_=>rfl
 have FHB:=aJ (st:=hU) lHB cHB kHB
 have bHB:=FHB.binds (ps:=["self", "day"]) fun _ _ _ _ _ _ us hl=>match us,hl with | [_,_],_=>rfl
 have FHS:=aJ (st:=fw) lHS cHS kHS
 have bHS:=FHS.binds (ps:=["self", "cloth", "day"]) fun _ _ _ _ _ _ us hl=>match us,hl with | [_,_,_],_=>rfl
 have FHT:=aJ (st:=gB) lHT cHT kHT
 have bHT:=FHT.binds (ps:=["self", "cloth", "day"]) fun _ _ _ _ _ _ us hl=>match us,hl with | [_,_,_],_=>rfl
 have FHN:=aJ (st:=fb) lHN cHN kHN
 have bHN:=FHN.binds (ps:=["self"]) fun _ _ _ _ _ _ us hl=>match us,hl with | [_],_=>rfl
 have FHC:=aJ (st:=ez) lHC cHC kHC
 have bHC:=FHC.binds (ps:=["self", "cloth"]) fun _ _ _ _ _ _ us hl=>match us,hl with | [_,_],_=>rfl
 have FHD:=aJ (st:=je) lHD cHD kHD
 have bHD:=FHD.binds (ps:=["self", "day"]) fun _ _ _ _ _ _ us hl=>match us,hl with | [_,_],_=>rfl
 have mCH:=PySem.W.mg_of X G aCH
 have FGd:=aJ (st:=lW) lGd cGd kGd
 have bGd:=FGd.binds (ps:=["text"]) fun _ _ _ _ _ _ us hl=>match us,hl with | [_],_=>rfl
 have mGd:=PySem.W.mg_of X G aGd
 have FCn:=aJ (st:=gE) lCn cCn kCn
 have bCn:=FCn.binds (ps:=["texts"]) fun _ _ _ _ _ _ us hl=>match us,hl with | [_],_=>rfl
 have mCn:=PySem.W.mg_of X G aCn
 have FCs:=aJ (st:=e8) lCs cCs kCs
 have bCs:=FCs.binds (ps:=["shades"]) fun _ _ _ _ _ _ us hl=>match us,hl with | [_],_=>rfl
 have mCs:=PySem.W.mg_of X G aCs
 have FCo:=aJ (st:=i9) lCo cCo kCo
 have bCo:=FCo.binds (ps:=["shades", "outs"]) fun _ _ _ _ _ _ us hl=>match us,hl with | [_,_],_=>rfl
 have mCo:=PySem.W.mg_of X G aCo
 have FCb:=aJ (st:=gj) lCb cCb kCb
 have bCb:=FCb.binds (ps:=["shades", "baths"]) fun _ _ _ _ _ _ us hl=>match us,hl with | [_,_],_=>rfl
 have mCb:=PySem.W.mg_of X G aCb
 have FCD:=aJ (st:=lX) lCD cCD kCD
 have bCD:=FCD.binds (ps:=["day"]) fun _ _ _ _ _ _ us hl=>match us,hl with | [_],_=>rfl
 have mCD:=PySem.W.mg_of X G aCD
 have FA:=aJ (st:=sAt) lA cA kA
 have bA:=FA.binds (ps:=["_law_script", "_law_k"]) fun _ _ _ _ _ _ us hl=>match us,hl with | [_,_],_=>rfl
 have mA:=PySem.W.mg_of X G aA
 have FD:=aJ (st:=jc) lD cD kD
 have bD:=FD.binds (ps:=["_law_cell", "_law_many", "_law_bound", "_law_mixed"]) fun _ _ _ _ _ _ us hl=>match us,hl with | [_,_,_,_],_=>rfl
 have mD:=PySem.W.mg_of X G aD
 have FN:=aJ (st:=mr) lN cN kN
 have bN:=FN.binds (ps:=["_law_seed", "_law_style"]) fun _ _ _ _ _ _ us hl=>match us,hl with | [_,_],_=>rfl
 have mN:=PySem.W.mg_of X G aN
 have FNs:=aJ (st:=iG) lNs cNs kNs
 have bNs:=FNs.binds (ps:=["_law_cell", "_law_many", "_law_style", "_law_mixed"]) fun _ _ _ _ _ _ us hl=>match us,hl with | [_,_,_,_],_=>rfl
 have mNs:=PySem.W.mg_of X G aNs
 have FTu:=aJ (st:=gC) lTu cTu kTu
 have bTu:=FTu.binds (ps:=["_law_many", "_law_shape_here", "_law_drawn_here"]) fun _ _ _ _ _ _ us hl=>match us,hl with | [_,_,_],_=>rfl
 have mTu:=PySem.W.mg_of X G aTu
 have FOu:=aJ (st:=mh) lOu cOu kOu
 have bOu:=FOu.binds (ps:=["_law_cell", "_law_many", "_law_shape_here", "_law_mixed"]) fun _ _ _ _ _ _ us hl=>match us,hl with | [_,_,_,_],_=>rfl
 have mOu:=PySem.W.mg_of X G aOu
 have FSh:=aJ (st:=i0) lSh cSh kSh
 have bSh:=FSh.binds (ps:=["_law_pick", "_law_k"]) fun _ _ _ _ _ _ us hl=>match us,hl with | [_,_],_=>rfl
 have mSh:=PySem.W.mg_of X G aSh
 have FNd:=aJ (st:=iJ) lNd cNd kNd
 have bNd:=FNd.binds (ps:=["_law_script", "_law_many", "_law_count"]) fun _ _ _ _ _ _ us hl=>match us,hl with | [_,_,_],_=>rfl
 have mNd:=PySem.W.mg_of X G aNd
 have FSz:=aJ (st:=i5) lSz cSz kSz
 have bSz:=FSz.binds (ps:=["_law_script", "_law_many", "_law_count"]) fun _ _ _ _ _ _ us hl=>match us,hl with | [_,_,_],_=>rfl
 have mSz:=PySem.W.mg_of X G aSz
 have FDn:=aJ (st:=jg) lDn cDn kDn
 have bDn:=FDn.binds (ps:=["_law_script"]) fun _ _ _ _ _ _ us hl=>match us,hl with | [_],_=>rfl
 have mDn:=PySem.W.mg_of X G aDn
 have FTa:=aJ (st:=fP) lTa cTa kTa
 have bTa:=FTa.binds (ps:=["_law_shades", "_law_baths"]) fun _ _ _ _ _ _ us hl=>match us,hl with | [_,_],_=>rfl
 have mTa:=PySem.W.mg_of X G aTa
 have FHd:=aJ (st:=gH) lHd cHd kHd
 have bHd:=FHd.binds (ps:=["_law_shades", "_law_baths"]) fun _ _ _ _ _ _ us hl=>match us,hl with | [_,_],_=>rfl
 have mHd:=PySem.W.mg_of X G aHd
 have FTI:=aJ (st:=gn) lTI cTI kTI
 have bTI:=FTI.binds (ps:=["_law_found", "_law_due"]) fun _ _ _ _ _ _ us hl=>match us,hl with | [_,_],_=>rfl
 have mTI:=PySem.W.mg_of X G aTI
 have FRw:=aJ (st:=sC) lRw cRw kRw
 have bRw:=FRw.binds (ps:=["_law_cell", "_law_size", "_law_titles", "_law_mixed"]) fun _ _ _ _ _ _ us hl=>match us,hl with | [_,_,_,_],_=>rfl
 have mRw:=PySem.W.mg_of X G aRw
 have FAE:=aJ (st:=g6) lAE cAE kAE
 have bAE:=FAE.binds (ps:=["_law_tables_here", "_law_row_here", "_law_shade"]) fun _ _ _ _ _ _ us hl=>match us,hl with | [_,_,_],_=>rfl
 have mAE:=PySem.W.mg_of X G aAE
 have FWR:=aJ (st:=lS) lWR cWR kWR
 have bWR:=FWR.binds (ps:=["words"]) fun _ _ _ _ _ _ us hl=>match us,hl with | [_],_=>rfl
 have mWR:=PySem.W.mg_of X G aWR
 have FWB:=aJ (st:=iR) lWB cWB kWB
 have bWB:=FWB.binds (ps:=["book"]) fun _ _ _ _ _ _ us hl=>match us,hl with | [_],_=>rfl
 have mWB:=PySem.W.mg_of X G aWB
 have FBO:=aJ (st:=gq) lBO cBO kBO
 have bBO:=FBO.binds (ps:=["words"]) fun _ _ _ _ _ _ us hl=>match us,hl with | [_],_=>rfl
 have mBO:=PySem.W.mg_of X G aBO
 have FLO:=aJ (st:=iT) lLO cLO kLO
 have bLO:=FLO.binds (ps:=["text"]) fun _ _ _ _ _ _ us hl=>match us,hl with | [_],_=>rfl
 have mLO:=PySem.W.mg_of X G aLO
 have FRB:=aJ (st:=mz) lRB cRB kRB
 have bRB:=FRB.binds (ps:=["text"]) fun _ _ _ _ _ _ us hl=>match us,hl with | [_],_=>rfl
 have mRB:=PySem.W.mg_of X G aRB
 have FTx:=aJ (st:=kf) lTx cTx kTx
 have bTx:=FTx.binds (ps:=["_law_order", "_law_tables_here"]) fun _ _ _ _ _ _ us hl=>match us,hl with | [_,_],_=>rfl
 have mTx:=PySem.W.mg_of X G aTx
 have FWa:=aJ (st:=mf) lWa cWa kWa
 have bWa:=FWa.binds (ps:=["book", "row", "shade"]) fun _ _ _ _ _ _ us hl=>match us,hl with | [_,_,_],_=>rfl
 have mWa:=PySem.W.mg_of X G aWa
 have FAP:=aJ (st:=d9) lAP cAP kAP
 have bAP:=FAP.binds (ps:=["shades"]) fun _ _ _ _ _ _ us hl=>match us,hl with | [_],_=>rfl
 have mAP:=PySem.W.mg_of X G aAP
 have FJR:=aJ (st:=jS) lJR cJR kJR
 have bJR:=FJR.binds (ps:=["book", "pair", "rows"]) fun _ _ _ _ _ _ us hl=>match us,hl with | [_,_,_],_=>rfl
 have mJR:=PySem.W.mg_of X G aJR
 have FJS:=aJ (st:=ia) lJS cJS kJS
 have bJS:=FJS.binds (ps:=["book", "pairs"]) fun _ _ _ _ _ _ us hl=>match us,hl with | [_,_],_=>rfl
 have mJS:=PySem.W.mg_of X G aJS
 have FJD:=aJ (st:=fU) lJD cJD kJD
 have bJD:=FJD.binds (ps:=["book", "rows"]) fun _ _ _ _ _ _ us hl=>match us,hl with | [_,_],_=>rfl
 have mJD:=PySem.W.mg_of X G aJD
 have FA1:=aJ (st:=dr) lA1 cA1 kA1
 have bA1:=FA1.binds (ps:=["book"]) fun _ _ _ _ _ _ us hl=>match us,hl with | [_],_=>rfl
 have mA1:=PySem.W.mg_of X G aA1
 have FPr:=aJ (st:=me) lPr cPr kPr
 have bPr:=FPr.binds (ps:=["_law_found"]) fun _ _ _ _ _ _ us hl=>match us,hl with | [_],_=>rfl
 have mPr:=PySem.W.mg_of X G aPr
 have FLo:=aJ (st:=d5) lLo cLo kLo
 have bLo:=FLo.binds (ps:=["_law_found", "_law_known", "_law_most"]) fun _ _ _ _ _ _ us hl=>match us,hl with | [_,_,_],_=>rfl
 have mLo:=PySem.W.mg_of X G aLo
 have FT1:=aJ (st:=iZ) lT1 cT1 kT1
 have bT1:=FT1.binds (ps:=["_law_found", "_law_order", "_law_tables_here"]) fun _ _ _ _ _ _ us hl=>match us,hl with | [_,_,_],_=>rfl
 have mT1:=PySem.W.mg_of X G aT1
 have FSk:=aJ (st:=gS) lSk cSk kSk
 have bSk:=FSk.binds (ps:=["_law_pairs", "_law_order", "_law_tables_here"]) fun _ _ _ _ _ _ us hl=>match us,hl with | [_,_,_],_=>rfl
 have mSk:=PySem.W.mg_of X G aSk
 have FLD:=aJ (st:=gG) lLD cLD kLD
 have bLD:=FLD.binds (ps:=["_law_book", "_law_order", "_law_found", "_law_day"]) fun _ _ _ _ _ _ us hl=>match us,hl with | [_,_,_,_],_=>rfl
 have mLD:=PySem.W.mg_of X G aLD
 have FLP:=aJ (st:=ic) lLP cLP kLP
 have bLP:=FLP.binds (ps:=["_law_book", "_law_pairs", "_law_one", "_law_row_here", "_law_day", "_law_step"]) fun _ _ _ _ _ _ us hl=>match us,hl with | [_,_,_,_,_,_],_=>rfl
 have mLP:=PySem.W.mg_of X G aLP
 have FL:=aJ (st:=mP) lL cL kL
 have bL:=FL.binds (ps:=["_law_script"]) fun _ _ _ _ _ _ us hl=>match us,hl with | [_],_=>rfl
 have mL:=PySem.W.mg_of X G aL
 have mND:=PySem.W.mg_of X G aNoDay
 have mLa:=PySem.W.mg_of X G aLate
 have mNC:=PySem.W.mg_of X G aNoCloth
 have mKn:=PySem.W.mg_of X G aKnown
 have mBN:=PySem.W.mg_of X G aBadName
 have mFu:=PySem.W.mg_of X G aFull
 have mNB:=PySem.W.mg_of X G aNoBath
 have mNS:=PySem.W.mg_of X G aNoShade
 have nlen:=PySem.W.mg_none_of X G zlen
 have nall:=PySem.W.mg_none_of X G zall
 have nrange:=PySem.W.mg_none_of X G zrange
 have nisinstance:=PySem.W.mg_none_of X G zisinstance
 have nlist:=PySem.W.mg_none_of X G zlist
 have nstr:=PySem.W.mg_none_of X G zstr
 have nsorted:=PySem.W.mg_none_of X G zsorted
 have ntuple:=PySem.W.mg_none_of X G ztuple
 have ndict:=PySem.W.mg_none_of X G zdict
 have nzip:=PySem.W.mg_none_of X G zzip
 have nset:=PySem.W.mg_none_of X G zset
 have nmin:=PySem.W.mg_none_of X G zmin
 have nint:=PySem.W.mg_none_of X G zint
 have nmax:=PySem.W.mg_none_of X G zmax
 have nbool:=PySem.W.mg_none_of X G zbool
 have nenumerate:=PySem.W.mg_none_of X G zenumerate
 have elett:=PySem.W.mg_of X G vlett
 have elong:=PySem.W.mg_of X G vlong
 have emostS:=PySem.W.mg_of X G vmostS
 have emostB:=PySem.W.mg_of X G vmostB
 have efday:=PySem.W.mg_of X G vfday
 have elday:=PySem.W.mg_of X G vlday
 have emostC:=PySem.W.mg_of X G vmostC
 have emostD:=PySem.W.mg_of X G vmostD
 have T:Txt mg:=⟨nlen,nall,nrange,nisinstance,nlist,nstr,nsorted,ntuple,ndict,nzip,nset,nmin,nint,⟨_,elett⟩,⟨_,elong⟩⟩
 have TB:xX mg:=⟨⟨_,emostS⟩,⟨_,emostB⟩⟩
 have c:Cls K CB:=⟨pgB,hdB,poB,saB⟩
 have nO:bV K CB "order":=naB_order
 have nT:bV K CB "tables":=naB_tables
 have MkB:Mk K CB fI:=⟨mkB,aI,iI,kcB⟩
 have hX:Hx K mg CH:=⟨⟨pgH,hdH,poH,saH⟩,naH_first_shades,naH_day_now,naH_standing,naH_books_from,⟨_,efday⟩,⟨_,elday⟩,⟨_,emostC⟩,⟨_,emostD⟩,nmax⟩
 have MkH:Mk K CH fHI:=⟨mkH,aHI,iHI,kcH⟩
 have TM:mg "max"=none:=nmax
 have hmMS:bZ K CB "shades" fMS:=⟨aMS,iMS,kMS⟩
 have hmMB:bZ K CB "baths" fMB:=⟨aMB,iMB,kMB⟩
 have hmMT:bZ K CB "table" fMT:=⟨aMT,iMT,kMT⟩
 have hmMC:bZ K CB "check_bath" fMC:=⟨aMC,iMC,kMC⟩
 have hmMH:bZ K CB "check_shade" fMH:=⟨aMH,iMH,kMH⟩
 have hmMO:bZ K CB "out" fMO:=⟨aMO,iMO,kMO⟩
 have hmHR:bZ K CH "bring" fHR:=⟨aHR,iHR,kHR⟩
 have hmHQ:bZ K CH "dip" fHQ:=⟨aHQ,iHQ,kHQ⟩
 have hmHB:bZ K CH "book" fHB:=⟨aHB,iHB,kHB⟩
 have hmHS:bZ K CH "shade" fHS:=⟨aHS,iHS,kHS⟩
 have hmHT:bZ K CH "trail" fHT:=⟨aHT,iHT,kHT⟩
 have hmHN:bZ K CH "newest_book" fHN:=⟨aHN,iHN,kHN⟩
 have hmHC:bZ K CH "check_cloth" fHC:=⟨aHC,iHC,kHC⟩
 have hmHD:bZ K CH "check_day_to_do" fHD:=⟨aHD,iHD,kHD⟩
 have XND:gd K xNoDay:=⟨exND,egND,etND,by rw[elND];rfl,eaND,eN1,eT1,emND,ebND⟩
 have XLa:gd K xLate:=⟨exLa,egLa,etLa,by rw[elLa];rfl,eaLa,eN1,eT1,emLa,ebLa⟩
 have XNC:gd K xNoCloth:=⟨exNC,egNC,etNC,by rw[elNC];rfl,eaNC,eN1,eT1,emNC,ebNC⟩
 have XKn:gd K xKnown:=⟨exKn,egKn,etKn,by rw[elKn];rfl,eaKn,eN1,eT1,emKn,ebKn⟩
 have XBN:gd K xBadName:=⟨exBN,egBN,etBN,by rw[elBN];rfl,eaBN,eN1,eT1,emBN,ebBN⟩
 have XFu:gd K xFull:=⟨exFu,egFu,etFu,by rw[elFu];rfl,eaFu,eN1,eT1,emFu,ebFu⟩
 have XNB:gd K xNoBath:=⟨exNB,egNB,etNB,by rw[elNB];rfl,eaNB,eN1,eT1,emNB,ebNB⟩
 have XNS:gd K xNoShade:=⟨exNS,egNS,etNS,by rw[elNS];rfl,eaNS,eN1,eT1,emNS,ebNS⟩
 exact⟨PySem.W.fnOf "law" "law" (av mP) (ap mP) (ae mP) .none kVL dcL pmL anL cdL ctL,fun s v=>.of_eq rfl,fun base _ _=>by
   have GA:=yJ (P:=l.prog) (w:=w) (mg:=mg) (base:=base) FA T
   have GD:=t7 (P:=l.prog) (w:=w) (mg:=mg) (base:=base) FD T
   have GN:=vJ (P:=l.prog) (w:=w) (mg:=mg) (base:=base) FN T
   have GNs:=vk (P:=l.prog) (w:=w) (mg:=mg) (base:=base) FNs T GD kD bD mD GN kN bN mN
   have GTu:=tD (P:=l.prog) (w:=w) (mg:=mg) (base:=base) FTu T
   have GOu:=vD (P:=l.prog) (w:=w) (mg:=mg) (base:=base) FOu T GD kD bD mD GTu kTu bTu mTu
   have GSh:=tS (P:=l.prog) (w:=w) (mg:=mg) (base:=base) FSh T
   have GNd:=uf (P:=l.prog) (w:=w) (mg:=mg) (base:=base) FNd T GA kA bA mA GNs kNs bNs mNs
   have GSz:=t3 (P:=l.prog) (w:=w) (mg:=mg) (base:=base) FSz T GA kA bA mA GNd kNd bNd mNd GSh kSh bSh mSh GOu kOu bOu mOu
   have GDn:=uq (P:=l.prog) (w:=w) (mg:=mg) (base:=base) FDn GA kA bA mA GSz kSz bSz mSz
   have GRw:=xD (P:=l.prog) (w:=w) (mg:=mg) (base:=base) FRw T TM GD kD bD mD
   have GAE:=uG (P:=l.prog) (w:=w) (mg:=mg) (base:=base) FAE
   have GTa:=tF (P:=l.prog) (w:=w) (mg:=mg) (base:=base) FTa T
   have GGd:=v6 (P:=l.prog) (w:=w) (mg:=mg) (base:=base) FGd T
   have GCn:=sj (P:=l.prog) (w:=w) (mg:=mg) (base:=base) FCn T GGd kGd bGd mGd
   have GCs:=qC (P:=l.prog) (w:=w) (mg:=mg) (base:=base) FCs T TB GCn kCn bCn mCn
   have GCo:=tP (P:=l.prog) (w:=w) (mg:=mg) (base:=base) FCo T
   have GCb:=tH (P:=l.prog) (w:=w) (mg:=mg) (base:=base) FCb T TB GCn kCn bCn mCn GCo kCo bCo mCo
   have GI:=wF (P:=l.prog) (w:=w) (mg:=mg) (base:=base) FI T c nO nT GCs kCs bCs mCs GCb kCb bCb mCb
   have GMC0:=sE (P:=l.prog) (w:=w) (mg:=mg) (base:=base) FMC c nT
   have GMH0:=pQ (P:=l.prog) (w:=w) (mg:=mg) (base:=base) FMH c nO
   have GMO:=wG (P:=l.prog) (w:=w) (mg:=mg) (base:=base) FMO c nT GMC0 hmMC bMC GMH0 hmMH bMH
   have GMC:=pI (P:=l.prog) (w:=w) (mg:=mg) (base:=base) FMC c nT XNB mNB
   have GMH:=og (P:=l.prog) (w:=w) (mg:=mg) (base:=base) FMH c nO XNS mNS
   have GMS:=qp (P:=l.prog) (w:=w) (mg:=mg) (base:=base) FMS T c nO
   have GMB:=sw (P:=l.prog) (w:=w) (mg:=mg) (base:=base) FMB T c nT
   have GMT:=tz (P:=l.prog) (w:=w) (mg:=mg) (base:=base) FMT c nO nT GMC0 hmMC bMC
   have GHd:=sO (P:=l.prog) (w:=w) (mg:=mg) (base:=base) FHd T MkB GI bI mCB
   have GTI:=rQ (P:=l.prog) (w:=w) (mg:=mg) (base:=base) FTI T
   have GCD:=ww (P:=l.prog) (w:=w) (mg:=mg) (base:=base) FCD T hX c XND mND
   have GHC:=xS (P:=l.prog) (w:=w) (mg:=mg) (base:=base) FHC T hX c XNC mNC
   have GHD:=xN (P:=l.prog) (w:=w) (mg:=mg) (base:=base) FHD T hX c XLa mLa GCD kCD bCD mCD
   have GHB:=tN (P:=l.prog) (w:=w) (mg:=mg) (base:=base) FHB T hX c GCD kCD bCD mCD
   have GHN:=wv (P:=l.prog) (w:=w) (mg:=mg) (base:=base) FHN T hX c GHB hmHB bHB
   have GHT:=sD (P:=l.prog) (w:=w) (mg:=mg) (base:=base) FHT T hX c GHC hmHC bHC GCD kCD bCD mCD
   have GHS:=sP (P:=l.prog) (w:=w) (mg:=mg) (base:=base) FHS T hX c GHT hmHT bHT
   have GHI:=vz (P:=l.prog) (w:=w) (mg:=mg) (base:=base) FHI T hX c
   have GHR:=sM (P:=l.prog) (w:=w) (mg:=mg) (base:=base) FHR T hX c XBN mBN XKn mKn XFu mFu GGd kGd bGd mGd GHN hmHN bHN GMH hmMH bMH
   have GHQ:=vS (P:=l.prog) (w:=w) (mg:=mg) (base:=base) FHQ T hX c XFu mFu GHC hmHC bHC GHN hmHN bHN GMC hmMC bMC GHD hmHD bHD GHB hmHB bHB GHS hmHS bHS GMO hmMO bMO
   have GWa:=wf (P:=l.prog) (w:=w) (mg:=mg) (base:=base) FWa c GMO hmMO bMO
   have GAP:=pb (P:=l.prog) (w:=w) (mg:=mg) (base:=base) FAP T nenumerate
   have GJR:=wt (P:=l.prog) (w:=w) (mg:=mg) (base:=base) FJR T c GMB hmMB bMB GMO hmMO bMO
   have GJS:=ug (P:=l.prog) (w:=w) (mg:=mg) (base:=base) FJS T GJR kJR bJR mJR
   have GJD:=sX (P:=l.prog) (w:=w) (mg:=mg) (base:=base) FJD T c GMS hmMS bMS GWa kWa bWa mWa
   have GA1:=nI (P:=l.prog) (w:=w) (mg:=mg) (base:=base) FA1 T c GMS hmMS bMS GAP kAP bAP mAP GJS kJS bJS mJS GJD kJD bJD mJD
   have GPr:=wK (P:=l.prog) (w:=w) (mg:=mg) (base:=base) FPr T
   have GLo:=pR (P:=l.prog) (w:=w) (mg:=mg) (base:=base) FLo T
   have GLl:=qo (P:=l.prog) (w:=w) (mg:=mg) (base:=base) FLo T
   have GT1:=uV (P:=l.prog) (w:=w) (mg:=mg) (base:=base) FT1 T GLo kLo bLo mLo GAE kAE bAE mAE
   have GSk:=uc (P:=l.prog) (w:=w) (mg:=mg) (base:=base) FSk T GPr kPr bPr mPr GLl kLo bLo mLo
   have GWR:=wq (P:=l.prog) (w:=w) (mg:=mg) (base:=base) FWR
   have GWB:=uW (P:=l.prog) (w:=w) (mg:=mg) (base:=base) FWB c GWR kWR bWR mWR GMS hmMS bMS GMB hmMB bMB GMT hmMT bMT
   have GBO:=sI (P:=l.prog) (w:=w) (mg:=mg) (base:=base) FBO T
   have GLO:=uF (P:=l.prog) (w:=w) (mg:=mg) (base:=base) FLO T MkB GBO kBO bBO mBO GI bI mCB
   have GRB:=vC (P:=l.prog) (w:=w) (mg:=mg) (base:=base) FRB GLO kLO bLO mLO GWB kWB bWB mWB
   have GTx:=vH (P:=l.prog) (w:=w) (mg:=mg) (base:=base) FTx T
   have GLD:=sL (P:=l.prog) (w:=w) (mg:=mg) (base:=base) FLD T hX TM GHR hmHR bHR GHQ hmHQ bHQ GHS hmHS bHS GTI kTI bTI mTI MkH GHI bHI mCH
   have GLP:=t5 (P:=l.prog) (w:=w) (mg:=mg) (base:=base) FLP T hX GHR hmHR bHR GHQ hmHQ bHQ MkH GHI bHI mCH
   exact xH FL T hX GA kA bA mA GDn kDn bDn mDn GTa kTa bTa mTa GHd kHd bHd mHd GRw kRw bRw mRw GTx kTx bTx mTx GRB kRB bRB mRB GA1 kA1 bA1 mA1 GPr kPr bPr mPr GSk kSk bSk mSk GT1 kT1 bT1 mT1 GLD kLD bLD mLD GLP kLP bLP mLP⟩
theorem walk {l:PySem.W.OpenLaw}{q:Program}{loose:List Str}{XP:(Str→Option Value)→Heap→Prop}{YP:World→Heap→Prop}{d:DefRec}{K:Params→PySem.W.Frag}(hn:l.most=some 63)(hdf:d.params.defaults=[])
   (hY:∀ (w:World)(h:Heap),YP w h→(K w.params).In h)
   (F:∀ (w:World)(mg:Str→Option Value)(fa:Addr)(h:Heap),(K w.params).In h→h.Ns mainGlobals mg→mg d.name=some (.ref fa) →
     ∃ fd:FuncData,(∀ (s:Shared) (u:Value),BindsTo s fd ⟨[u],[]⟩ [("_law_script",u)])∧∀ base:Heap,(K w.params).In base→base.Ns mainGlobals mg→aw l.prog w (K w.params) mg base CX0 8 fa fd ["_law_script"] (re (K w.params))) :
   PySem.W.WalkO q loose XP YP l.row.toRowW d [] (fun f vs=>PySem.call f vs) :=
 L2.walk_of (n:=63) (k:=8) (x:="_law_script") (CX:=fun _=>CX0) (sp:=fun w=>re (K w.params)) hn (by decide) hdf ⟨rfl,by decide,by decide⟩ hY F (fun _ _ a ns hl _ hS=>⟨a,ns,rfl,hS,hl,fun _=>rfl⟩) fun _ _ _ _ _ z=>z
end DM
namespace PySem.W.Fast
def tw10007037851807849422:=0
def tw10014705276757176556:=0
def tw10025034617522621890:=0
def tw10093923135232740992:=0
def tw10117987453060040885:=0
def tw10132853570258504057:=0
def tw10159462403283364795:=0
def tw10168668274710032860:=0
def tw1021777584230090167:=0
def tw10229391521491174929:=0
def tw10246882009508454775:=0
def tw10247355747177282451:=0
def tw10277724301652138546:=0
def tw1030544995080396574:=0
def tw10327273926662230383:=0
def tw1040928132057263970:=0
def tw10428126302089928579:=0
def tw10470073504702890104:=0
def tw10471711347637878733:=0
def tw10493869830051980567:=0
def tw10512488994585917644:=0
def tw10541557584582273488:=0
def tw10704006419157673947:=0
def tw10771205758048385833:=0
def tw10786197177457153932:=0
def tw10797571847943749038:=0
def tw10866717476702928602:=0
def tw10878289957911829500:=0
def tw10884393973772498241:=0
def tw10978854587718952955:=0
def tw10992490229700655173:=0
def tw11002511002331056290:=0
def tw11031860836536301890:=0
def tw11052641703573904095:=0
def tw11092305367418997562:=0
def tw11122999089130710573:=0
def tw11124912240365007929:=0
def tw11142777792608928742:=0
def tw1123488517654202368:=0
def tw11288741793013263532:=0
def tw11328059831688027727:=0
def tw11329112340005480553:=0
def tw11358632962967148119:=0
def tw11365135761618814145:=0
def tw11379069560070056889:=0
def tw11436662968281619015:=0
def tw11437049973765872916:=0
def tw11439443821182315720:=0
def tw11470912065656760325:=0
def tw1151232137187741023:=0
def tw11514946505903177906:=0
def tw11518122309252992816:=0
def tw11527819742807645850:=0
def tw11548398478612145493:=0
def tw11562334100366722337:=0
def tw11566554819948004981:=0
def tw11615400532760298308:=0
def tw11747059060989147391:=0
def tw11814363380981562548:=0
def tw11893614813973832529:=0
def tw11955586425008487607:=0
def tw11984839587954304428:=0
def tw12039661731624071128:=0
def tw12041050015078796903:=0
def tw12048654870825772538:=0
def tw12059629617675772776:=0
def tw12079145219061913933:=0
def tw12101355945784921574:=0
def tw12113696504197186820:=0
def tw12143855779209449918:=0
def tw12143982630069995481:=0
def tw12164779529716715401:=0
def tw12168822717525924785:=0
def tw12194468408376514300:=0
def tw12206748066626101395:=0
def tw12211881207345898424:=0
def tw12233618535950077643:=0
def tw12318648478848486883:=0
def tw1232932437017324132:=0
def tw12355849530767580356:=0
def tw12402963810315321281:=0
def tw12404319923602573500:=0
def tw12426913980902830119:=0
def tw12445222502800260522:=0
def tw12448964731281497098:=0
def tw12465298599369645979:=0
def tw12482150804428539035:=0
def tw12507544330184451077:=0
def tw12509317523161071641:=0
def tw12605724034126470820:=0
def tw12672317787754115409:=0
def tw12698436435531319026:=0
def tw12775045308534197034:=0
def tw12785137953544255906:=0
def tw12861379399930284307:=0
def tw12869872700135226928:=0
def tw12875535806423885679:=0
def tw12903588035915091561:=0
def tw12976123749198106547:=0
def tw12990140523298791797:=0
def tw1299286162111264978:=0
def tw13005626819146211233:=0
def tw13052849375608685642:=0
def tw13055536321945633653:=0
def tw13101908691898570120:=0
def tw13109574637238315263:=0
def tw13133485221732546504:=0
def tw13137568781177379093:=0
def tw1321409624825479474:=0
def tw1323421094358662403:=0
def tw13243624705555748354:=0
def tw13264949166902652631:=0
def tw13269197788521629708:=0
def tw13339743269425089916:=0
def tw13359654463358273505:=0
def tw13369071193591485698:=0
def tw13386938802522675854:=0
def tw1345701402069965685:=0
def tw13479939985026603603:=0
def tw13508573617317946680:=0
def tw13513172200833065748:=0
def tw13526185026363514387:=0
def tw13528656731105950868:=0
def tw13536976412962250844:=0
def tw13539369712901883521:=0
def tw13551363042497297820:=0
def tw13614669575396172028:=0
def tw1365659174704045314:=0
def tw13661846497537044012:=0
def tw137550116555477943:=0
def tw13801325481550863803:=0
def tw13827089461008516917:=0
def tw13836591957906955260:=0
def tw13855851764465345503:=0
def tw13979940667220563660:=0
def tw13985898356372140166:=0
def tw13992243535069362889:=0
def tw14005914390973942005:=0
def tw14007672768684408261:=0
def tw14008507953359236454:=0
def tw14095155628800992803:=0
def tw14105927134219829081:=0
def tw14107323593320439863:=0
def tw14131953969088455351:=0
def tw14182389237299149141:=0
def tw14216892799333941806:=0
def tw14226842384083600633:=0
def tw14241356805375538095:=0
def tw14254974327676841784:=0
def tw14291955702460628529:=0
def tw14297323475402864735:=0
def tw14309670371325126442:=0
def tw14333379999706902234:=0
def tw14351542806768663390:=0
def tw14356921544402754763:=0
def tw1438954351170747442:=0
def tw14398082068391435872:=0
def tw14408333060179097785:=0
def tw1442282793650231734:=0
def tw14429100330465977263:=0
def tw14443678611641882109:=0
def tw14486485977010016438:=0
def tw14486676673276463194:=0
def tw14492765135944915716:=0
def tw1451698616132494853:=0
def tw14528734310698398424:=0
def tw14572681770107580031:=0
def tw1457752053216073308:=0
def tw14604650161635249402:=0
def tw14622851865898782373:=0
def tw14644260118025423306:=0
def tw14660406166727945853:=0
def tw14725621471173751610:=0
def tw14728418742500360139:=0
def tw1479159551485852255:=0
def tw14853965125886479314:=0
def tw14867906414894231014:=0
def tw1490024504904823548:=0
def tw14917193785874499159:=0
def tw14937049732563129357:=0
def tw1502424368592074089:=0
def tw15035596252210147435:=0
def tw15046723569175955617:=0
def tw15060417982830451066:=0
def tw15104264682873069182:=0
def tw15198303301117020422:=0
def tw15198455282282331104:=0
def tw15236095812952293923:=0
def tw15242712460503675665:=0
def tw15253959666684075048:=0
def tw15287390393077465029:=0
def tw15291635413849646780:=0
def tw15318677477506082002:=0
def tw15334158315500984365:=0
def tw15353964736195072758:=0
def tw15355335218012160304:=0
def tw15371189477185874386:=0
def tw15403984948089917521:=0
def tw15439954724684518667:=0
def tw15454953358474975831:=0
def tw15549593552780667885:=0
def tw15591240069830420081:=0
def tw15594434983637036626:=0
def tw1563559928817081578:=0
def tw15670203434028385678:=0
def tw1572201047808426881:=0
def tw15722016799179699440:=0
def tw15732156518692863507:=0
def tw1574568180532217741:=0
def tw15758296934232470800:=0
def tw15766658537374201202:=0
def tw15773734572219499599:=0
def tw15799067329940108969:=0
def tw15809588487671178436:=0
def tw1581419735901363789:=0
def tw15843655189526161257:=0
def tw15847416596348349194:=0
def tw15848426308957075473:=0
def tw1587970390973373031:=0
def tw15911979117530403079:=0
def tw15936318859384493174:=0
def tw15973682832641549181:=0
def tw1600030661651082069:=0
def tw16035067276199383884:=0
def tw16067694617835419607:=0
def tw16113362581300429979:=0
def tw16201246121413743813:=0
def tw16210603031099415555:=0
def tw16238144929708749848:=0
def tw16249365073132439785:=0
def tw16284273513885972853:=0
def tw16300977239338413429:=0
def tw16315202896907786447:=0
def tw16350841606558400859:=0
def tw16370510477255605888:=0
def tw16374599672548918913:=0
def tw16384639106382562549:=0
def tw16386697563755874944:=0
def tw16503891875337542409:=0
def tw16506408743727138906:=0
def tw16507907408862960247:=0
def tw1651658666401840796:=0
def tw16612520799240496643:=0
def tw16635540590428733111:=0
def tw16636097121966581127:=0
def tw16645382361736312950:=0
def tw16660118997265452727:=0
def tw16694671468280884530:=0
def tw16696412907924769611:=0
def tw16733810707489421903:=0
def tw16798715918529198146:=0
def tw1680901313415515451:=0
def tw16887889007101617138:=0
def tw16902192822602013367:=0
def tw16919578748304625628:=0
def tw1692583707510305012:=0
def tw16942562871978369361:=0
def tw16949264529848863841:=0
def tw16980211477385782220:=0
def tw17009529306557068107:=0
def tw17024324308840120716:=0
def tw17039475106869746850:=0
def tw1706585409409836545:=0
def tw1709199507831800591:=0
def tw17124798277545563110:=0
def tw17146549886516493327:=0
def tw17207076053571959091:=0
def tw17240232182196235937:=0
def tw17256988270251096581:=0
def tw17259106006091894158:=0
def tw17262041107653797933:=0
def tw17276016326338967891:=0
def tw17282621203104595594:=0
def tw17305797521363489587:=0
def tw17369365714836884174:=0
def tw17389430233966410835:=0
def tw17392119465814865101:=0
def tw17398850308354470686:=0
def tw17405555929858741915:=0
def tw17448135005513000647:=0
def tw1745373709703935319:=0
def tw17453933295458930403:=0
def tw17487407704707101317:=0
def tw17491937103334012680:=0
def tw17502624977577841416:=0
def tw17962594932990270029:=0
def tw18019787669152630766:=0
def tw18043782709110570236:=0
def tw18049032913881421615:=0
def tw18077980401964060075:=0
def tw18097232760523097841:=0
def tw18098448016489638059:=0
def tw18113671541688268487:=0
def tw18120738170253628662:=0
def tw18159217692259577893:=0
def tw18198582307288504910:=0
def tw18206123537291615642:=0
def tw18320788038074287720:=0
def tw18333700893461132537:=0
def tw18338651424227406676:=0
def tw18405615644778404667:=0
def tw1841346615459742207:=0
def tw1857116211846621173:=0
def tw1912567519546057039:=0
def tw1917714249449428155:=0
def tw2005982278622512378:=0
def tw2030711848302829720:=0
def tw2048545247317713310:=0
def tw2050549197371968827:=0
def tw2074709410364986527:=0
def tw2234404278653781091:=0
def tw2241853261934245089:=0
def tw2277341002134058660:=0
def tw2281944233883936859:=0
def tw2355808226783848229:=0
def tw2392997740469727508:=0
def tw2402822586955276061:=0
def tw2443937946480416469:=0
def tw2445308155122651915:=0
def tw2507655831338024002:=0
def tw2566962065826589381:=0
def tw2576136297290204903:=0
def tw2645453338177580860:=0
def tw2647999502914760046:=0
def tw2665208394021774948:=0
def tw2714780400493664844:=0
def tw2723604206836859518:=0
def tw2734372909559204491:=0
def tw2740831619988851649:=0
def tw2741741606481503826:=0
def tw2744716324721858710:=0
def tw2806754958619903948:=0
def tw2875344030287240932:=0
def tw2885529001130934731:=0
def tw2904502962441594273:=0
def tw2952102165031794322:=0
def tw3038294387624399870:=0
def tw304690708804337675:=0
def tw3088072353964205416:=0
def tw3088688505126009195:=0
def tw3115238901019138318:=0
def tw3181160209913975110:=0
def tw3181718047104361475:=0
def tw324335562904153165:=0
def tw3278354642443866077:=0
def tw3374077699383780243:=0
def tw3419440299436221189:=0
def tw3461255674270526673:=0
def tw347852768216241281:=0
def tw3497933542566078343:=0
def tw3534975527165473872:=0
def tw3545473902464813083:=0
def tw3596215052386748956:=0
def tw3601884076130649926:=0
def tw3617555727041453968:=0
def tw3633502880511288721:=0
def tw3636412851961676459:=0
def tw3644403149482676443:=0
def tw3650149920871986535:=0
def tw3653963469662826631:=0
def tw3656433954404259434:=0
def tw3656790121344235194:=0
def tw3714071410426392846:=0
def tw3723330518930384506:=0
def tw3729252224095147592:=0
def tw376260408846455015:=0
def tw3827098894563895451:=0
def tw3875319727060197594:=0
def tw3892557490039714015:=0
def tw3893969573167322618:=0
def tw394928830324238352:=0
def tw3952924351844429086:=0
def tw3977772980015186018:=0
def tw3983054595119767286:=0
def tw4002306315742146389:=0
def tw4017941593167701158:=0
def tw402817565909753810:=0
def tw4037557865465834828:=0
def tw4043705759908286522:=0
def tw4070790580916940443:=0
def tw4104895074507263055:=0
def tw4114702572118943310:=0
def tw4156651800774605920:=0
def tw4187513993684925093:=0
def tw42155205419411978:=0
def tw4233691365753135060:=0
def tw4234777237184160757:=0
def tw430175641128698719:=0
def tw4303158834731635228:=0
def tw430526722183136525:=0
def tw436233733818824380:=0
def tw4411904072054515025:=0
def tw4413859684590938411:=0
def tw4417717531123501868:=0
def tw4442801980680365688:=0
def tw4479217876789473682:=0
def tw4510291099552932717:=0
def tw4537740837699113018:=0
def tw453940023852455891:=0
def tw4552484453784879396:=0
def tw4592417230277721080:=0
def tw4597820851271379656:=0
def tw459967067820167908:=0
def tw4618448604491285830:=0
def tw4620217623372633539:=0
def tw4676816326169138485:=0
def tw4696751018153275386:=0
def tw4705287454958505785:=0
def tw4708365303267447383:=0
def tw4715092100293571852:=0
def tw4744219710913573899:=0
def tw4773101031182698323:=0
def tw4802937522330416640:=0
def tw481712901253242019:=0
def tw487357873565641111:=0
def tw4899111886059271109:=0
def tw4917757355792774264:=0
def tw5009430110568237772:=0
def tw5051285350390498891:=0
def tw5097086683306221459:=0
def tw5099202269651344375:=0
def tw5188474341207371279:=0
def tw5191619621939197685:=0
def tw522619508321887432:=0
def tw5239078632046656839:=0
def tw5299509955094945522:=0
def tw5317455649533836087:=0
def tw5327418409456524376:=0
def tw5345777311472611671:=0
def tw5367115014622908288:=0
def tw5434889011856127473:=0
def tw5451299775987427143:=0
def tw5475998659604794886:=0
def tw5489040730655420255:=0
def tw5489763447724110302:=0
def tw5495217416188073973:=0
def tw5501281167556157906:=0
def tw5510929217155759378:=0
def tw5535306236148131622:=0
def tw5537021685596883274:=0
def tw5542825335765264755:=0
def tw5553953797247464228:=0
def tw5563538856265738461:=0
def tw5590567267039221030:=0
def tw5616403482651627682:=0
def tw5637663568175333647:=0
def tw5646072593724134641:=0
def tw5666474993970693721:=0
def tw567497830524538250:=0
def tw5749328086906932351:=0
def tw5797742571399660663:=0
def tw5804457201666505974:=0
def tw5821351458435250956:=0
def tw5822259529559065311:=0
def tw5877107447992510161:=0
def tw5898240897600180826:=0
def tw5906961141689883452:=0
def tw5911972394034502210:=0
def tw5953009166228837632:=0
def tw5961911928616662116:=0
def tw5970597569129351856:=0
def tw6000583076946022936:=0
def tw6025869403168185726:=0
def tw6028715819482591506:=0
def tw6055291441672473745:=0
def tw6061672361183047867:=0
def tw6069792617630086298:=0
def tw6108976955399331814:=0
def tw6110074911807857782:=0
def tw611075790847662425:=0
def tw6123115422142131611:=0
def tw6140219259321804569:=0
def tw6164066591026472215:=0
def tw6176409659171366932:=0
def tw621658522946453886:=0
def tw6263726938448535637:=0
def tw6313694379919162034:=0
def tw632214031944809121:=0
def tw6345609179231724699:=0
def tw6371050306265263994:=0
def tw6401082727690728167:=0
def tw6412013521863974712:=0
def tw6436489494630570573:=0
def tw6440913507321374723:=0
def tw6452534800609089622:=0
def tw6481550278903152179:=0
def tw6501954110729177477:=0
def tw6511882934293924608:=0
def tw6551974804696104305:=0
def tw6598051292371532229:=0
def tw6651460089060050289:=0
def tw6662804145110413575:=0
def tw6712234408739285245:=0
def tw6739808122350843726:=0
def tw6740809732073691545:=0
def tw6787684527549565742:=0
def tw6812868047988136067:=0
def tw6876430918926860595:=0
def tw6878952137507957032:=0
def tw6909943927104751856:=0
def tw6960622331734308598:=0
def tw7016022903155673959:=0
def tw7028526716767609705:=0
def tw70623420600360691:=0
def tw7069851134144049069:=0
def tw7087370401369142156:=0
def tw710352833081560109:=0
def tw7146371804731043045:=0
def tw7160088087970875811:=0
def tw721527864853433225:=0
def tw7232314267882363190:=0
def tw7246379900608573198:=0
def tw7262627206484140011:=0
def tw7275213859144605282:=0
def tw7315568923510228631:=0
def tw7342595214079687967:=0
def tw7383671083244104848:=0
def tw7399424236013144459:=0
def tw7413318964198995987:=0
def tw751372055329678654:=0
def tw7537624871152400336:=0
def tw7622580585585033206:=0
def tw7633551826692017560:=0
def tw7640425626885693672:=0
def tw7715461323014507747:=0
def tw773275482095595799:=0
def tw7733770977303029301:=0
def tw7741445543047581778:=0
def tw7806479427617181748:=0
def tw781328775498488186:=0
def tw7868392981936133426:=0
def tw788533811437685044:=0
def tw78979769351240654:=0
def tw7935597432466775368:=0
def tw7945424850325745362:=0
def tw7968764301259390729:=0
def tw7970736646379431122:=0
def tw7987618020220660162:=0
def tw7991648188489323662:=0
def tw8002901359770852862:=0
def tw8075038766306308892:=0
def tw8079616491748953287:=0
def tw8101005013303970400:=0
def tw8116388097627718452:=0
def tw8145882376749274516:=0
def tw8168757681968549661:=0
def tw8176601506163383180:=0
def tw8225920900173141322:=0
def tw8245088474469841237:=0
def tw8249163097867894168:=0
def tw8277869225598876778:=0
def tw8288907730600108309:=0
def tw8307097462918504333:=0
def tw831215543092112688:=0
def tw8379557378552981842:=0
def tw8404900061546580362:=0
def tw8414051942741383344:=0
def tw8459382025407663213:=0
def tw8465902441026331431:=0
def tw8469815983425963754:=0
def tw8494163448854156294:=0
def tw8547959741819261902:=0
def tw8575299182243039554:=0
def tw8644466097204380658:=0
def tw864619540851187203:=0
def tw8664207086088874982:=0
def tw8678217964987874110:=0
def tw8685470060046120948:=0
def tw8731779701237711083:=0
def tw8784216946660720274:=0
def tw8792777069649498141:=0
def tw8803859643215842444:=0
def tw8821604218394855148:=0
def tw8830901966877752997:=0
def tw8834429681476697256:=0
def tw8837465010863860520:=0
def tw8838043139711074683:=0
def tw8838108075314784646:=0
def tw8893541276624121447:=0
def tw8896349197597998591:=0
def tw8914984960408967487:=0
def tw8959844170693314414:=0
def tw901984319998827302:=0
def tw9041762656402658658:=0
def tw9087422990832100843:=0
def tw9106098169659976669:=0
def tw9112453438233075671:=0
def tw9123990307435620527:=0
def tw9210861248911497420:=0
def tw9237341019280830126:=0
def tw9242794349921668654:=0
def tw9242872446281544446:=0
def tw9281823130767360199:=0
def tw9287646100986342706:=0
def tw9298441684678703783:=0
def tw9354761675936002256:=0
def tw936247039665456400:=0
def tw9377894257812966896:=0
def tw9386520775695767427:=0
def tw9389549094235188960:=0
def tw9393977074443924229:=0
def tw9402667888772846705:=0
def tw9427268847424146267:=0
def tw9447713378002288553:=0
def tw9452484291650381124:=0
def tw9525862303242186651:=0
def tw9594650163963903334:=0
def tw9599768471356545825:=0
def tw9603410558679806799:=0
def tw9605067012836528226:=0
def tw9632142151386452619:=0
def tw9684363004844249432:=0
def tw9687104608327938223:=0
def tw9690515646282088893:=0
def tw9722146008308282528:=0
def tw9723421044735140492:=0
def tw9735184430740479250:=0
def tw973594704568013277:=0
def tw9740401210035129011:=0
def tw9754967874079960485:=0
def tw976403494625931664:=0
def tw9791887661791309761:=0
def tw9841213805254761859:=0
def tw9861443693442076585:=0
def tw9877654487097118164:=0
def tw9881513743433955394:=0
def tw9887599629432059747:=0
def tw989450318944933875:=0
def tw9930949120503691655:=0
def tw9951537963715291585:=0
def tw9975127840281474753:=0
def tw9997658113005834245:=0
end PySem.W.Fast
open PySem PySem.W PyProof.Rows
set_option maxRecDepth 100000 in
set_option maxHeartbeats 0 in
theorem PySem.Challenge.cw_dipmaps_k40_whole_cloths_to_one_holds : PySem.Challenge.rw_dipmaps_k40_whole_cloths_to_one.Holds := by
 w_on;o_law;k_head;(case hw=>w_witness2)
 k_fill
 refine DM.walk (l:=PySem.Challenge.rw_dipmaps_k40_whole_cloths_to_one) rfl rfl (fun w h Y=>PySem.W.kIn_of Y) ?F
 case F =>
   intro w mg fa h KX G hmg
   refine' DM.all_mk KX G hmg ?aCB ?aI ?iI ?lI ?cI ?kI ?aMS ?iMS ?lMS ?cMS ?kMS ?aMB ?iMB ?lMB ?cMB ?kMB ?aMT ?iMT ?lMT ?cMT ?kMT ?aMC ?iMC ?lMC ?cMC ?kMC ?aMH ?iMH ?lMH ?cMH ?kMH ?aMO ?iMO ?lMO ?cMO ?kMO ?pgB ?hdB ?poB ?saB ?mkB ?kcB ?naB_order ?naB_tables ?aCH ?aHI ?iHI ?lHI ?cHI ?kHI ?aHR ?iHR ?lHR ?cHR ?kHR ?aHQ ?iHQ ?lHQ ?cHQ ?kHQ ?aHB ?iHB ?lHB ?cHB ?kHB ?aHS ?iHS ?lHS ?cHS ?kHS ?aHT ?iHT ?lHT ?cHT ?kHT ?aHN ?iHN ?lHN ?cHN ?kHN ?aHC ?iHC ?lHC ?cHC ?kHC ?aHD ?iHD ?lHD ?cHD ?kHD ?pgH ?hdH ?poH ?saH ?mkH ?kcH ?naH_first_shades ?naH_day_now ?naH_standing ?naH_books_from ?aGd ?lGd ?cGd ?kGd ?aCn ?lCn ?cCn ?kCn ?aCs ?lCs ?cCs ?kCs ?aCo ?lCo ?cCo ?kCo ?aCb ?lCb ?cCb ?kCb ?aCD ?lCD ?cCD ?kCD ?aA ?lA ?cA ?kA ?aD ?lD ?cD ?kD ?aN ?lN ?cN ?kN ?aNs ?lNs ?cNs ?kNs ?aTu ?lTu ?cTu ?kTu ?aOu ?lOu ?cOu ?kOu ?aSh ?lSh ?cSh ?kSh ?aNd ?lNd ?cNd ?kNd ?aSz ?lSz ?cSz ?kSz ?aDn ?lDn ?cDn ?kDn ?aTa ?lTa ?cTa ?kTa ?aHd ?lHd ?cHd ?kHd ?aTI ?lTI ?cTI ?kTI ?aRw ?lRw ?cRw ?kRw ?aAE ?lAE ?cAE ?kAE ?aWR ?lWR ?cWR ?kWR ?aWB ?lWB ?cWB ?kWB ?aBO ?lBO ?cBO ?kBO ?aLO ?lLO ?cLO ?kLO ?aRB ?lRB ?cRB ?kRB ?aTx ?lTx ?cTx ?kTx ?aWa ?lWa ?cWa ?kWa ?aAP ?lAP ?cAP ?kAP ?aJR ?lJR ?cJR ?kJR ?aJS ?lJS ?cJS ?kJS ?aJD ?lJD ?cJD ?kJD ?aA1 ?lA1 ?cA1 ?kA1 ?aPr ?lPr ?cPr ?kPr ?aLo ?lLo ?cLo ?kLo ?aT1 ?lT1 ?cT1 ?kT1 ?aSk ?lSk ?cSk ?kSk ?aLD ?lLD ?cLD ?kLD ?aLP ?lLP ?cLP ?kLP ?aL ?lL ?cL ?kL ?aNoDay ?exND ?elND ?egND ?etND ?eaND ?emND ?ebND ?aLate ?exLa ?elLa ?egLa ?etLa ?eaLa ?emLa ?ebLa ?aNoCloth ?exNC ?elNC ?egNC ?etNC ?eaNC ?emNC ?ebNC ?aKnown ?exKn ?elKn ?egKn ?etKn ?eaKn ?emKn ?ebKn ?aBadName ?exBN ?elBN ?egBN ?etBN ?eaBN ?emBN ?ebBN ?aFull ?exFu ?elFu ?egFu ?etFu ?eaFu ?emFu ?ebFu ?aNoBath ?exNB ?elNB ?egNB ?etNB ?eaNB ?emNB ?ebNB ?aNoShade ?exNS ?elNS ?egNS ?etNS ?eaNS ?emNS ?ebNS ?eN1 ?eT1 ?zlen ?zall ?zrange ?zisinstance ?zlist ?zstr ?zsorted ?ztuple ?zdict ?zzip ?zset ?zmin ?zint ?zmax ?zbool ?zenumerate ?vlett ?vlong ?vmostS ?vmostB ?vfday ?vlday ?vmostC ?vmostD
   (case aCB=>k_is)
   (case aI=>k_is)
   (case iI=>k_is)
   (case lI=>k_is)
   (case cI=>k_is)
   (case kI=>k_is)
   (case aMS=>k_is)
   (case iMS=>k_is)
   (case lMS=>k_is)
   (case cMS=>k_is)
   (case kMS=>k_is)
   (case aMB=>k_is)
   (case iMB=>k_is)
   (case lMB=>k_is)
   (case cMB=>k_is)
   (case kMB=>k_is)
   (case aMT=>k_is)
   (case iMT=>k_is)
   (case lMT=>k_is)
   (case cMT=>k_is)
   (case kMT=>k_is)
   (case aMC=>k_is)
   (case iMC=>k_is)
   (case lMC=>k_is)
   (case cMC=>k_is)
   (case kMC=>k_is)
   (case aMH=>k_is)
   (case iMH=>k_is)
   (case lMH=>k_is)
   (case cMH=>k_is)
   (case kMH=>k_is)
   (case aMO=>k_is)
   (case iMO=>k_is)
   (case lMO=>k_is)
   (case cMO=>k_is)
   (case kMO=>k_is)
   (case pgB=>k_is)
   (case hdB=>k_is)
   (case poB=>k_is)
   (case saB=>k_is)
   (case mkB=>k_is)
   (case kcB=>k_is)
   (case naB_order=>k_is)
   (case naB_tables=>k_is)
   (case aCH=>k_is)
   (case aHI=>k_is)
   (case iHI=>k_is)
   (case lHI=>k_is)
   (case cHI=>k_is)
   (case kHI=>k_is)
   (case aHR=>k_is)
   (case iHR=>k_is)
   (case lHR=>k_is)
   (case cHR=>k_is)
   (case kHR=>k_is)
   (case aHQ=>k_is)
   (case iHQ=>k_is)
   (case lHQ=>k_is)
   (case cHQ=>k_is)
   (case kHQ=>k_is)
   (case aHB=>k_is)
   (case iHB=>k_is)
   (case lHB=>k_is)
   (case cHB=>k_is)
   (case kHB=>k_is)
   (case aHS=>k_is)
   (case iHS=>k_is)
   (case lHS=>k_is)
   (case cHS=>k_is)
   (case kHS=>k_is)
   (case aHT=>k_is)
   (case iHT=>k_is)
   (case lHT=>k_is)
   (case cHT=>k_is)
   (case kHT=>k_is)
   (case aHN=>k_is)
   (case iHN=>k_is)
   (case lHN=>k_is)
   (case cHN=>k_is)
   (case kHN=>k_is)
   (case aHC=>k_is)
   (case iHC=>k_is)
   (case lHC=>k_is)
   (case cHC=>k_is)
   (case kHC=>k_is)
   (case aHD=>k_is)
   (case iHD=>k_is)
   (case lHD=>k_is)
   (case cHD=>k_is)
   (case kHD=>k_is)
   (case pgH=>k_is)
   (case hdH=>k_is)
   (case poH=>k_is)
   (case saH=>k_is)
   (case mkH=>k_is)
   (case kcH=>k_is)
   (case naH_first_shades=>k_is)
   (case naH_day_now=>k_is)
   (case naH_standing=>k_is)
   (case naH_books_from=>k_is)
   (case aGd=>k_is)
   (case lGd=>k_is)
   (case cGd=>k_is)
   (case kGd=>k_is)
   (case aCn=>k_is)
   (case lCn=>k_is)
   (case cCn=>k_is)
   (case kCn=>k_is)
   (case aCs=>k_is)
   (case lCs=>k_is)
   (case cCs=>k_is)
   (case kCs=>k_is)
   (case aCo=>k_is)
   (case lCo=>k_is)
   (case cCo=>k_is)
   (case kCo=>k_is)
   (case aCb=>k_is)
   (case lCb=>k_is)
   (case cCb=>k_is)
   (case kCb=>k_is)
   (case aCD=>k_is)
   (case lCD=>k_is)
   (case cCD=>k_is)
   (case kCD=>k_is)
   (case aA=>k_is)
   (case lA=>k_is)
   (case cA=>k_is)
   (case kA=>k_is)
   (case aD=>k_is)
   (case lD=>k_is)
   (case cD=>k_is)
   (case kD=>k_is)
   (case aN=>k_is)
   (case lN=>k_is)
   (case cN=>k_is)
   (case kN=>k_is)
   (case aNs=>k_is)
   (case lNs=>k_is)
   (case cNs=>k_is)
   (case kNs=>k_is)
   (case aTu=>k_is)
   (case lTu=>k_is)
   (case cTu=>k_is)
   (case kTu=>k_is)
   (case aOu=>k_is)
   (case lOu=>k_is)
   (case cOu=>k_is)
   (case kOu=>k_is)
   (case aSh=>k_is)
   (case lSh=>k_is)
   (case cSh=>k_is)
   (case kSh=>k_is)
   (case aNd=>k_is)
   (case lNd=>k_is)
   (case cNd=>k_is)
   (case kNd=>k_is)
   (case aSz=>k_is)
   (case lSz=>k_is)
   (case cSz=>k_is)
   (case kSz=>k_is)
   (case aDn=>k_is)
   (case lDn=>k_is)
   (case cDn=>k_is)
   (case kDn=>k_is)
   (case aTa=>k_is)
   (case lTa=>k_is)
   (case cTa=>k_is)
   (case kTa=>k_is)
   (case aHd=>k_is)
   (case lHd=>k_is)
   (case cHd=>k_is)
   (case kHd=>k_is)
   (case aTI=>k_is)
   (case lTI=>k_is)
   (case cTI=>k_is)
   (case kTI=>k_is)
   (case aRw=>k_is)
   (case lRw=>k_is)
   (case cRw=>k_is)
   (case kRw=>k_is)
   (case aAE=>k_is)
   (case lAE=>k_is)
   (case cAE=>k_is)
   (case kAE=>k_is)
   (case aWR=>k_is)
   (case lWR=>k_is)
   (case cWR=>k_is)
   (case kWR=>k_is)
   (case aWB=>k_is)
   (case lWB=>k_is)
   (case cWB=>k_is)
   (case kWB=>k_is)
   (case aBO=>k_is)
   (case lBO=>k_is)
   (case cBO=>k_is)
   (case kBO=>k_is)
   (case aLO=>k_is)
   (case lLO=>k_is)
   (case cLO=>k_is)
   (case kLO=>k_is)
   (case aRB=>k_is)
   (case lRB=>k_is)
   (case cRB=>k_is)
   (case kRB=>k_is)
   (case aTx=>k_is)
   (case lTx=>k_is)
   (case cTx=>k_is)
   (case kTx=>k_is)
   (case aWa=>k_is)
   (case lWa=>k_is)
   (case cWa=>k_is)
   (case kWa=>k_is)
   (case aAP=>k_is)
   (case lAP=>k_is)
   (case cAP=>k_is)
   (case kAP=>k_is)
   (case aJR=>k_is)
   (case lJR=>k_is)
   (case cJR=>k_is)
   (case kJR=>k_is)
   (case aJS=>k_is)
   (case lJS=>k_is)
   (case cJS=>k_is)
   (case kJS=>k_is)
   (case aJD=>k_is)
   (case lJD=>k_is)
   (case cJD=>k_is)
   (case kJD=>k_is)
   (case aA1=>k_is)
   (case lA1=>k_is)
   (case cA1=>k_is)
   (case kA1=>k_is)
   (case aPr=>k_is)
   (case lPr=>k_is)
   (case cPr=>k_is)
   (case kPr=>k_is)
   (case aLo=>k_is)
   (case lLo=>k_is)
   (case cLo=>k_is)
   (case kLo=>k_is)
   (case aT1=>k_is)
   (case lT1=>k_is)
   (case cT1=>k_is)
   (case kT1=>k_is)
   (case aSk=>k_is)
   (case lSk=>k_is)
   (case cSk=>k_is)
   (case kSk=>k_is)
   (case aLD=>k_is)
   (case lLD=>k_is)
   (case cLD=>k_is)
   (case kLD=>k_is)
   (case aLP=>k_is)
   (case lLP=>k_is)
   (case cLP=>k_is)
   (case kLP=>k_is)
   (case aL=>k_is)
   (case lL=>k_is)
   (case cL=>k_is)
   (case kL=>k_is)
   (case aNoDay=>k_is)
   (case exND=>k_exc)
   (case elND=>k_is)
   (case egND=>k_is)
   (case etND=>k_is)
   (case eaND=>k_is)
   (case emND=>k_is)
   (case ebND=>k_is)
   (case aLate=>k_is)
   (case exLa=>k_exc)
   (case elLa=>k_is)
   (case egLa=>k_is)
   (case etLa=>k_is)
   (case eaLa=>k_is)
   (case emLa=>k_is)
   (case ebLa=>k_is)
   (case aNoCloth=>k_is)
   (case exNC=>k_exc)
   (case elNC=>k_is)
   (case egNC=>k_is)
   (case etNC=>k_is)
   (case eaNC=>k_is)
   (case emNC=>k_is)
   (case ebNC=>k_is)
   (case aKnown=>k_is)
   (case exKn=>k_exc)
   (case elKn=>k_is)
   (case egKn=>k_is)
   (case etKn=>k_is)
   (case eaKn=>k_is)
   (case emKn=>k_is)
   (case ebKn=>k_is)
   (case aBadName=>k_is)
   (case exBN=>k_exc)
   (case elBN=>k_is)
   (case egBN=>k_is)
   (case etBN=>k_is)
   (case eaBN=>k_is)
   (case emBN=>k_is)
   (case ebBN=>k_is)
   (case aFull=>k_is)
   (case exFu=>k_exc)
   (case elFu=>k_is)
   (case egFu=>k_is)
   (case etFu=>k_is)
   (case eaFu=>k_is)
   (case emFu=>k_is)
   (case ebFu=>k_is)
   (case aNoBath=>k_is)
   (case exNB=>k_exc)
   (case elNB=>k_is)
   (case egNB=>k_is)
   (case etNB=>k_is)
   (case eaNB=>k_is)
   (case emNB=>k_is)
   (case ebNB=>k_is)
   (case aNoShade=>k_is)
   (case exNS=>k_exc)
   (case elNS=>k_is)
   (case egNS=>k_is)
   (case etNS=>k_is)
   (case eaNS=>k_is)
   (case emNS=>k_is)
   (case ebNS=>k_is)
   (case eN1=>k_is)
   (case eT1=>k_is)
   (case zlen=>k_is)
   (case zall=>k_is)
   (case zrange=>k_is)
   (case zisinstance=>k_is)
   (case zlist=>k_is)
   (case zstr=>k_is)
   (case zsorted=>k_is)
   (case ztuple=>k_is)
   (case zdict=>k_is)
   (case zzip=>k_is)
   (case zset=>k_is)
   (case zmin=>k_is)
   (case zint=>k_is)
   (case zmax=>k_is)
   (case zbool=>k_is)
   (case zenumerate=>k_is)
   (case vlett=>k_is)
   (case vlong=>k_is)
   (case vmostS=>k_is)
   (case vmostB=>k_is)
   (case vfday=>k_is)
   (case vlday=>k_is)
   (case vmostC=>k_is)
   (case vmostD=>k_is)

