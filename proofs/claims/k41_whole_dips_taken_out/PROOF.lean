import PyProof.Rows.All
import Wide.All
import OpenK.AllK
import Wide.FinOn
import Lean
import PyProof.EqAt
import PyProof.EqKinds
import PyProof.TupleCall
import PySem.Challenge.RW_dipmaps_k41_whole_dips_taken_out
set_option Elab.async false
set_option linter.all false
set_option maxRecDepth 100000
/-! THE HAND LAYER,for ints,bools,texts,own classes,LISTS and tuples (index,slices,in,append,pop ..),calls,loops. Paste it whole ahead of your own text;what your proof does not reach may be deleted. -/
namespace L2
open PySem PySem.Spec PyProof.Rows

abbrev Key:=Sum Int Str
def il:Key→Value→Bool
 | .inl k,v=>Value.isInt k v
 | .inr x,v=>Value.isStrOf x v
def w8 (w:World):Key→Int
 | .inl k=>hashInt k
 | .inr x=>hashStr w x
theorem bw:∀ {k:Key}{v:Value},il k v=true→(∃ i t,k=Sum.inl i∧v=Value.int i t)∨(∃ x t,k=Sum.inr x∧v=Value.str x t)
 | .inl i,v,h=>by
   obtain⟨t,e⟩:=Value.isInt_shape (k:=i) (v:=v) h
   exact .inl ⟨i,t,rfl,e⟩
 | .inr x,v,h=>by
   obtain⟨t,e⟩:=Value.isStrOf_shape (x:=x) (v:=v) h
   exact .inr ⟨x,t,rfl,e⟩
theorem pD (i:Int)(t:Tok):il (.inl i) (.int i t)=true:=by simp[il,Value.isInt]
theorem qr (x:Str)(t:Tok):il (.inr x) (.str x t)=true:=by simp[il,Value.isStrOf]
theorem va (a b:Int):decide ((Sum.inl a:Key)=Sum.inl b)=(a==b):=by
 by_cases e:a=b
 · subst e;simp
 · have h:¬(Sum.inl a:Key)=Sum.inl b:=fun q=>e (Sum.inl.inj q)
   rw[decide_eq_false h]
   exact(beq_eq_false_iff_ne.mpr e).symm
theorem u4 (a b:Str):decide ((Sum.inr a:Key)=Sum.inr b)=decide (a=b):=by
 by_cases e:a=b
 · subst e;simp
 · have h:¬(Sum.inr a:Key)=Sum.inr b:=fun q=>e (Sum.inr.inj q)
   rw[decide_eq_false h,decide_eq_false e]
theorem u5 (a:Int) (b:Str):decide ((Sum.inl a:Key)=Sum.inr b)=false:=decide_eq_false (fun q=>nomatch q)
theorem vG (a:Str) (b:Int):decide ((Sum.inr a:Key)=Sum.inl b)=false:=decide_eq_false (fun q=>nomatch q)

def bE (prog:Program)(w:World):PySem.KeyKind prog w Key where
 is:=il
 hash:=w8 w
 inj:=fun v a b ha hb=>by
   rcases bw ha with ⟨i,t,rfl,rfl⟩ | ⟨x,t,rfl,rfl⟩
   · rcases bw hb with ⟨j,u,rfl,e⟩ | ⟨y,u,rfl,e⟩
     · injection e with e1 _;rw[e1]
     · exact nomatch e
   · rcases bw hb with ⟨j,u,rfl,e⟩ | ⟨y,u,rfl,e⟩
     · exact nomatch e
     · injection e with e1 _;rw[e1]
 byValue:=fun k v h=>by
   rcases bw h with ⟨i,t,rfl,rfl⟩ | ⟨x,t,rfl,rfl⟩<;>rfl
 pyHash:=fun hv h=>by
   rcases bw hv with ⟨i,t,rfl,rfl⟩ | ⟨x,t,rfl,rfl⟩
   · exact wpAny_pyHash_int h
   · exact wpAny_pyHash_str h
 eqBool:=fun hu hv h=>by
   rcases bw hu with ⟨i,t,rfl,rfl⟩ | ⟨x,t,rfl,rfl⟩
   · rcases bw hv with ⟨j,u,rfl,rfl⟩ | ⟨y,u,rfl,rfl⟩
     · rw[va] at h;exact wpAny_eqBool_int h
     · rw[u5] at h;exact SeqAt.EqAt.int_str i t y u _ _ _ _ h
   · rcases bw hv with ⟨j,u,rfl,rfl⟩ | ⟨y,u,rfl,rfl⟩
     · rw[vG] at h;exact SeqAt.EqAt.str_int x t j u _ _ _ _ h
     · rw[u4] at h;exact wpAny_eqBool_str h
 «strs»:=fun k x t v h=>by
   rcases bw h with ⟨i,u,rfl,e⟩ | ⟨y,u,rfl,e⟩
   · exact nomatch e
   · injection e with e1 _
     subst e1
     cases v<;>rfl

theorem mj (prog:Program)(w:World) (i:Int)(t:Tok):(bE prog w).is (.inl i) (.int i t)=true:=pD i t
theorem iu (prog:Program)(w:World) (x:Str)(t:Tok):(bE prog w).is (.inr x) (.str x t)=true:=qr x t
end L2

namespace L2
open PySem PySem.Spec PyProof.Rows

inductive V where
 | non | bl (b:Bool) | int (i:Int) | str (x:Str) | byt (b:Array UInt8) | flt (b:UInt64) | ref (a:Addr) | ty (n:String)
 deriving DecidableEq

def aW:V→Value→Prop
 | .non,u=>u=Value.none
 | .bl b,u=>u=Value.bool b
 | .int i,u=>∃ t,u=Value.int i t
 | .str x,u=>∃ t,u=Value.str x t
 | .byt b,u=>∃ t,u=Value.bytes b t
 | .flt b,u=>∃ t,u=Value.float b t
 | .ref a,u=>u=Value.ref a
 | .ty n,u=>u=Value.type n

abbrev Vals:List V→List Value→Prop:=Paired aW
theorem Vals.length {xs:List V}{us:List Value}(r:Vals xs us):xs.length=us.length:=Paired.length r
theorem Vals.get:∀ {xs:List V}{us:List Value}{i:Nat}{x:V},Vals xs us→xs[i]?=some x→∃ u,us[i]?=some u∧aW x u
 | _,_,_,_,.nil,e=>by simp at e
 | _,_,0,_,.cons r _,e=>by simp at e;subst e;exact⟨_,rfl,r⟩
 | _,_,i+1,x,.cons _ t,e=>by
   obtain⟨u,h1,h2⟩:=Vals.get (i:=i) (x:=x) t (by simpa using e)
   exact⟨u,by simpa using h1,h2⟩
theorem Vals.set {x:V}{u:Value}(r:aW x u):∀ {xs:List V}{us:List Value} (i:Nat),Vals xs us→Vals (xs.set i x) (us.set i u)
 | _,_,_,.nil=>.nil
 | _,_,0,.cons _ t=>.cons r t
 | _,_,i+1,.cons q t=>.cons q (Vals.set r i t)
theorem Vals.append:∀ {xs ys:List V}{us ws:List Value},Vals xs us→Vals ys ws→Vals (xs++ys) (us++ws)
 | _,_,_,_,.nil,s=>s
 | _,_,_,_,.cons r t,s=>.cons r (Vals.append t s)
theorem Vals.take:∀ {xs:List V}{us:List Value} (n:Nat),Vals xs us→Vals (xs.take n) (us.take n)
 | _,_,0,_=>.nil
 | _,_,_+1,.nil=>.nil
 | _,_,n+1,.cons r t=>.cons r (Vals.take n t)
theorem Vals.drop:∀ {xs:List V}{us:List Value} (n:Nat),Vals xs us→Vals (xs.drop n) (us.drop n)
 | _,_,0,r=>r
 | _,_,_+1,.nil=>.nil
 | _,_,n+1,.cons _ t=>Vals.drop n t
def fX:Option V→Option Value→Prop
 | some v,some u=>aW v u
 | none,none=>True
 | _,_=>False
def KV {κ:Type}:List (κ×V)→List (κ×Value)→Prop:=Paired fun(p:κ×V)(q:κ×Value)=>p.1=q.1∧aW p.2 q.2

def kV:Key→V
 | .inl i=>.int i
 | .inr x=>.str x

inductive HO where
 | lst (xs:List V)
 | tup (xs:List V)
 | dK (kvs:List (Key×V)) | dT (kvs:List (List Key×V))
 | set (S:Int→Bool) (n:Nat)
 | ins (C dx:Addr)(fs:List (Str×V))
 | own (x:Addr)
 | xd (fs:List (Str×V))
 | met (f x:Addr)
 | rng (lo hi:Int)
 | frz (o:Obj)(u:HO)
 | tbl (ps:Array Value)
 | ext (φ:Heap→Prop)

abbrev Hp:=Addr→Option HO
def upd (H:Hp)(a:Addr)(o:HO):Hp:=fun b=>if b=a then some o else H b
theorem ac {H:Hp}{a:Addr}{o:HO}:upd H a o a=some o:=by unfold upd;rw[if_pos rfl]
theorem ai {H:Hp}{a b:Addr}{o:HO}(h:b≠a):upd H a o b=H b:=by unfold upd;rw[if_neg h]
theorem iR {H:Hp}{a:Addr}{o u:HO}:upd (upd H a o) a u=upd H a u:=by
 funext b;unfold upd;split<;>rfl
theorem wH {H:Hp}{a b:Addr}{o u:HO}(h:H a=some o)(h':H b=some u)(d:o≠u):a≠b:=by
 intro e;subst e;rw[h] at h';exact d (Option.some.inj h')
theorem ak {H:Hp}{a b:Addr}{o:HO}(h:H a=some o)(h':H b=none):a≠b:=by
 intro e;subst e;rw[h] at h';cases h'

section
variable (P:Program)(w:World)
def bF (H:Hp)(h:Heap)(a:Addr):HO→Prop
 | .lst xs=>xs.length≤sizeLine∧∃ (its:List Value) (n:Nat),Vals xs its∧h.get? a=some { cls:=.type "list",data:=.seq its.toArray n }
 | .tup xs=>xs.length≤sizeLine∧∃ its:List Value,Vals xs its∧IsTup h a its.toArray
 | .dK kvs=>kvs.length≤sizeLine∧(a==sysModules)=false∧∃ vs,KV kvs vs∧h.DictOf (bE P w) a vs
 | .dT kvs=>kvs.length≤sizeLine∧(a==sysModules)=false∧∃ xs:List (List Key×Addr×Value),
     Paired (fun(p:List Key×V)(q:List Key×Addr×Value)=>p.1=q.1∧H q.2.1=some (.tup (p.1.map kV))∧aW p.2 q.2.2) kvs xs ∧
     ∃ o es ep,h.get? a=some o∧o.ExactDict∧o.data=.dict es ep∧es.toList=xs.map (entryOfKey (tupleKind (bE P w)))∧(xs.map (·.1)).Nodup
 | .set S n=>h.SetOf (intKind P w) a S n
 | .ins C dx fs=>H dx=some (.own a)∧fs.length≤1000∧dx≠a∧h.get? a=some (PySem.W.instObj C dx) ∧
     ∃ mA,h.Ns1 dx mA∧(∀ f,fX (fs.lookup f) (mA f))∧PySem.Within mA (fs.map (·.1))
 | .own _=>∃ o,h.get? a=some o
 | .xd fs=>∃ mA,h.Ns1 a mA∧∀ f,fX (fs.lookup f) (mA f)
 | .rng lo hi=>∃ t u v,h.get? a=some { cls:=.type "range",data:=.fields #[.int lo t,.int hi u,.int 1 v] }
 | .frz o u=>h.get? a=some o∧bF H h a u
 | .tbl ps=>h.get? a=some { cls:=.none,data:=.fields ps }
 | .met f x=>h.get? a=some (PySem.W.methodObj (.ref f) (.ref x))
 | .ext φ=>φ h∧(∃ o,h.get? a=some o)∧∀ h1 h2:Heap,φ h1→(∀ o,h1.get? a=some o→h2.get? a=some o)→φ h2
def HOk (H:Hp)(h:Heap):Prop:=∀ a o,H a=some o→bF P w H h a o
end

section
variable {P:Program}{w:World}{H H':Hp}{h h':Heap}{a:Addr}{o:HO}
theorem bF.lt (x:bF P w H h a o):a < h.objs.size:=by
 cases o with
 | lst xs=>obtain⟨_,_,_,_,e⟩:=x;exact Heap.lt_size e
 | tup xs=>obtain⟨_,_,_,p⟩:=x;exact p.lt
 | dK kvs=>obtain⟨_,_,_,_,o,_,_,e,_⟩:=x;exact Heap.lt_size e
 | dT kvs=>obtain⟨_,_,_,_,o,_,_,e,_⟩:=x;exact Heap.lt_size e
 | set S n=>obtain⟨o,_,_,_,e,_⟩:=x;exact Heap.lt_size e
 | ins C dx fs=>obtain⟨_,_,_,e,_⟩:=x;exact Heap.lt_size e
 | own y=>obtain⟨_,e⟩:=x;exact Heap.lt_size e
 | xd fs=>obtain⟨_,⟨_,_,_,e,_⟩,_⟩:=x;exact Heap.lt_size e
 | rng lo hi=>obtain⟨_,_,_,e⟩:=x;exact Heap.lt_size e
 | frz ob u=>obtain⟨e,_⟩:=x;exact Heap.lt_size e
 | tbl ps=>exact Heap.lt_size (show h.get? a=some _ from x)
 | met f y=>exact Heap.lt_size (show h.get? a=some _ from x)
 | ext φ=>obtain⟨_,⟨_,e⟩,_⟩:=x;exact Heap.lt_size e
theorem Paired.mapP {α β:Type}{F G:α→β→Prop}:∀ {l₁:List α}{l₂:List β},Paired F l₁ l₂→(∀ a b,F a b→G a b)→Paired G l₁ l₂
 | _,_,.nil,_=>.nil
 | _,_,.cons r t,f=>.cons (f _ _ r) (Paired.mapP t f)
theorem bF.stay (x:bF P w H h a o)(k:∀ b u,(b=a∨H b=some (.own a))→h.get? b=some u→h'.get? b=some u)
   (ho:∀ b,H b=some (.own a)→H' b=some (.own a))(ht:∀ b xs,H b=some (.tup xs)→H' b=some (.tup xs)):bF P w H' h' a o:=by
 induction o with
 | lst xs=>obtain⟨z,its,n,r,e⟩:=x;exact⟨z,its,n,r,k _ _ (.inl rfl) e⟩
 | tup xs=>obtain⟨z,its,r,ob,e,c⟩:=x;exact⟨z,its,r,ob,k _ _ (.inl rfl) e,c⟩
 | dK kvs=>obtain⟨z,y,vs,r,ob,es,ep,e,c⟩:=x;exact⟨z,y,vs,r,ob,es,ep,k _ _ (.inl rfl) e,c⟩
 | dT kvs =>
   obtain⟨z,y,xs,r,ob,es,ep,e,c⟩:=x
   exact⟨z,y,xs,Paired.mapP r fun p q z=>⟨z.1,ht _ _ z.2.1,z.2.2⟩,ob,es,ep,k _ _ (.inl rfl) e,c⟩
 | set S n=>obtain⟨ob,es,ep,t,e,c⟩:=x;exact⟨ob,es,ep,t,k _ _ (.inl rfl) e,c⟩
 | ins C dx fs =>
   obtain⟨d,z,ne,e,mA,⟨od,es,ep,e2,c⟩,r⟩:=x
   exact⟨ho _ d,z,ne,k _ _ (.inl rfl) e,mA,⟨od,es,ep,k _ _ (.inr d) e2,c⟩,r⟩
 | own y=>obtain⟨ob,e⟩:=x;exact⟨ob,k _ _ (.inl rfl) e⟩
 | xd fs=>obtain⟨mA,⟨od,es,ep,e,c⟩,r⟩:=x;exact⟨mA,⟨od,es,ep,k _ _ (.inl rfl) e,c⟩,r⟩
 | rng lo hi=>obtain⟨t,u,v,e⟩:=x;exact⟨t,u,v,k _ _ (.inl rfl) e⟩
 | frz ob u ih=>obtain⟨e,q⟩:=x;exact⟨k _ _ (.inl rfl) e,ih q⟩
 | tbl ps =>
   have e:h.get? a=some { cls:=.none,data:=.fields ps }:=x
   show h'.get? a=some { cls:=.none,data:=.fields ps }
   exact k a _ (.inl rfl) e
 | met f y =>
   have e:h.get? a=some (PySem.W.methodObj (.ref f) (.ref y)):=x
   show h'.get? a=some (PySem.W.methodObj (.ref f) (.ref y))
   exact k a _ (.inl rfl) e
 | ext φ=>obtain⟨p,⟨o,e⟩,st⟩:=x;exact⟨st _ _ p fun o q=>k _ _ (.inl rfl) q,⟨o,k _ _ (.inl rfl) e⟩,st⟩
theorem HOk.lt (x:HOk P w H h)(e:H a=some o):a < h.objs.size:=(x a o e).lt
theorem HOk.fresh (x:HOk P w H h)(e:h.objs.size≤a):H a=none:=by
 cases q:H a with
 | none=>rfl
 | some u=>exact absurd (Nat.lt_of_lt_of_le (x.lt q) e) (Nat.lt_irrefl _)
theorem HOk.kept (x:HOk P w H h)(k:∀ b u,h.get? b=some u→h'.get? b=some u):HOk P w H h':=fun a o e =>
 (x a o e).stay (fun b u _ q=>k b u q) (fun _ q=>q) fun _ _ q=>q
theorem HOk.laid (x:HOk P w H h)(k:∀ b u,h.get? b=some u→h'.get? b=some u)(hp:h.objs.size≤a)(new:bF P w (upd H a o) h' a o):HOk P w (upd H a o) h':=fun b u e=>by
 have hn:=x.fresh hp
 by_cases hb:b=a
 · subst hb;rw[ac] at e;cases e;exact new
 · rw[ai hb] at e
   exact(x b u e).stay (fun c v _ q=>k c v q) (fun c q=>by rw[ai (ak q hn)];exact q) fun c xs q=>by rw[ai (ak q hn)];exact q
end

def Rd (H:Hp)(a:Addr)(u:HO):Prop:=H a=some u∨∃ o,H a=some (.frz o u)
theorem Rd.ok {P:Program}{w:World}{H:Hp}{h:Heap}{a:Addr}{u:HO}(r:Rd H a u)(x:HOk P w H h):bF P w H h a u:=by
 rcases r with r | ⟨o,r⟩
 · exact x a u r
 · obtain⟨_,q⟩:=x a _ r
   exact q
def Mut:Option HO→Prop
 | some (.lst _)=>True
 | some (.dK _)=>True
 | some (.dT _)=>True
 | some (.set _ _)=>True
 | some (.ins _ _ _)=>True
 | some (.ext _)=>True
 | _=>False
section
variable {P:Program}{w:World}{H:Hp}{h h':Heap}{x e:Addr}{o':HO}
theorem HOk.write (ok:HOk P w H h)(mu:Mut (H x))(he:e=x∨H e=some (.own x))(k:∀ b u,b≠e→h.get? b=some u→h'.get? b=some u)(heo:∃ u,h'.get? e=some u)
   (new:bF P w (upd H x o') h' x o'):HOk P w (upd H x o') h':=fun b u q=>by
 have nown:∀ c y,H c=some (.own y)→c≠x:=fun c y r z=>by subst z;rw[r] at mu;exact mu
 have ntup:∀ c xs,H c=some (.tup xs)→c≠x:=fun c xs r z=>by subst z;rw[r] at mu;exact mu
 by_cases hb:b=x
 · subst hb;rw[ac] at q;cases q;exact new
 · rw[ai hb] at q
   by_cases hbe:b=e
   · have q':H b=some (.own x):=by
       rcases he with z | z
       · exact absurd (hbe.trans z) hb
       · rw[hbe];exact z
     rw[q] at q';cases q'
     obtain⟨v,hv⟩:=heo
     exact⟨v,by rw[hbe];exact hv⟩
   · refine(ok b u q).stay (fun c v hc r=>k c v ?_ r) (fun c r=>by rw[ai (nown c b r)];exact r) fun c xs r=>by rw[ai (ntup c xs r)];exact r
     rcases hc with rfl | hc
     · exact hbe
     · rintro rfl
       rcases he with z | z
       · exact nown c b hc z
       · rw[hc] at z;cases z;exact hb rfl
end

/-! ### kept unless tracked;of the frames at fs (the callers') the slots may change (an exception that passes writes there);of the records at ex (iterators) nothing is said -/
structure Un (fs ex:List Addr)(H H':Hp)(h h':Heap):Prop where
 keep:∀ b o,h.get? b=some o→H b=none→b∉fs→b∉ex→h'.get? b=some o
 slot:∀ b o,h.get? b=some o→H b=none→b∈fs→b∉ex→∃ sl,h'.get? b=some { o with slots:=sl }
 free:∀ b o,h.get? b=some o→H b=none→b∉ex→H' b=none
 there:∀ b o,h.get? b=some o→b∉ex→∃ o',h'.get? b=some o'
 tups:∀ b xs,H b=some (.tup xs)→H' b=some (.tup xs)
 frzs:∀ b o u,H b=some (.frz o u)→H' b=some (.frz o u)
 tbls:∀ b ps,H b=some (.tbl ps)→∃ more,H' b=some (.tbl (ps++more))
section
variable {fs fs' ex ex':List Addr}{H H1 H2:Hp}{h h1 h2 h':Heap}{a x e:Addr}{o:HO}
theorem Un.any (u:Un fs ex H H1 h h1){b:Addr}{ob:Obj}(q:h.get? b=some ob)(n:H b=none)(hx:b∉ex):∃ sl,h1.get? b=some { ob with slots:=sl }:=by
 by_cases hb:b∈fs
 · exact u.slot b ob q n hb hx
 · exact⟨ob.slots,u.keep b ob q n hb hx⟩
theorem Un.kept (k:∀ b u,h.get? b=some u→h'.get? b=some u):Un fs ex H H h h' :=
 ⟨fun b ob q _ _ _=>k b ob q,fun b ob q _ _ _=>⟨ob.slots,k b ob q⟩,fun _ _ _ n _=>n,fun b ob q _=>⟨ob,k b ob q⟩,fun _ _ q=>q,fun _ _ _ q=>q,fun _ ps q=>⟨#[],by rw[q];simp⟩⟩
theorem Un.refl:Un fs ex H H h h:=Un.kept fun _ _ q=>q
theorem Un.laid (k:∀ b u,h.get? b=some u→h'.get? b=some u)(hp:h.objs.size≤a)(hn:H a=none):Un fs ex H (upd H a o) h h' where
 keep:=fun b u q _ _ _=>k b u q
 slot:=fun b u q _ _ _=>⟨u.slots,k b u q⟩
 free:=fun b u q n _=>by rw[ai (Nat.ne_of_lt (Nat.lt_of_lt_of_le (Heap.lt_size q) hp))];exact n
 there:=fun b u q _=>⟨u,k b u q⟩
 tups:=fun b xs q=>by rw[ai (ak q hn)];exact q
 frzs:=fun b u xs q=>by rw[ai (ak q hn)];exact q
 tbls:=fun b ps q=>⟨#[],by rw[ai (ak q hn),q];simp⟩
theorem Un.write (mu:Mut (H x))(he:e=x∨H e=some (.own x))(k:∀ b u,b≠e→h.get? b=some u→h'.get? b=some u)(heo:∃ u,h'.get? e=some u):Un fs ex H (upd H x o) h h':=by
 have hx:∀ b,H b=none→b≠x:=fun b n z=>by subst z;rw[n] at mu;exact mu
 have hb:∀ b,H b=none→b≠e:=fun b n z=>by
   subst z
   rcases he with r | r
   · exact hx b n r
   · rw[n] at r;cases r
 have hm:∀ b u,H b=some u→¬Mut (some u)→b≠x:=fun b u q nm z=>by subst z;rw[q] at mu;exact nm mu
 refine⟨fun b u q n _ _=>k b u (hb b n) q,fun b u q n _ _=>⟨u.slots,k b u (hb b n) q⟩,fun b u q n _=>by rw[ai (hx b n)];exact n,fun b u q _=>?_,
   fun b xs q=>by rw[ai (hm b _ q fun z=>z)];exact q,fun b u xs q=>by rw[ai (hm b _ q fun z=>z)];exact q,fun b ps q=>⟨#[],by rw[ai (hm b _ q fun z=>z),q];simp⟩⟩
 by_cases hbe:b=e
 · subst hbe;exact heo
 · exact⟨u,k b u hbe q⟩
end

/-! ### the heap without what is tracked -/
def trk (h:Heap)(H:Hp):List Addr:=(List.range h.objs.size).filter fun a=>(H a).isSome
def li (h:Heap)(H:Hp):Heap:=PySem.W.hideAll h (trk h H)
theorem pJ (h:Heap)(H:Hp):(li h H).objs.size=h.objs.size:=PySem.W.hideAll_size _ _
theorem rZ {h:Heap}{H:Hp}{b:Addr}{o:Obj}(e:h.get? b=some o)(n:H b=none):(li h H).get? b=some o :=
 PySem.W.hideAll_get _ e fun hm=>by
   have q:(H b).isSome=true:=(List.mem_filter.mp hm).2
   rw[n] at q;simp at q
theorem tK {h:Heap}{H:Hp}{b:Addr}{o:Obj}(e:(li h H).get? b=some o):h.get? b=some o∧H b=none:=by
 have e':h.get? b=some o:=PySem.W.of_hideAll (trk h H) e
 refine⟨e',?_⟩
 cases q:H b with
 | none=>rfl
 | some x =>
   have hm:b∈trk h H:=List.mem_filter.mpr ⟨List.mem_range.mpr (Heap.lt_size e'),by simp[q]⟩
   have z:(li h H).get? b=none:=PySem.W.hideAll_none (trk h H) hm
   rw[z] at e;cases e

/-! ### OpenK's ledger,filled with every new object but one -/
def uv (g h:Heap)(L:Addr):List (Addr×Obj):=(List.range h.objs.size).filterMap fun a=>if a=L∨(g.get? a).isSome=true then none else(h.get? a).map fun o=>(a,o)
def ck (g h:Heap)(L d:Addr):List (Addr×Obj):=(uv g h L).filter fun p=>decide (p.1≠d)
end L2

namespace L2
open PySem PySem.Spec PyProof.Rows

structure Mod (K:PySem.W.Frag)(mg:Str→Option Value)(base:Heap):Prop where
 kin:K.In base
 glob:base.Ns mainGlobals mg
 blt:∃ mb,base.Ns builtinsNs mb∧∀ x:Str,x≠"__name__"→mb x=bootBuiltins x
 nolimit:base.NoLimit

structure Cx where
 prog:Program
 w:World
 K:PySem.W.Frag
 mg:Str→Option Value
 base:Heap
 A:Around
 N:List Str
 s₀:Shared
 H₀:Hp
 env:Env
 outer:List Env
 stack:List Env
 ex:List Addr
 fn:Str→Bool
 calm:Bool
 pn:List (Addr×Obj)
 xe:Value→Shared→Prop
def frs (l:List Env):List Addr:=l.filterMap (·.frame)
abbrev Cx.fs (X:Cx):List Addr:=frs X.outer

def Vis (sc:Scope) (x:Str):Prop:=sc.names.lookup x=some .local∨sc.names.lookup x=some .cell∨sc.names.lookup x=some .free
def Loc (sc:Scope) (x:Str):Prop:=sc.names.lookup x=some .local∨sc.names.lookup x=some .cell
def wX (env:Env)(h:Heap)(m:Str→Option Value) (x:Str) (u:Value):Prop :=
 (env.kindOf x=some .local∧m x=some u)∨((env.kindOf x=some .cell∨env.kindOf x=some .free)∧∃ c,env.cells.lookup x=some c∧h.IsCell c (some u))

structure Cx.Ok (X:Cx):Prop where
 mod:Mod X.K X.mg X.base
 kind:X.env.scope.kind=.function
 glob:X.env.globals=mainGlobals
 blt:X.env.builtins=builtinsNs
 above:X.s₀.heap.objs.size≤X.env.locals
 inj:∀ x y c,X.env.cells.lookup x=some c→X.env.cells.lookup y=some c→x=y
 has:∀ x,(X.env.kindOf x=some .cell∨X.env.kindOf x=some .free)→∃ c,X.env.cells.lookup x=some c
 cab:∀ x c,X.fn x=true→X.env.cells.lookup x=some c→X.s₀.heap.objs.size≤c
 hd:X.calm=true→X.A.handled=none
 frames:X.A.frames=some X.stack
 stk:X.stack=X.outer∨(X.stack=X.env::X.outer∧X.env.frame=some X.env.locals)
 exf:∀ b∈X.ex,b≠X.env.locals∧∀ x c,X.env.cells.lookup x=some c→c≠b
 bs:∀ b o,X.base.get? b=some o→X.s₀.heap.get? b=some o∧X.H₀ b=none
 bsz:X.base.objs.size≤X.s₀.heap.objs.size
 noex:∀ b o,X.base.get? b=some o→b∉X.ex
 exfs:∀ b∈X.ex,b∉X.fs
 funs:X.s₀.heap.FunFrames X.base X.outer
 frf:∀ b∈X.fs,X.H₀ b=none

structure Inv (X:Cx)(pins:List (Addr×Obj))(σ:List (Option V))(H:Hp)(s:Shared):Prop where
 ok:X.Ok
 os:s.os=X.s₀.os
 bare:AllBare s.gens
 base:Un X.fs X.ex X.H₀ H X.s₀.heap s.heap
 loc:∃ m,s.heap.Ns X.env.locals m∧∀ (i:Nat) (x:Str) (v:V),X.N[i]?=some x→σ[i]?=some (some v)→Vis X.env.scope x→∃ u,aW v u∧wX X.env s.heap m x u
 cell:∀ x c,X.env.cells.lookup x=some c→∃ v,s.heap.IsCell c v
 free:H X.env.locals=none
 freeC:∀ x c,X.env.cells.lookup x=some c→H c=none
 pin:∀ p∈X.pn++pins,s.heap.get? p.1=some p.2∧H p.1=none∧p.1≠X.env.locals∧p.1∉X.fs∧∀ v,p.2.data≠.cell v
 hok:HOk X.prog X.w H s.heap
 len:σ.length=X.N.length

section
variable {X:Cx}{pins:List (Addr×Obj)}{σ:List (Option V)}{H H':Hp}{s:Shared}{h':Heap}

theorem Cx.Ok.nofr (ok:X.Ok){b:Addr}{o:Obj}(e:X.base.get? b=some o):b∉X.fs:=fun hb=>by
 have:=(ok.funs.mem hb).1
 rw[e] at this;cases this
theorem Inv.bs (I:Inv X pins σ H s):∀ b o,X.base.get? b=some o→s.heap.get? b=some o∧H b=none:=fun b o e =>
 ⟨I.base.keep b o (I.ok.bs b o e).1 (I.ok.bs b o e).2 (I.ok.nofr e) (I.ok.noex b o e),I.base.free b o (I.ok.bs b o e).1 (I.ok.bs b o e).2 (I.ok.noex b o e)⟩
theorem Inv.bk (I:Inv X pins σ H s):∀ b o,X.base.get? b=some o→s.heap.get? b=some o:=fun b o e=>(I.bs b o e).1
theorem Inv.mod (I:Inv X pins σ H s):Mod X.K X.mg X.base:=I.ok.mod
theorem Inv.kIn (I:Inv X pins σ H s):X.K.In s.heap:=I.ok.mod.kin.keeps I.bk
theorem Inv.lt (I:Inv X pins σ H s):X.env.locals < s.heap.objs.size:=let ⟨_,hn,_⟩:=I.loc;hn.lt
theorem Inv.sz (I:Inv X pins σ H s):X.s₀.heap.objs.size≤s.heap.objs.size:=Nat.le_trans I.ok.above (Nat.le_of_lt I.lt)
theorem Inv.nofs (I:Inv X pins σ H s){a:Addr}(h:s.heap.objs.size≤a):a∉X.fs:=fun hb=>by
 obtain⟨_,o,ho,_⟩:=I.ok.funs.mem hb
 exact absurd (Nat.lt_of_lt_of_le (Heap.lt_size ho) (Nat.le_trans I.sz h)) (Nat.lt_irrefl _)
theorem Inv.cne (I:Inv X pins σ H s):∀ x c,X.env.cells.lookup x=some c→c≠X.env.locals:=fun x c e z=>by
 obtain⟨v,o,ho,hd⟩:=I.cell x c e
 obtain⟨m,⟨o',es,ep,ho',hd',_⟩,_⟩:=I.loc
 rw[z,ho'] at ho;cases ho;rw[hd'] at hd;cases hd
theorem Inv.funs (I:Inv X pins σ H s):s.heap.FunFrames X.base X.outer:=by
 have all:∀ (l:List Env),(∀ b∈frs l,b∈X.fs)→X.s₀.heap.FunFrames X.base l→s.heap.FunFrames X.base l:=by
   intro l
   induction l with
   | nil=>intro _ _;trivial
   | cons env r ih =>
     intro hs hl
     obtain⟨hk,⟨L,o,hf,hn,ho,hd⟩,hr⟩:=hl
     have hL:L∈X.fs:=hs L (by unfold frs;rw[List.filterMap_cons,hf];exact List.mem_cons_self)
     obtain⟨sl,e⟩:=I.base.slot L o ho (I.ok.frf L hL) hL fun z=>I.ok.exfs L z hL
     exact⟨hk,⟨L,_,hf,hn,e,hd⟩,ih (fun b hb=>hs b (by unfold frs;rw[List.filterMap_cons,hf];exact List.mem_cons_of_mem _ hb)) hr⟩
 exact all X.outer (fun _ hb=>hb) I.ok.funs

theorem Inv.stack (I:Inv X pins σ H s):s.heap.FunFrames X.base X.stack:=by
 rcases I.ok.stk with e | ⟨e,hf⟩
 · rw[e];exact I.funs
 · rw[e]
   obtain⟨m,hn,_⟩:=I.loc
   refine .cons (by rw[I.ok.kind];decide) hf hn ?_ I.funs
   exact Heap.get?_none_of_le (Nat.le_trans I.ok.bsz I.ok.above)
theorem Inv.stkSub (I:Inv X pins σ H s):∀ b∈frs X.stack,b∈X.env.locals::X.fs:=fun b hb=>by
 rcases I.ok.stk with e | ⟨e,hf⟩
 · rw[e] at hb;exact List.mem_cons_of_mem _ hb
 · rw[e] at hb
   unfold frs at hb
   rw[List.filterMap_cons,hf] at hb
   exact hb
theorem Inv.stkFree (I:Inv X pins σ H s):∀ b∈frs X.stack,H b=none:=fun b hb=>by
 rcases List.mem_cons.mp (I.stkSub b hb) with e | hb
 · rw[e];exact I.free
 · obtain⟨_,o,ho,_⟩:=I.ok.funs.mem hb
   exact I.base.free b o ho (I.ok.frf b hb) fun z=>I.ok.exfs b z hb

theorem Inv.step {g':Array GenState}{t':Nat}{d':Drawn}{ch:List Addr}(I:Inv X pins σ H s)
   (hch:∀ b∈ch,(b∈X.ex∨X.s₀.heap.objs.size≤b)∧b≠X.env.locals∧(∀ x c,X.env.cells.lookup x=some c→c≠b)∧∀ p∈X.pn++pins,p.1≠b)
   (keep:∀ b o,b≠X.env.locals→b∉X.fs→b∉ch→s.heap.get? b=some o→H b=none→h'.get? b=some o)
   (slot:∀ b o,b≠X.env.locals→b∈X.fs→b∉ch→s.heap.get? b=some o→H b=none→∃ sl,h'.get? b=some { o with slots:=sl })(free:∀ b o,b∉ch→s.heap.get? b=some o→H b=none→H' b=none)
   (there:∀ b o,b∉ch→s.heap.get? b=some o→∃ o',h'.get? b=some o')
   (tups:∀ b xs,H b=some (.tup xs)→H' b=some (.tup xs))(frzs:∀ b o u,H b=some (.frz o u)→H' b=some (.frz o u))(tbls:∀ b ps,H b=some (.tbl ps)→∃ more,H' b=some (.tbl (ps++more)))
   (ns:∀ m,s.heap.Ns X.env.locals m→h'.Ns X.env.locals m)(hok:HOk X.prog X.w H' h')(hg:AllBare g') :
   Inv X pins σ H' { s with heap:=h',gens:=g',drawn:=d',toks:=t' }:=by
 have neL:∀ b o,X.s₀.heap.get? b=some o→b≠X.env.locals:=fun b o e=>Nat.ne_of_lt (Nat.lt_of_lt_of_le (Heap.lt_size e) I.ok.above)
 have neC:∀ b o,X.s₀.heap.get? b=some o→b∉X.ex→b∉ch:=fun b o e hx hb=>by
   rcases(hch b hb).1 with z | z
   · exact hx z
   · exact absurd (Nat.lt_of_lt_of_le (Heap.lt_size e) z) (Nat.lt_irrefl _)
 have cellK:∀ x c,X.env.cells.lookup x=some c→∀ v,s.heap.IsCell c v→h'.IsCell c v:=fun x c e v ⟨o,ho,hd⟩=>by
   have nch:c∉ch:=fun z=>(hch c z).2.2.1 x c e rfl
   by_cases hc:c∈X.fs
   · obtain⟨sl,q⟩:=slot c o (I.cne x c e) hc nch ho (I.freeC x c e)
     exact⟨_,q,hd⟩
   · exact⟨o,keep c o (I.cne x c e) hc nch ho (I.freeC x c e),hd⟩
 refine⟨I.ok,I.os,hg,⟨fun b o e n hb hx=>?_,fun b o e n hb hx=>?_,fun b o e n hx=>?_,fun b o e hx=>?_,fun b xs e=>tups b xs (I.base.tups b xs e),fun b o xs e=>frzs b o xs (I.base.frzs b o xs e),fun b ps e=>?_⟩,?_,fun x c e=>?_,?_,fun x c e=>?_,fun p hp=>?_,hok,I.len⟩
 · exact keep b o (neL b o e) hb (neC b o e hx) (I.base.keep b o e n hb hx) (I.base.free b o e n hx)
 · obtain⟨sl,e1⟩:=I.base.slot b o e n hb hx
   obtain⟨sl',e2⟩:=slot b _ (neL b o e) hb (neC b o e hx) e1 (I.base.free b o e n hx)
   exact⟨sl',e2⟩
 · obtain⟨o',e1⟩:=I.base.there b o e hx
   exact free b o' (neC b o e hx) e1 (I.base.free b o e n hx)
 · obtain⟨o',e1⟩:=I.base.there b o e hx
   exact there b o' (neC b o e hx) e1
 · obtain⟨m1,e1⟩:=I.base.tbls b ps e
   obtain⟨m2,e2⟩:=tbls b _ e1
   exact⟨m1++m2,by rw[e2,Array.append_assoc]⟩
 · obtain⟨m,hn,hl⟩:=I.loc
   refine⟨m,ns m hn,fun i x v e1 e2 e3=>?_⟩
   obtain⟨u,r,l⟩:=hl i x v e1 e2 e3
   refine⟨u,r,?_⟩
   rcases l with l | ⟨k,c,e,z⟩
   · exact .inl l
   · exact .inr ⟨k,c,e,cellK x c e _ z⟩
 · obtain⟨v,z⟩:=I.cell x c e
   exact⟨v,cellK x c e v z⟩
 · obtain⟨m,⟨o,_,_,ho,_⟩,_⟩:=I.loc
   exact free _ o (fun z=>(hch _ z).2.1 rfl) ho I.free
 · obtain⟨v,o,ho,hd⟩:=I.cell x c e
   exact free c o (fun z=>(hch c z).2.2.1 x c e rfl) ho (I.freeC x c e)
 · obtain⟨e,n,ne,nf,d⟩:=I.pin p hp
   have nch:p.1∉ch:=fun z=>(hch p.1 z).2.2.2 p hp rfl
   exact⟨keep p.1 p.2 ne nf nch e n,free p.1 p.2 nch e n,ne,nf,d⟩
theorem Inv.un {t':Nat}(I:Inv X pins σ H s)(u:Un X.fs [] H H' s.heap h')(hok:HOk X.prog X.w H' h'):Inv X pins σ H' { s with heap:=h',toks:=t' }:=by
 obtain⟨m,⟨o,es,ep,ho,r⟩,_⟩:=id I.loc
 obtain⟨sl,hL⟩:=u.any ho I.free (by simp)
 exact I.step (g':=s.gens) (d':=s.drawn) (ch:=[]) (fun _ z=>nomatch z) (fun b o _ hb _ e n=>u.keep b o e n hb (by simp)) (fun b o _ hb _ e n=>u.slot b o e n hb (by simp)) (fun b o _ e n=>u.free b o e n (by simp)) (fun b o _ e=>u.there b o e (by simp)) u.tups u.frzs u.tbls (fun m' hm=>by
   obtain⟨o',es',ep',ho',r'⟩:=hm
   rw[ho] at ho';cases ho'
   exact⟨_,es',ep',hL,r'⟩) hok I.bare
theorem Inv.call {g':Array GenState}{t':Nat}{d':Drawn}{ch:List Addr}(I:Inv X pins σ H s)(u:Un (frs X.stack) ch H H' s.heap h')(hok:HOk X.prog X.w H' h')(hg:AllBare g')
   (hch:∀ b∈ch,(b∈X.ex∨X.s₀.heap.objs.size≤b)∧b≠X.env.locals∧(∀ x c,X.env.cells.lookup x=some c→c≠b)∧∀ p∈X.pn++pins,p.1≠b) :
   Inv X pins σ H' { s with heap:=h',gens:=g',drawn:=d',toks:=t' }:=by
 obtain⟨m,⟨o,es,ep,ho,r⟩,_⟩:=id I.loc
 obtain⟨sl,hL⟩:=u.any ho I.free fun z=>(hch _ z).2.1 rfl
 exact I.step (ch:=ch) hch (fun b o hL hb hc e n=>u.keep b o e n (fun z=>(List.mem_cons.mp (I.stkSub b z)).elim hL hb) hc) (fun b o _ _ hc e n=>u.any e n hc) (fun b o hc e n=>u.free b o e n hc) (fun b o hc e=>u.there b o e hc) u.tups u.frzs u.tbls (fun m' hm=>by
   obtain⟨o',es',ep',ho',r'⟩:=hm
   rw[ho] at ho';cases ho'
   exact⟨_,es',ep',hL,r'⟩) hok hg
theorem Inv.turned {t':Nat}{it:Addr}(I:Inv X pins σ H s)(k:∀ b o,b≠it→s.heap.get? b=some o→h'.get? b=some o)(hn:H it=none)(hL:it≠X.env.locals)
   (h1:it∈X.ex∨X.s₀.heap.objs.size≤it)(h2:∀ x c,X.env.cells.lookup x=some c→c≠it)(h3:∀ p∈X.pn++pins,p.1≠it):Inv X pins σ H { s with heap:=h',toks:=t' }:=by
 have nit:∀ b u,H b=some u→b≠it:=fun b u e z=>by rw[z,hn] at e;cases e
 refine I.step (g':=s.gens) (d':=s.drawn) (ch:=[it]) (fun b hb=>?_) (fun b o _ _ hc e _=>k b o (fun z=>hc (by simp[z])) e) (fun b o _ _ hc e _=>⟨o.slots,k b o (fun z=>hc (by simp[z])) e⟩) (fun _ _ _ _ n=>n)
   (fun b o hc e=>⟨o,k b o (fun z=>hc (by simp[z])) e⟩) (fun _ _ e=>e) (fun _ _ _ e=>e) (fun b ps e=>⟨#[],by rw[e];simp⟩) (fun m hm=>?_) (fun b u e=>?_) I.bare
 · have e:b=it:=by simpa using hb
   subst e
   exact⟨h1,hL,h2,h3⟩
 · obtain⟨o,es,ep,ho,r⟩:=hm
   exact⟨o,es,ep,k _ o (Ne.symm hL) ho,r⟩
 · refine(I.hok b u e).stay (fun c v hc q=>k c v ?_ q) (fun _ q=>q) fun _ _ q=>q
   rcases hc with z | z
   · rw[z];exact nit b u e
   · exact nit c _ z
theorem Inv.tok (I:Inv X pins σ H s) (t:Nat):Inv X pins σ H { s with toks:=t }:=I.un (h':=s.heap) (t':=t) Un.refl I.hok
theorem Inv.kept {t':Nat}(I:Inv X pins σ H s)(k:∀ b u,s.heap.get? b=some u→h'.get? b=some u):Inv X pins σ H { s with heap:=h',toks:=t' }:=I.un (Un.kept k) (I.hok.kept k)
theorem Inv.laid {a:Addr}{o:HO}{t':Nat}(I:Inv X pins σ H s)(k:∀ b u,s.heap.get? b=some u→h'.get? b=some u)(hp:s.heap.objs.size≤a)(new:bF X.prog X.w (upd H a o) h' a o) :
 Inv X pins σ (upd H a o) { s with heap:=h',toks:=t' }:=I.un (Un.laid k hp (I.hok.fresh hp)) (I.hok.laid k hp new)
theorem Inv.write {x e:Addr}{o:HO}{t':Nat}(I:Inv X pins σ H s)(mu:Mut (H x))(he:e=x∨H e=some (.own x))(k:∀ b u,b≠e→s.heap.get? b=some u→h'.get? b=some u)(heo:∃ u,h'.get? e=some u)
 (new:bF X.prog X.w (upd H x o) h' x o):Inv X pins σ (upd H x o) { s with heap:=h',toks:=t' }:=I.un (Un.write mu he k heo) (I.hok.write mu he k heo new)
theorem Inv.pins_of {pins':List (Addr×Obj)}(I:Inv X pins σ H s)(h:∀ p∈pins',s.heap.get? p.1=some p.2∧H p.1=none∧p.1≠X.env.locals∧p.1∉X.fs∧∀ v,p.2.data≠.cell v):Inv X pins' σ H s :=
 ⟨I.ok,I.os,I.bare,I.base,I.loc,I.cell,I.free,I.freeC,fun p hp=>(List.mem_append.mp hp).elim (fun z=>I.pin p (List.mem_append_left _ z)) (h p),I.hok,I.len⟩

theorem mV {N:List Str}(hN:N.Nodup){i j:Nat}{x:Str}(a:N[i]?=some x)(b:N[j]?=some x):i=j:=by
 obtain⟨h1,e1⟩:=List.getElem?_eq_some_iff.mp a
 obtain⟨h2,e2⟩:=List.getElem?_eq_some_iff.mp b
 exact(List.getElem_inj hN).mp (e1.trans e2.symm)

theorem jK {M:Model}{A:Around}{E:Value→Shared→Prop}{i:Nat}{x:Str}{v:V}{u:Value}{Q:Unit→Shared→Prop}(I:Inv X pins σ H s)(hN:X.N.Nodup)(hi:X.N[i]?=some x)(hx:Loc X.env.scope x)(r:aW v u)
   (h:∀ s',Inv X pins (σ.set i (some v)) H s'→(∃ a,Heap.SameBut a s.heap s'.heap∧(a=X.env.locals∨X.env.cells.lookup x=some a))→Q () s')(hf:X.fn x=true∨X.env.scope.names.lookup x=some .local:=by first | exact .inl rfl | exact .inr rfl | assumption):wpAny M A (storeName X.env x u) Q E s:=by
 obtain⟨m,hn,hl⟩:=id I.loc
 have hcls:(X.env.scope.kind==.class||(X.env.scope.kind==.module&&X.env.locals != X.env.globals))=false:=by rw[I.ok.kind];rfl
 have hiσ:i < σ.length:=by rw[I.len];exact(List.getElem?_eq_some_iff.mp hi).1
 have cne:=I.cne
 have tracked:∀ {a:Addr}{h':Heap},(∃ o,s.heap.get? a=some o∧H a=none)→Heap.SameBut a s.heap h'→HOk X.prog X.w H h':=fun {a h'} ha hs b ob e=>by
   obtain⟨_,_,hfree⟩:=ha
   refine(I.hok b ob e).stay (fun c w' hc q=>(hs.2 c ?_).trans q) (fun _ q=>q) fun _ _ q=>q
   rintro rfl
   rcases hc with rfl | hc
   · rw[hfree] at e;cases e
   · rw[hfree] at hc;cases hc
 rcases hx with hk | hk
 · refine wpAny_storeName_local hk hn (fun h' hn' hs=>?_) hcls
   obtain⟨oL,_,_,hoL,_⟩:=id hn
   refine h _ ⟨I.ok,I.os,I.bare,⟨fun b o e n hb hx=>?_,fun b o e n hb hx=>?_,I.base.free,fun b o e hx=>?_,I.base.tups,I.base.frzs,I.base.tbls⟩,⟨_,hn',fun j y v' e1 e2 e3=>?_⟩,fun y c e=>?_,I.free,I.freeC,fun p hp=>?_,tracked ⟨oL,hoL,I.free⟩ hs,by simpa using I.len⟩ ⟨_,hs,.inl rfl⟩
   · exact(hs.2 b (Nat.ne_of_lt (Nat.lt_of_lt_of_le (Heap.lt_size e) I.ok.above))).trans (I.base.keep b o e n hb hx)
   · obtain⟨sl,e1⟩:=I.base.slot b o e n hb hx
     exact⟨sl,(hs.2 b (Nat.ne_of_lt (Nat.lt_of_lt_of_le (Heap.lt_size e) I.ok.above))).trans e1⟩
   · obtain⟨o',e1⟩:=I.base.there b o e hx
     exact⟨o',(hs.2 b (Nat.ne_of_lt (Nat.lt_of_lt_of_le (Heap.lt_size e) I.ok.above))).trans e1⟩
   · by_cases hj:j=i
     · subst hj
       rw[hi] at e1;cases e1
       rw[List.getElem?_set_self hiσ] at e2
       cases e2
       exact⟨u,r,.inl ⟨hk,by simp⟩⟩
     · rw[List.getElem?_set_ne (Ne.symm hj)] at e2
       obtain⟨u',r',q⟩:=hl j y v' e1 e2 e3
       refine⟨u',r',?_⟩
       rcases q with ⟨k,e⟩ | ⟨k,c,e,z⟩
       · refine .inl ⟨k,?_⟩
         have:y≠x:=fun e=>hj (mV hN e1 (e▸hi))
         simp[this,e]
       · exact .inr ⟨k,c,e,z.sameBut hs (cne y c e)⟩
   · obtain⟨w',z⟩:=I.cell y c e
     exact⟨w',z.sameBut hs (cne y c e)⟩
   · obtain⟨e,n,ne,nf,d⟩:=I.pin p hp
     exact⟨(hs.2 p.1 ne).trans e,n,ne,nf,d⟩
 · have hfn:X.fn x=true:=by
     rcases hf with z | z
     · exact z
     · rw[z] at hk;cases hk
   obtain⟨c,hc⟩:=I.ok.has x (.inl hk)
   obtain⟨w',z⟩:=I.cell x c hc
   refine wpAny_storeName_cell I.ok.kind hk hc z (fun h' hc' hs=>?_)
   obtain⟨oc,hoc,hocd⟩:=id z
   refine h { s with heap:=h' } ⟨I.ok,I.os,I.bare,⟨fun b o e n hb hx=>?_,fun b o e n hb hx=>?_,I.base.free,fun b o e hx=>?_,I.base.tups,I.base.frzs,I.base.tbls⟩,⟨m,hn.sameBut hs (Ne.symm (cne x c hc)),fun j y v' e1 e2 e3=>?_⟩,fun y c' e=>?_,I.free,I.freeC,fun p hp=>?_,tracked ⟨oc,hoc,I.freeC x c hc⟩ hs,by simpa using I.len⟩ ⟨c,hs,.inr hc⟩
   · exact(hs.2 b (Nat.ne_of_lt (Nat.lt_of_lt_of_le (Heap.lt_size e) (I.ok.cab x c hfn hc)))).trans (I.base.keep b o e n hb hx)
   · obtain⟨sl,e1⟩:=I.base.slot b o e n hb hx
     exact⟨sl,(hs.2 b (Nat.ne_of_lt (Nat.lt_of_lt_of_le (Heap.lt_size e) (I.ok.cab x c hfn hc)))).trans e1⟩
   · obtain⟨o',e1⟩:=I.base.there b o e hx
     exact⟨o',(hs.2 b (Nat.ne_of_lt (Nat.lt_of_lt_of_le (Heap.lt_size e) (I.ok.cab x c hfn hc)))).trans e1⟩
   · by_cases hj:j=i
     · subst hj
       rw[hi] at e1;cases e1
       rw[List.getElem?_set_self hiσ] at e2
       cases e2
       exact⟨u,r,.inr ⟨.inl hk,c,hc,hc'⟩⟩
     · rw[List.getElem?_set_ne (Ne.symm hj)] at e2
       obtain⟨u',r',q⟩:=hl j y v' e1 e2 e3
       refine⟨u',r',?_⟩
       rcases q with q | ⟨k,c',e,z'⟩
       · exact .inl q
       · refine .inr ⟨k,c',e,z'.sameBut hs ?_⟩
         rintro rfl
         exact hj (mV hN e1 (I.ok.inj _ _ _ e hc▸hi))
   · by_cases hcc:c'=c
     · subst hcc;exact⟨_,hc'⟩
     · obtain⟨w2,z2⟩:=I.cell y c' e
       exact⟨w2,z2.sameBut hs hcc⟩
   · obtain⟨e,n,ne,nf,d⟩:=I.pin p hp
     refine⟨(hs.2 p.1 ?_).trans e,n,ne,nf,d⟩
     intro q
     rw[q,hoc] at e
     have q':oc=p.2:=Option.some.inj e
     exact d w' (by rw[←q'];exact hocd)
theorem jo {M:Model}{A:Around}{E:Value→Shared→Prop}{i:Nat}{x:Str}{v:V}{u:Value}{Q:Unit→Shared→Prop}(I:Inv X pins σ H s)(hN:X.N.Nodup)(hi:X.N[i]?=some x)(hx:Loc X.env.scope x)(r:aW v u)
   (h:∀ s',Inv X pins (σ.set i (some v)) H s'→Q () s')(hf:X.fn x=true∨X.env.scope.names.lookup x=some .local:=by first | exact .inl rfl | exact .inr rfl | assumption):wpAny M A (storeName X.env x u) Q E s :=
 jK I hN hi hx r (fun s' I' _=>h s' I') hf
theorem Inv.call' {s':Shared}{ch:List Addr}(I:Inv X pins σ H s)(ho:s'.os=s.os)(u:Un (frs X.stack) ch H H' s.heap s'.heap)(hok:HOk X.prog X.w H' s'.heap)(hg:AllBare s'.gens)
   (hch:∀ b∈ch,(b∈X.ex∨X.s₀.heap.objs.size≤b)∧b≠X.env.locals∧(∀ x c,X.env.cells.lookup x=some c→c≠b)∧∀ p∈X.pn++pins,p.1≠b):Inv X pins σ H' s':=by
 obtain⟨h',g',d',t',o'⟩:=s'
 have e:o'=s.os:=ho
 subst e
 exact I.call (g':=g') (t':=t') (d':=d') u hok hg hch
end

/-! ### the judgements -/
abbrev XK:=Value→Option Addr→Hp→Prop
abbrev St:=List (Option V)
abbrev VK:=V→Hp→Prop
abbrev TE:=St→Hp→VK→Prop
abbrev TT:=St→Hp→(Bool→Hp→Prop)→Prop
abbrev TA:=St→Hp→(List V→Hp→Prop)→Prop
structure g9 where
 nx:St→Hp→Prop
 rt:VK
 bk:St→Hp→Prop:=fun _ _=>False
 ct:St→Hp→Prop:=fun _ _=>False
abbrev TS:=g9→St→Hp→Prop

def EP (X:Cx)(pins:List (Addr×Obj)) (σ:St)(Q:VK) (u:Value)(s':Shared):Prop:=∃ v H',Inv X pins σ H' s'∧aW v u∧Q v H'
def TP (X:Cx)(pins:List (Addr×Obj)) (σ:St)(Q:Bool→Hp→Prop)(b:Bool)(s':Shared):Prop:=∃ H',Inv X pins σ H' s'∧Q b H'
def AP (X:Cx)(pins:List (Addr×Obj)) (σ:St)(Q:List V→Hp→Prop)(us:List Value)(s':Shared):Prop:=∃ vs H',Inv X pins σ H' s'∧Vals vs us∧Q vs H'
def SP (X:Cx)(pins:List (Addr×Obj))(D:g9)(f:Flow)(s':Shared):Prop :=
 match f with
 | .next=>∃ σ' H',Inv X pins σ' H' s'∧D.nx σ' H'
 | .brk=>∃ σ' H',Inv X pins σ' H' s'∧D.bk σ' H'
 | .cont=>∃ σ' H',Inv X pins σ' H' s'∧D.ct σ' H'
 | .ret u=>∃ v σ' H',Inv X pins σ' H' s'∧aW v u∧D.rt v H'

def PE (X:Cx)(e:Expr)(t:TE):Prop :=
 ∀ ⦃pins:List (Addr×Obj)⦄ (s:Shared) (σ:St)(H:Hp)(Q:VK),Inv X pins σ H s→t σ H Q→wpAny (model X.prog X.w) X.A (eval e X.env) (EP X pins σ Q) X.xe s
def PT (X:Cx)(e:Expr)(t:TT):Prop :=
 ∀ ⦃pins:List (Addr×Obj)⦄ (s:Shared) (σ:St)(H:Hp)(Q:Bool→Hp→Prop),Inv X pins σ H s→t σ H Q→wpAny (model X.prog X.w) X.A (isTrue e X.env (eval e X.env)) (TP X pins σ Q) X.xe s
def PW (X:Cx)(e:Expr)(t:TT):Prop :=
 ∀ (whole:Sem Value)(pins:List (Addr×Obj))(s:Shared) (σ:St)(H:Hp)(Q:Bool→Hp→Prop),Inv X pins σ H s→t σ H Q→wpAny (model X.prog X.w) X.A (isTrue e X.env whole) (TP X pins σ Q) X.xe s
theorem PW.pt {X:Cx}{e:Expr}{t:TT}(h:PW X e t):PT X e t:=h _
def PA (X:Cx)(es:List Expr)(t:TA):Prop :=
 ∀ ⦃pins:List (Addr×Obj)⦄ (pos:Pos)(s:Shared) (σ:St)(H:Hp)(Q:List V→Hp→Prop),Inv X pins σ H s→t σ H Q→wpAny (model X.prog X.w) X.A (spliced (backTo pos (starEach es X.env))) (AP X pins σ Q) X.xe s
def PS (X:Cx)(st:Stmt)(t:TS):Prop :=
 ∀ ⦃pins:List (Addr×Obj)⦄ (s:Shared) (σ:St)(H:Hp)(D:g9),Inv X pins σ H s→t D σ H→wpAny (model X.prog X.w) X.A (exec st X.env) (SP X pins D) X.xe s
def PSs (X:Cx)(st:List Stmt)(t:TS):Prop :=
 ∀ ⦃pins:List (Addr×Obj)⦄ (s:Shared) (σ:St)(H:Hp)(D:g9),Inv X pins σ H s→t D σ H→wpAny (model X.prog X.w) X.A (execs st X.env) (SP X pins D) X.xe s
theorem thn {α:Type}{t:Sem α}{Q Q':α→Shared→Prop}{M:Model}{A:Around}{E:Value→Shared→Prop}{s:Shared}(h:wpAny M A t Q E s)(hQ:∀ a s,Q a s→Q' a s):wpAny M A t Q' E s:=wpAny_mono h hQ fun _ _ x=>x
end L2

namespace L2
open PySem PySem.Spec PyProof.Rows
section
variable {X:Cx}

theorem bin {a b:Expr}{ta tb:TE}(ha:PE X a ta)(hb:PE X b tb){pins:List (Addr×Obj)}{s:Shared}{σ:St}{H:Hp}{R:V→V→Hp→Prop}(I:Inv X pins σ H s)(h:ta σ H fun x H1=>tb σ H1 fun y H2=>R x y H2)
   {α:Type}{Q:α→Shared→Prop}{f:Value→Value→Sem α}
   (hf:∀ v u s2 x y H2,Inv X pins σ H2 s2→aW x v→aW y u→R x y H2→wpAny (model X.prog X.w) X.A (f v u) Q X.xe s2) :
   wpAny (model X.prog X.w) X.A (eval a X.env) (fun v s₁=>wpAny (model X.prog X.w) X.A (eval b X.env) (fun u s₂=>wpAny (model X.prog X.w) X.A (f v u) Q X.xe s₂) X.xe s₁) X.xe s:=by
 refine thn (ha s σ H _ I h) fun v s1 ⟨x,H1,I1,r1,q1⟩=>?_
 refine thn (hb s1 σ H1 _ I1 q1) fun u s2 ⟨y,H2,I2,r2,q2⟩=>?_
 exact hf v u s2 x y H2 I2 r1 r2 q2

/-! ### names and constants -/
def pG (i:Nat):TE:=fun σ H Q=>∃ v,σ[i]?=some (some v)∧Q v H
def tC (v:V):TE:=fun _ H Q=>Q v H
theorem vz {i:Nat}{x:Str}{pos:Pos}(hN:X.N[i]?=some x)(hv:Vis X.env.scope x)(hd:(x==("__debug__":Str))=false:=by decide)(hcd:(x==("__classdict__":Str))=false:=by decide):PE X (.Name x pos) (pG i):=by
 intro pins s σ H Q I h
 obtain⟨v,e,h⟩:=h
 obtain⟨m,hn,hl⟩:=I.loc
 obtain⟨u,r,l⟩:=hl i x v hN e hv
 have fin:EP X pins σ Q u s:=⟨v,H,I,r,h⟩
 rcases l with ⟨hk,hm⟩ | ⟨hk,c,hc,hcell⟩
 · exact wpAny_Name (wpAny_loadName_local I.ok.kind hk hn hm fin) hd
 · rcases hk with hk | hk
   · exact wpAny_Name (wpAny_loadName_cell I.ok.kind hk hc hcell fin) hd
   · exact wpAny_Name (wpAny_loadName_free I.ok.kind hk hc hcell fin hcd) hd
theorem ah {i j pos}:PE X (.Constant (.int i) j pos) (tC (.int i)):=fun _ _ _ H _ I h=>wpAny_Constant_int ⟨.int i,H,I.tok _,⟨_,rfl⟩,h⟩
theorem eD {b j pos}:PE X (.Constant (.bool b) j pos) (tC (.bl b)):=fun _ _ _ H _ I h=>Constant_bool ⟨.bl b,H,I,rfl,h⟩
theorem gR {j pos}:PE X (.Constant .none j pos) (tC .non):=fun _ _ _ H _ I h=>Constant_none ⟨.non,H,I,rfl,h⟩
theorem aV {x j pos}:PE X (.Constant (.str x) j pos) (tC (.str x)):=fun _ _ _ H _ I h=>Calls.Constant_str ⟨.str x,H,I.tok _,⟨_,rfl⟩,h⟩

def Gl (X:Cx) (x:Str):Prop:=X.env.kindOf x=some .globalImplicit
theorem iU {E:Value→Shared→Prop}{pins:List (Addr×Obj)}{s:Shared}{σ:St}{H:Hp}{x:Str}{u:Value}{pos:Pos}{Q:Value→Shared→Prop}(I:Inv X pins σ H s)(hg:Gl X x)(hm:X.mg x=some u)(h:Q u s)
   (hd:(x==("__debug__":Str))=false:=by decide):wpAny (model X.prog X.w) X.A (eval (.Name x pos) X.env) Q E s :=
 Calls.Name_function_global I.ok.kind hg (Calls.loadGlobal_global (by rw[I.ok.glob];exact I.mod.glob.keeps I.bk) hm h) hd
theorem gm {E:Value→Shared→Prop}{pins:List (Addr×Obj)}{s:Shared}{σ:St}{H:Hp}{x:Str}{u:Value}{pos:Pos}{Q:Value→Shared→Prop}(I:Inv X pins σ H s)(hg:Gl X x)(hm:X.mg x=none)(hv:bootBuiltins x=some u)(h:Q u s)
   (hn:x≠"__name__":=by decide)(hd:(x==("__debug__":Str))=false:=by decide):wpAny (model X.prog X.w) X.A (eval (.Name x pos) X.env) Q E s:=by
 obtain⟨mb,h1,h2⟩:=I.mod.blt
 exact Calls.Name_function_global I.ok.kind hg (Calls.loadGlobal_builtin (by rw[I.ok.glob];exact I.mod.glob.keeps I.bk) hm (by rw[I.ok.blt];exact h1.keeps I.bk) ((h2 x hn).trans hv) h) hd
theorem cz {x:Str}{v:V}{u:Value}{pos:Pos}(hg:Gl X x)(hm:X.mg x=some u)(r:aW v u)(hd:(x==("__debug__":Str))=false:=by decide):PE X (.Name x pos) (tC v) :=
 fun _ _ _ H _ I h=>iU I hg hm ⟨v,H,I,r,h⟩ hd
theorem fU {x:Str}{v:V}{u:Value}{pos:Pos}(hg:Gl X x)(hm:X.mg x=none)(hv:bootBuiltins x=some u)(r:aW v u)(hn:x≠"__name__":=by decide)(hd:(x==("__debug__":Str))=false:=by decide):PE X (.Name x pos) (tC v) :=
 fun _ _ _ H _ I h=>gm I hg hm hv ⟨v,H,I,r,h⟩ hn hd

/-! ### arithmetic -/
variable {a b:Expr}{ta tb:TE}{pos:Pos}
/-! ### comparisons -/
def PC (X:Cx)(op:CmpOp)(a b:Expr)(t:TE):Prop :=
 ∀ (pins:List (Addr×Obj))(s:Shared) (σ:St)(H:Hp)(Q:VK),Inv X pins σ H s→t σ H Q →
   wpAny (model X.prog X.w) X.A (eval a X.env) (fun v s₁=>wpAny (model X.prog X.w) X.A (eval b X.env) (fun u s₂=>wpAny (model X.prog X.w) X.A (compareOp op v u) (EP X pins σ Q) X.xe s₂) X.xe s₁) X.xe s
def tB (t:TE):TT:=fun σ H Q=>t σ H fun x H1=>∃ c,x=.bl c∧Q c H1
theorem ia {op:CmpOp}{t:TE}(h:PC X op a b t)(h1:behindInMarks op b=false:=by first | exact nobehind _ (by decide) (by decide) | rfl):PT X (.Compare a [op] [b] pos) (tB t):=by
 intro pins s σ H Q I hw
 refine wpAny_isTrue_Compare1 (thn (h pins s σ H _ I hw) fun v s1 h1=>thn h1 fun u s2 h2=>thn h2 fun c s3 ⟨x,H1,I1,r1,q1⟩=>?_) h1
 obtain⟨d,rfl,q⟩:=q1
 cases r1
 exact wpAny_truthy_bool ⟨H1,I1,q⟩
theorem dr {e:Expr}{t:TE}(h:PE X e t)(he:∀ whole,isTrue e X.env whole=(do let v ←whole;standAt e.pos;holding [v] (truthy v)):=by intro _;rfl):PT X e (tB t):=by
 intro pins s σ H Q I hw
 refine isTrue_plain (thn (h s σ H _ I hw) fun v s1 ⟨x,H1,I1,r1,q1⟩=>?_) (he _)
 obtain⟨d,rfl,q⟩:=q1
 cases r1
 exact wpAny_truthy_bool ⟨H1,I1,q⟩

/-! ### and,or,not -/
variable {tA tB':TT}{ck:List Expr}
def wa (t u:TT):TT:=fun σ H Q=>t σ H fun c H1=>if c=true then u σ H1 Q else Q false H1
def tOr (t u:TT):TT:=fun σ H Q=>t σ H fun c H1=>if c=true then Q true H1 else u σ H1 Q
def wQ (t:TT):TT:=fun σ H Q=>t σ H fun c H1=>Q (!c) H1
theorem tM (ha:PT X a tA):PW X (.BoolOp .And [a] pos) tA:=by
 intro wh pins s σ H Q I h
 refine isTrue_and (thn (ha s σ H Q I h) fun c s1 e=>?_)
 cases c with
 | true=>exact isTrue_and_nil e
 | false=>exact e
theorem fh (ha:PT X a tA):PW X (.BoolOp .Or [a] pos) tA:=by
 intro wh pins s σ H Q I h
 refine isTrue_or (thn (ha s σ H Q I h) fun c s1 e=>?_)
 cases c with
 | false=>exact isTrue_or_nil e
 | true=>exact e
theorem vp (ha:PT X a tA)(hb:PW X (.BoolOp .And (b::ck) pos) tB'):PW X (.BoolOp .And (a::b::ck) pos) (wa tA tB'):=by
 intro wh pins s σ H Q I h
 refine isTrue_and (thn (ha s σ H _ I h) fun c s1 ⟨H1,I1,q1⟩=>?_)
 cases c with
 | true=>exact hb wh pins s1 σ H1 Q I1 q1
 | false=>exact⟨H1,I1,q1⟩
theorem ir (ha:PT X a tA)(hb:PW X (.BoolOp .Or (b::ck) pos) tB'):PW X (.BoolOp .Or (a::b::ck) pos) (tOr tA tB'):=by
 intro wh pins s σ H Q I h
 refine isTrue_or (thn (ha s σ H _ I h) fun c s1 ⟨H1,I1,q1⟩=>?_)
 cases c with
 | true=>exact⟨H1,I1,q1⟩
 | false=>exact hb wh pins s1 σ H1 Q I1 q1
theorem dv (ha:PT X a tA):PT X (.UnaryOp .Not a pos) (wQ tA):=by
 intro pins s σ H Q I h
 exact isTrue_not (ha s σ H (fun c H1=>Q (!c) H1) I h)
def uI (ta tb:TE):TE:=fun σ H Q=>ta σ H fun x H1=>∃ c,x=.bl c∧if c=true then tb σ H1 Q else Q (.bl false) H1
def wT (ta tb:TE):TE:=fun σ H Q=>ta σ H fun x H1=>∃ c,x=.bl c∧if c=true then Q (.bl true) H1 else tb σ H1 Q
def wG (ta:TE):TE:=fun σ H Q=>ta σ H fun x H1=>∃ c,x=.bl c∧Q (.bl (!c)) H1
theorem lx {op}{t:TE}(h:PE X a t):PE X (.BoolOp op [a] pos) t:=fun pins s σ H Q I hw=>BoolOp_one (h s σ H Q I hw)
theorem lO (ha:PE X a ta)(hb:PE X (.BoolOp .And (b::ck) pos) tb):PE X (.BoolOp .And (a::b::ck) pos) (uI ta tb):=by
 intro pins s σ H Q I h
 refine BoolOp_and (thn (ha s σ H _ I h) fun v s1 ⟨x,H1,I1,r1,q1⟩=>?_)
 obtain⟨c,rfl,q1⟩:=q1
 cases r1
 refine wpAny_truthy_bool ?_
 cases c with
 | true=>exact hb s1 σ H1 Q I1 q1
 | false=>exact⟨.bl false,H1,I1,rfl,q1⟩
def tIf (t:TT)(ta tb:TE):TE:=fun σ H Q=>t σ H fun c H1=>if c=true then ta σ H1 Q else tb σ H1 Q
end
end L2

namespace L2
open PySem PySem.Spec PyProof.Rows

/-! ### a list,a tuple that is read: tracked,frozen,or an object of the module -/
def SqL (K:PySem.W.Frag)(H:Hp)(a:Addr)(xs:List V):Prop :=
 Rd H a (.lst xs) ∨
   ∃ (o:Obj)(its:Array Value) (n:Nat),K.lookup a=some o∧o.cls=.type "list"∧o.dict=none∧o.data=.seq its n∧its.size≤sizeLine∧Vals xs its.toList
def SqT (K:PySem.W.Frag)(H:Hp)(a:Addr)(xs:List V):Prop :=
 Rd H a (.tup xs) ∨
   ∃ (o:Obj)(its:Array Value) (n:Nat),K.lookup a=some o∧o.cls=.type "tuple"∧o.data=.seq its n∧its.size≤sizeLine∧Vals xs its.toList
def wZ:Value→Option V
 | .none=>some .non
 | .bool b=>some (.bl b)
 | .int i _=>some (.int i)
 | .str x _=>some (.str x)
 | .bytes b _=>some (.byt b)
 | .float b _=>some (.flt b)
 | .ref a=>some (.ref a)
 | .type n=>some (.ty n)
 | _=>none
theorem aW.abs {x:V}{u:Value}(r:aW x u):wZ u=some x:=by
 cases x with
 | non=>cases r;rfl
 | bl _=>cases r;rfl
 | int _=>obtain⟨t,rfl⟩:=r;rfl
 | str _=>obtain⟨t,rfl⟩:=r;rfl
 | byt _=>obtain⟨t,rfl⟩:=r;rfl
 | flt _=>obtain⟨t,rfl⟩:=r;rfl
 | ref _=>cases r;rfl
 | ty _=>cases r;rfl
theorem aW.inj {x y:V}{u:Value}(r:aW x u)(q:aW y u):x=y:=Option.some.inj (r.abs.symm.trans q.abs)
theorem Vals.inj:∀ {xs ys:List V}{us:List Value},Vals xs us→Vals ys us→xs=ys
 | _,_,_,.nil,.nil=>rfl
 | _,_,_,.cons r t,.cons r' t'=>by rw[r.inj r',Vals.inj t t']
section
variable {X:Cx}{pins:List (Addr×Obj)}{σ:St}{H:Hp}{s:Shared}{a:Addr}{xs ys:List V}
theorem SqL.of {K:PySem.W.Frag}(h:H a=some (.lst xs)):SqL K H a xs:=.inl (.inl h)
theorem SqT.of {K:PySem.W.Frag}(h:H a=some (.tup xs)):SqT K H a xs:=.inl (.inl h)
theorem Inv.list (I:Inv X pins σ H s)(h:SqL X.K H a xs):∃ its:List Value,Vals xs its∧PlainL s.heap a its.toArray∧xs.length≤sizeLine:=by
 rcases h with h | ⟨o,its,n,hk,hc,hd,hs,hz,r⟩
 · obtain⟨z,its,n,r,e⟩:=h.ok I.hok
   exact⟨its,r,⟨_,n,e,rfl,rfl,rfl⟩,z⟩
 · refine⟨its.toList,r,⟨o,n,I.kIn a o hk,hc,hd,by simpa using hs⟩,?_⟩
   have e:=r.length
   simp only[Array.length_toList] at e
   omega
theorem Inv.tuple (I:Inv X pins σ H s)(h:SqT X.K H a xs):∃ its:List Value,Vals xs its∧IsTup s.heap a its.toArray∧xs.length≤sizeLine:=by
 rcases h with h | ⟨o,its,n,hk,hc,hs,hz,r⟩
 · obtain⟨z,its,r,p⟩:=h.ok I.hok
   exact⟨its,r,p,z⟩
 · refine⟨its.toList,r,⟨o,I.kIn a o hk,hc,n,by simpa using hs⟩,?_⟩
   have e:=r.length
   simp only[Array.length_toList] at e
   omega
theorem Inv.list_inj (I:Inv X pins σ H s)(h:SqL X.K H a xs)(h':SqL X.K H a ys):xs=ys:=by
 obtain⟨its,r,⟨o,n,e,_,_,d⟩,_⟩:=I.list h
 obtain⟨its',r',⟨o',n',e',_,_,d'⟩,_⟩:=I.list h'
 rw[e] at e';cases e'
 rw[d] at d'
 injection d' with d1 _
 have:its=its':=by simpa using congrArg Array.toList d1
 subst this
 exact r.inj r'
theorem Inv.tuple_inj (I:Inv X pins σ H s)(h:SqT X.K H a xs)(h':SqT X.K H a ys):xs=ys:=by
 obtain⟨its,r,⟨o,e,_,n,d⟩,_⟩:=I.tuple h
 obtain⟨its',r',⟨o',e',_,n',d'⟩,_⟩:=I.tuple h'
 rw[e] at e';cases e'
 rw[d] at d'
 injection d' with d1 _
 have:its=its':=by simpa using congrArg Array.toList d1
 subst this
 exact r.inj r'
end

/-! ### another wish about exceptions -/
abbrev Cx.wish (X:Cx)(E:Value→Shared→Prop):Cx:={ X with xe:=E }
abbrev Cx.nox (X:Cx):Cx:=X.wish fun _ _=>False
theorem Cx.Ok.wish {X:Cx}(ok:X.Ok)(E:Value→Shared→Prop):(X.wish E).Ok :=
 ⟨ok.mod,ok.kind,ok.glob,ok.blt,ok.above,ok.inj,ok.has,ok.cab,ok.hd,ok.frames,ok.stk,ok.exf,ok.bs,ok.bsz,ok.noex,ok.exfs,ok.funs,ok.frf⟩
theorem Cx.Ok.unwish {X:Cx}{E:Value→Shared→Prop}(ok:(X.wish E).Ok):X.Ok :=
 ⟨ok.mod,ok.kind,ok.glob,ok.blt,ok.above,ok.inj,ok.has,ok.cab,ok.hd,ok.frames,ok.stk,ok.exf,ok.bs,ok.bsz,ok.noex,ok.exfs,ok.funs,ok.frf⟩
section
variable {X:Cx}{pins:List (Addr×Obj)}{σ:St}{H:Hp}{s:Shared}{E:Value→Shared→Prop}
theorem Inv.wish (I:Inv X pins σ H s)(E:Value→Shared→Prop):Inv (X.wish E) pins σ H s:=⟨I.ok.wish E,I.os,I.bare,I.base,I.loc,I.cell,I.free,I.freeC,I.pin,I.hok,I.len⟩
theorem Inv.unwish (I:Inv (X.wish E) pins σ H s):Inv X pins σ H s:=⟨I.ok.unwish,I.os,I.bare,I.base,I.loc,I.cell,I.free,I.freeC,I.pin,I.hok,I.len⟩
theorem SP.unwish {D:g9}{f:Flow}{s':Shared}(h:SP (X.wish E) pins D f s'):SP X pins D f s':=by
 cases f with
 | next=>obtain⟨σ',H',I,q⟩:=h;exact⟨σ',H',I.unwish,q⟩
 | brk=>obtain⟨σ',H',I,q⟩:=h;exact⟨σ',H',I.unwish,q⟩
 | cont=>obtain⟨σ',H',I,q⟩:=h;exact⟨σ',H',I.unwish,q⟩
 | ret u=>obtain⟨v,σ',H',I,r,q⟩:=h;exact⟨v,σ',H',I.unwish,r,q⟩
theorem PSs.nox {st:List Stmt}{t:TS}(h:PSs X.nox st t):PSs X st t:=fun pins s σ H D I hw =>
 wpAny_mono (h s σ H D (I.wish _) hw) (fun _ _ q=>q.unwish) fun _ _ z=>False.elim z
end

/-! ### blocks and small statements -/
section
variable {X:Cx}{st:Stmt}{ck:List Stmt}{t u:TS}{e:Expr}{te:TE}{pos:Pos}
def uG:TS:=fun D σ H=>D.nx σ H
def wK (t u:TS):TS:=fun D σ H=>t { D with nx:=u D } σ H
theorem aB:PSs X [] uG:=fun _ _ σ H _ I h=>wpAny_execs_nil ⟨σ,H,I,h⟩
theorem al (h1:PS X st t)(h2:PSs X ck u):PSs X (st::ck) (wK t u):=by
 intro pins s σ H D I h
 refine wpAny_execs_cons (thn (h1 s σ H { D with nx:=u D } I h) fun f s1 q=>?_)
 cases f with
 | next =>
   obtain⟨σ',H',I',q⟩:=q
   exact h2 s1 σ' H' D I' q
 | ret v=>exact q
 | brk=>exact q
 | cont=>exact q
theorem ag (h1:PS X st t):PSs X [st] t:=by
 intro pins s σ H D I h
 refine wpAny_execs_cons (thn (h1 s σ H D I h) fun f s1 q=>?_)
 cases f with
 | next=>exact wpAny_execs_nil q
 | ret v=>exact q
 | brk=>exact q
 | cont=>exact q
theorem Inv.quiet {pins:List (Addr×Obj)}{σ:St}{H:Hp}{s:Shared}(I:Inv X pins σ H s):interactive X.env=false:=by simp[interactive,I.ok.kind]
def ux (te:TE):TS:=fun D σ H=>te σ H fun _ H1=>D.nx σ H1
theorem aO (he:PE X e te)(hs:swapsWith e none pos.line X.env=pure false:=by rfl):PS X (.Expr e pos) (ux te):=by
 intro pins s σ H D I h
 exact wpAny_Expr_any (thn (he s σ H _ I h) fun v s1 ⟨x,H1,I1,r1,q1⟩=>⟨σ,H1,I1,q1⟩) I.quiet hs
def wg (te:TE):TS:=fun D σ H=>te σ H D.rt
theorem ax (he:PE X e te):PS X (.Return (some e) pos) (wg te):=by
 intro pins s σ H D I h
 exact wpAny_Return_some (thn (he s σ H _ I h) fun v s1 ⟨x,H1,I1,r1,q1⟩=>⟨x,σ,H1,I1,r1,q1⟩)
def v9 (c:TT)(t u:TS):TS:=fun D σ H=>c σ H fun b H1=>if b=true then t D σ H1 else u D σ H1
theorem aZ {c:Expr}{a b:List Stmt}{tc:TT}(hc:PT X c tc)(ha:PSs X a t)(hb:PSs X b u):PS X (.If c a b pos) (v9 tc t u):=by
 intro pins s σ H D I h
 refine wpAny_If (thn (hc s σ H _ I h) fun d s1 ⟨H1,I1,q1⟩=>?_)
 cases d with
 | true=>exact ha s1 σ H1 D I1 q1
 | false=>exact hb s1 σ H1 D I1 q1
def vO:TS:=fun _ _ _=>False
theorem bU {sts:List Stmt}:PSs X sts vO:=fun _ _ _ _ _ _ h=>h.elim
end

/-! ### targets -/
abbrev TG:=V→St→Hp→(St→Hp→Prop)→Prop
abbrev TGs:=List V→St→Hp→(St→Hp→Prop)→Prop
def PG (X:Cx)(target:Expr)(t:TG):Prop :=
 ∀ ⦃pins:List (Addr×Obj)⦄ (s:Shared) (σ:St)(H:Hp) (v:V) (u:Value)(Q:St→Hp→Prop),Inv X pins σ H s→aW v u→t v σ H Q →
   wpAny (model X.prog X.w) X.A (assign target X.env u) (fun _ s'=>∃ σ' H',Inv X pins σ' H' s'∧Q σ' H') X.xe s
def PGs (X:Cx)(ts:List Expr)(t:TGs):Prop :=
 ∀ ⦃pins:List (Addr×Obj)⦄ (s:Shared) (σ:St)(H:Hp)(vs:List V)(us:List Value)(Q:St→Hp→Prop),Inv X pins σ H s→Vals vs us→t vs σ H Q →
   wpAny (model X.prog X.w) X.A (assignInOrder ((assignEach ts X.env).map (·.2)) us) (fun _ s'=>∃ σ' H',Inv X pins σ' H' s'∧Q σ' H') X.xe s
abbrev vW:=V→V→V→Hp→(Hp→Prop)→Prop
def wy (X:Cx)(t:vW):Prop :=
 ∀ (pins:List (Addr×Obj))(s:Shared) (σ:St)(H:Hp) (o i v:V) (ov iv u:Value)(Q:Hp→Prop),Inv X pins σ H s→aW o ov→aW i iv→aW v u→t o i v H Q →
   wpAny (model X.prog X.w) X.A (setItem ov iv u) (fun _ s'=>∃ H',Inv X pins σ H' s'∧Q H') X.xe s
abbrev TIp:=V→V→Hp→VK→Prop
def PIp (X:Cx)(op:Operator)(t:TIp):Prop :=
 ∀ (pins:List (Addr×Obj))(s:Shared) (σ:St)(H:Hp) (x y:V) (v u:Value)(Q:VK),Inv X pins σ H s→aW x v→aW y u→t x y H Q →
   wpAny (model X.prog X.w) X.A (inplaceOp op v u) (EP X pins σ Q) X.xe s
section
variable {X:Cx}{pos:Pos}
def cO (i:Nat):TG:=fun v σ H Q=>Q (σ.set i (some v)) H
theorem au {i:Nat}{x:Str}(hN:X.N.Nodup)(hi:X.N[i]?=some x)(hx:Loc X.env.scope x)(hf:X.fn x=true∨X.env.scope.names.lookup x=some .local:=by first | exact .inl rfl | exact .inr rfl | assumption):PG X (.Name x pos) (cO i):=by
 intro pins s σ H v u Q I r h
 exact wpAny_assign_Name (jo I hN hi hx r (fun s' I'=>⟨_,H,I',h⟩) hf)
def nE:TGs:=fun vs σ H Q=>vs=[]∧Q σ H
def dw (t:TG)(u:TGs):TGs:=fun vs σ H Q=>∃ v r,vs=v::r∧t v σ H fun σ' H'=>u r σ' H' Q
theorem dh:PGs X [] nE:=by
 intro pins s σ H vs us Q I r h
 obtain⟨e,h⟩:=h
 subst e
 cases r
 exact assignInOrder_nil ⟨σ,H,I,h⟩
theorem aX {e:Expr}{es:List Expr}{t:TG}{u:TGs}(h1:PG X e t)(h2:PGs X es u)
   (hs:(assignEach (e::es) X.env).map (·.2)=assign e X.env::(assignEach es X.env).map (·.2):=by rfl):PGs X (e::es) (dw t u):=by
 intro pins s σ H vs us Q I r h
 obtain⟨v,vr,e1,h⟩:=h
 subst e1
 cases r with
 | cons r rr =>
   rw[hs]
   refine assignInOrder_cons (thn (h1 s σ H _ _ _ I r h) fun _ s1 ⟨σ1,H1,I1,q1⟩=>?_)
   exact h2 s1 σ1 H1 _ _ Q I1 rr q1
def qa (K:PySem.W.Frag) (n:Nat)(t:TGs):TG:=fun v σ H Q=>∃ a xs,v=.ref a∧SqT K H a xs∧xs.length=n∧t xs σ H Q
theorem d7 {es:List Expr}{k:Nat}{t:TGs}{n:Nat}(hc:X.calm=true)(h:PGs X es t)
   (hn:(assignEach es X.env).length=n:=by rfl)(hst:(assignEach es X.env).findIdx? (·.1)=none:=by rfl):PG X (.Tuple es k pos) (qa X.K n t):=by
 intro pins s σ H v u Q I r hw
 obtain⟨a,xs,e1,hq,hl,hw⟩:=hw
 subst e1
 cases r
 obtain⟨its,rv,ht,hz⟩:=I.tuple hq
 refine assign_Tuple_tuple (I.ok.hd hc) ht (by simp[hn,←hl,rv.length]) hst fun h' hx=>?_
 have I1:Inv X pins σ H { s with heap:=h' }:=I.kept (t':=s.toks) fun b o e=>hx b o (Nat.ne_of_lt (Heap.lt_size e)) e
 exact h _ σ H xs _ Q I1 (by simpa using rv) hw
def wo (to ti:TE)(t:vW):TG:=fun v σ H Q=>to σ H fun o H1=>ti σ H1 fun i H2=>t o i v H2 fun H3=>Q σ H3
theorem rm {o i:Expr}{to ti:TE}{t:vW}(ho:PE X o to)(hi:PE X i ti)(hs:wy X t)
   (ha:∀ v,assign (.Subscript o i pos) X.env v=(do
     let ov ←holding [v] (eval o X.env)
     let iv ←holding [v,ov] (eval i X.env)
     standAt pos
     holding [v,ov,iv] (setItem ov iv v)
     release [v,ov,iv] []):=by intro _;rfl):PG X (.Subscript o i pos) (wo to ti t):=by
 intro pins s σ H v u Q I r h
 rw[ha]
 refine wpAny_bind (wpAny_holding (thn (ho s σ H _ I h) fun ov s1 ⟨x,H1,I1,r1,q1⟩=>?_))
 refine wpAny_bind (wpAny_holding (thn (hi s1 σ H1 _ I1 q1) fun iv s2 ⟨y,H2,I2,r2,q2⟩=>?_))
 refine wpAny_bind (wpAny_standAt (wpAny_bind (wpAny_holding (thn (hs pins s2 σ H2 x y v ov iv u _ I2 r1 r2 r q2) fun _ s3 ⟨H3,I3,q3⟩=>?_))))
 exact wpAny_release ⟨σ,H3,I3,q3⟩
def ul (te:TE)(g:TG):TS:=fun D σ H=>te σ H fun x H1=>g x σ H1 D.nx
theorem lU {tg e:Expr}{te:TE}{g:TG}(he:PE X e te)(hg:PG X tg g)(hs:swapsWithSole [tg] e pos.line X.env=pure false:=by rfl)(hw:swappedStores [tg] e X.env=pure none:=by rfl)
   (h1:(assignEach [tg] X.env).map (·.2)=[assign tg X.env]:=by rfl):PS X (.Assign [tg] e pos) (ul te g):=by
 intro pins s σ H D I h
 refine wpAny_Assign_stores (thn (he s σ H _ I h) fun v s1 ⟨x,H1,I1,r1,q1⟩=>?_) hs hw
 rw[h1]
 exact thn (hg s1 σ H1 x v _ I1 r1 q1) fun _ s2 q=>q
theorem aC {i:Nat}{x:Str}{e:Expr}{te:TE}{pos':Pos}(hN:X.N.Nodup)(hi:X.N[i]?=some x)(hx:Loc X.env.scope x)(he:PE X e te)(hs:swapsWith e (some (.Name x pos')) pos.line X.env=pure false:=by rfl)(hf:X.fn x=true∨X.env.scope.names.lookup x=some .local:=by first | exact .inl rfl | exact .inr rfl | assumption) :
   PS X (.Assign [.Name x pos'] e pos) (ul te (cO i)):=by
 intro pins s σ H D I h
 refine wpAny_Assign_Name (thn (he s σ H _ I h) fun v s1 ⟨y,H1,I1,r1,q1⟩=>?_) hs
 exact jo I1 hN hi hx r1 (fun s2 I2=>⟨_,H1,I2,q1⟩) hf
def wx (i:Nat)(te:TE)(ti:TIp):TS:=fun D σ H=>∃ x,σ[i]?=some (some x)∧te σ H fun y H1=>ti x y H1 fun z H2=>D.nx (σ.set i (some z)) H2
theorem vJ {i:Nat}{x:Str}{e:Expr}{te:TE}{op:Operator}{ti:TIp}{pos':Pos}(hN:X.N.Nodup)(hi:X.N[i]?=some x)(hx:Loc X.env.scope x)(he:PE X e te)(ho:PIp X op ti)(hf:X.fn x=true∨X.env.scope.names.lookup x=some .local:=by first | exact .inl rfl | exact .inr rfl | assumption) :
   PS X (.AugAssign (.Name x pos') op e pos) (wx i te ti):=by
 intro pins s σ H D I h
 obtain⟨v,e1,h⟩:=h
 obtain⟨m,hn,hl⟩:=I.loc
 have vis:Vis X.env.scope x:=by rcases hx with k | k;exact .inl k;exact .inr (.inl k)
 obtain⟨u,r,l⟩:=hl i x v hi e1 vis
 refine wpAny_AugAssign_Name ?_
 have go:wpAny (model X.prog X.w) X.A (eval e X.env) (fun w s₂=>wpAny (model X.prog X.w) X.A (inplaceOp op u w) (fun r s₃=>wpAny (model X.prog X.w) X.A (storeName X.env x r) (fun _=>SP X pins D .next) X.xe s₃) X.xe s₂) X.xe s:=by
   refine thn (he s σ H _ I h) fun w s1 ⟨y,H1,I1,r1,q1⟩=>?_
   refine thn (ho pins s1 σ H1 v y u w _ I1 r r1 q1) fun z s2 ⟨zv,H2,I2,r2,q2⟩=>?_
   exact jo I2 hN hi hx r2 (fun s3 I3=>⟨_,H2,I3,q2⟩) hf
 rcases l with ⟨hk,hm⟩ | ⟨hk,c,hc,hcell⟩
 · exact wpAny_loadName_local I.ok.kind hk hn hm go
 · rcases hk with hk | hk
   · exact wpAny_loadName_cell I.ok.kind hk hc hcell go
   · rcases hx with k | k
     · have:X.env.scope.names.lookup x=some .free:=hk
       rw[k] at this;cases this
     · have:X.env.scope.names.lookup x=some .free:=hk
       rw[k] at this;cases this
def ipI (f:Int→Int→Int):TIp:=fun x y H Q=>∃ i j,x=.int i∧y=.int j∧Q (.int (f i j)) H
theorem u6:PIp X .Add (ipI fun i j=>i+j):=by
 intro pins s σ H x y v u Q I r1 r2 h
 obtain⟨i,j,e1,e2,q⟩:=h
 subst e1;subst e2
 obtain⟨t,rfl⟩:=r1
 obtain⟨t',rfl⟩:=r2
 exact iadd_int ⟨.int _,H,I.tok _,⟨_,rfl⟩,q⟩
end

/-! ### while -/
section
variable {X:Cx}{pos:Pos}
def qG (c:TT)(tb:TS):TS:=fun D σ H=>∃ W:Nat→St→Hp→Prop,(∃ m,W m σ H)∧∀ m σ H,W m σ H →
 c σ H fun b H1=>if b=true then ∃ N:St→Hp→Prop,(∀ σ' H',N σ' H'→∃ m',m' < m∧W m' σ' H')∧tb { D with nx:=N,ct:=N,bk:=D.nx } σ H1 else D.nx σ H1
theorem nb {c:Expr}{body:List Stmt}{tc:TT}{tb:TS}(hp:PassesOwn (model X.prog X.w) X.A X.env X.xe)(hc:PT X c tc)(hb:PSs X body tb):PS X (.While c body [] pos) (qG tc tb):=by
 intro pins s σ H D I h
 obtain⟨W,⟨m0,w0⟩,turn⟩:=h
 refine wpAny_While (codeAny_whileLoop (fun n s'=>∃ σ' H',Inv X pins σ' H' s'∧W n σ' H') ?_ m0 ⟨σ,H,I,w0⟩)
 rintro n s1 ⟨σ1,H1,I1,w1⟩
 refine wpAny_passesOwn hp (thn (hc s1 σ1 H1 _ I1 (turn n σ1 H1 w1)) fun b s2 ⟨H2,I2,q2⟩=>?_)
 cases b with
 | true =>
   obtain⟨N,hN,q2⟩:=q2
   rw[if_pos rfl]
   refine wpAny_passesOwn hp (thn (hb s2 σ1 H2 _ I2 q2) fun f s3 q3=>?_)
   cases f with
   | next =>
     obtain⟨σ3,H3,I3,n3⟩:=q3
     obtain⟨m',hm,w3⟩:=hN σ3 H3 n3
     exact⟨m',hm,σ3,H3,I3,w3⟩
   | cont =>
     obtain⟨σ3,H3,I3,n3⟩:=q3
     obtain⟨m',hm,w3⟩:=hN σ3 H3 n3
     exact⟨m',hm,σ3,H3,I3,w3⟩
   | brk=>exact q3
   | ret v=>exact q3
 | false =>
   rw[if_neg Bool.false_ne_true]
   exact wpAny_execs_nil ⟨σ1,H2,I2,q2⟩
end

/-! ### what a loop or a comprehension walks -/
structure It where
 go:Nat→Hp→Prop
 yld:Nat→Hp→V→Hp→Prop
 stop:Nat→Hp→Prop
def d8 (X:Cx)(pins:List (Addr×Obj))(H:Hp)(b:Addr):Prop :=
 H b=none∧b≠X.env.locals∧b∉X.fs∧(b∈X.ex∨X.s₀.heap.objs.size≤b)∧(∀ x c,X.env.cells.lookup x=some c→c≠b)∧∀ p∈X.pn++pins,p.1≠b
theorem Inv.fpOk {X:Cx}{pins:List (Addr×Obj)}{σ:St}{H H':Hp}{s:Shared}{b:Addr}(I:Inv X pins σ H s)(hb:s.heap.objs.size≤b)(hn:H' b=none):d8 X pins H' b:=by
 refine⟨hn,Nat.ne_of_gt (Nat.lt_of_lt_of_le I.lt hb),I.nofs hb,.inr (Nat.le_trans I.sz hb),fun x c e z=>?_,fun p hp z=>?_⟩
 · obtain⟨v,q⟩:=I.cell x c e
   exact absurd (Nat.lt_of_lt_of_le q.lt (by rw[z];exact hb)) (Nat.lt_irrefl _)
 · exact absurd (Nat.lt_of_lt_of_le (Heap.lt_size (I.pin p hp).1) (by rw[z];exact hb)) (Nat.lt_irrefl _)
structure lg (P:Program)(w:World)(K:PySem.W.Frag)(tg:Expr)(J:It)(fp:List Addr)(it:Addr)(tn:Nat→Heap→Prop):Prop where
 mem:it∈fp
 obj:∀ i h,tn i h→∀ b∈fp,∃ o,h.get? b=some o∧∀ v,o.data≠.cell v
 keep:∀ i h h',tn i h→(∀ b∈fp,∀ o,h.get? b=some o→h'.get? b=some o)→tn i h'
 item:∀ (X:Cx),X.prog=P→X.w=w→X.K=K→X.calm=true→∀ (i:Nat)(pins:List (Addr×Obj))(s:Shared) (σ:St)(H:Hp)(E:Value→Shared→Prop),Inv X pins σ H s→(∀ b∈fp,d8 X pins H b)→tn i s.heap→J.go i H →
   wpAny (model P w) X.A (pyNext (.ref it)) (fun r s1=>∃ u,r=some u ∧
     wpAny (model P w) X.A (letOwnedTupleGo tg (.ref it) u) (fun _ s2=>∃ x H',Inv X pins σ H' s2∧aW x u∧J.yld i H x H'∧tn (i+1) s2.heap∧∀ b∈fp,H' b=none) E s1) E s
 done:∀ (X:Cx),X.prog=P→X.w=w→X.K=K→X.calm=true→∀ (i:Nat)(pins:List (Addr×Obj))(s:Shared) (σ:St)(H:Hp)(E:Value→Shared→Prop),Inv X pins σ H s→(∀ b∈fp,d8 X pins H b)→tn i s.heap→J.stop i H →
   wpAny (model P w) X.A (pyNext (.ref it)) (fun r s1=>r=none∧Inv X pins σ H s1) E s
 self:∀ (A:Around) (i:Nat)(s:Shared)(Q:Value→Shared→Prop)(E:Value→Shared→Prop),tn i s.heap→Q (.ref it) s→wpAny (model P w) A (pyIter (.ref it)) Q E s
abbrev TI:=St→Hp→(It→Hp→Prop)→Prop
def PIE (X:Cx)(pins:List (Addr×Obj)) (σ:St)(tg:Expr)(R:It→Hp→Prop) (itv:Value)(s2:Shared):Prop :=
 ∃ (it:Addr)(fp:List Addr)(tn:Nat→Heap→Prop)(J:It)(H':Hp),itv=.ref it∧Inv X pins σ H' s2∧lg X.prog X.w X.K tg J fp it tn∧tn 0 s2.heap∧(∀ b∈fp,d8 X pins H' b)∧R J H'
def PI (X:Cx)(tg iter:Expr)(wi:TI):Prop :=
 ∀ ⦃pins:List (Addr×Obj)⦄ (s:Shared) (σ:St)(H:Hp)(R:It→Hp→Prop),Inv X pins σ H s→wi σ H R →
   wpAny (model X.prog X.w) X.A (eval iter X.env) (fun v s1=>wpAny (model X.prog X.w) X.A (pyIter v) (PIE X pins σ tg R) X.xe s1) X.xe s

theorem mm {M:Model}{A:Around}{E:Value→Shared→Prop}{s:Shared}{tg:Expr}{it:Addr}{u:Value}{o:Obj}{n:String}{vs:Array Value}{Q:Unit→Shared→Prop}(ho:s.heap.get? it=some o)(hc:o.cls=.type n)(hd:o.data=.fields vs)
   (hn:["enumerate", "zip", "dict_itemiterator", "dict_reverseitemiterator", "odict_iterator", "itertools.zip_longest", "itertools.pairwise"].contains n=false)(hQ:Q () s):wpAny M A (letOwnedTupleGo tg (.ref it) u) Q E s:=by
 unfold letOwnedTupleGo
 cases tg<;>first
   | exact wpAny_pure hQ
   | (cases u<;>first
       | exact wpAny_pure hQ
       | (refine wpAny_bind (wpAny_load ho ?_)
          rw[hc,hd]
          show wpAny M A (if(["enumerate", "zip", "dict_itemiterator", "dict_reverseitemiterator", "odict_iterator", "itertools.zip_longest", "itertools.pairwise"].contains n&&vs[0]?==some (rawInt _))=true then _ else _) Q E s
          rw[if_neg (by intro h;rw[hn,Bool.false_and] at h;cases h)]
          exact wpAny_pure hQ))

def Itl (K:PySem.W.Frag)(a:Addr):It :=
 ⟨fun i H=>∃ xs x,SqL K H a xs∧xs[i]?=some x,fun i H x H'=>H'=H∧∀ xs,SqL K H a xs→xs[i]?=some x,fun i H=>∃ xs,SqL K H a xs∧xs.length≤i⟩
def Itt (K:PySem.W.Frag)(a:Addr):It :=
 ⟨fun i H=>∃ xs x,SqT K H a xs∧xs[i]?=some x,fun i H x H'=>H'=H∧∀ xs,SqT K H a xs→xs[i]?=some x,fun i H=>∃ xs,SqT K H a xs∧xs.length≤i⟩
def Itr (lo:Int) (n:Nat):It:=⟨fun i _=>i < n,fun i H x H'=>H'=H∧x=.int (lo+i),fun i _=>n≤i⟩
theorem pR {P:Program}{w:World}{K:PySem.W.Frag}{tg:Expr}(a it:Addr):lg P w K tg (Itl K a) [it] it (fun i h=>h.IsListIter it a i) where
 mem:=by simp
 obj:=fun i h st b hb=>by
   have e:b=it:=by simpa using hb
   subst e
   obtain⟨o,e,c,d⟩:=st
   exact⟨o,e,fun v z=>by rw[d] at z;cases z⟩
 keep:=fun i h h' st k=>st.at fun o e=>k it (by simp) o e
 item:=by
   intro X hP hw hK hc i pins s σ H E I hf st hg
   subst hP hw hK
   obtain⟨xs,x,hq,hx⟩:=hg
   obtain⟨its,rv,p,hz⟩:=I.list hq
   obtain⟨u,hu,ru⟩:=rv.get hx
   obtain⟨f0,f1,f2,f3,f4,f5⟩:=hf it (by simp)
   refine wpAny_pyNext_list_item st p.isList (x:=u) (by simpa using hu) fun h' st' sb=>?_
   have I1:Inv X pins σ H { s with heap:=h' }:=I.turned (t':=s.toks) (fun b o hb e=>(sb.2 b hb).trans e) f0 f1 f3 f4 f5
   obtain⟨o,e,c,d⟩:=id st'
   exact⟨u,rfl,mm (s:={ s with heap:=h' }) e c d (by decide) ⟨x,H,I1,ru,⟨rfl,fun ys hy=>by rw[I.list_inj hy hq];exact hx⟩,st',fun b hb=>(hf b hb).1⟩⟩
 done:=by
   intro X hP hw hK hc i pins s σ H E I hf st hg
   subst hP hw hK
   obtain⟨xs,hq,hx⟩:=hg
   obtain⟨its,rv,p,hz⟩:=I.list hq
   obtain⟨f0,f1,f2,f3,f4,f5⟩:=hf it (by simp)
   have hl:=rv.length
   exact wpAny_pyNext_list_end (I.ok.hd hc) st p.isList (by simp;omega) fun h' eb=>⟨rfl,I.turned (t':=s.toks) (fun b o hb e=>eb b o hb e) f0 f1 f3 f4 f5⟩
 self:=fun _ _ _ _ _ st h=>wpAny_pyIter_listiter st h
theorem nA {P:Program}{w:World}{K:PySem.W.Frag}{tg:Expr}(a it:Addr):lg P w K tg (Itt K a) [it] it (fun i h=>h.IsTupleIter it a i) where
 mem:=by simp
 obj:=fun i h st b hb=>by
   have e:b=it:=by simpa using hb
   subst e
   obtain⟨o,e,c,d⟩:=st
   exact⟨o,e,fun v z=>by rw[d] at z;cases z⟩
 keep:=fun i h h' st k=>st.at fun o e=>k it (by simp) o e
 item:=by
   intro X hP hw hK hc i pins s σ H E I hf st hg
   subst hP hw hK
   obtain⟨xs,x,hq,hx⟩:=hg
   obtain⟨its,rv,p,hz⟩:=I.tuple hq
   obtain⟨u,hu,ru⟩:=rv.get hx
   obtain⟨f0,f1,f2,f3,f4,f5⟩:=hf it (by simp)
   refine wpAny_pyNext_tuple_item st (show s.heap.IsTuple a its.toArray from p) (x:=u) (by simpa using hu) fun h' st' sb=>?_
   have I1:Inv X pins σ H { s with heap:=h' }:=I.turned (t':=s.toks) (fun b o hb e=>(sb.2 b hb).trans e) f0 f1 f3 f4 f5
   obtain⟨o,e,c,d⟩:=id st'
   exact⟨u,rfl,mm (s:={ s with heap:=h' }) e c d (by decide) ⟨x,H,I1,ru,⟨rfl,fun ys hy=>by rw[I.tuple_inj hy hq];exact hx⟩,st',fun b hb=>(hf b hb).1⟩⟩
 done:=by
   intro X hP hw hK hc i pins s σ H E I hf st hg
   subst hP hw hK
   obtain⟨xs,hq,hx⟩:=hg
   obtain⟨its,rv,p,hz⟩:=I.tuple hq
   obtain⟨f0,f1,f2,f3,f4,f5⟩:=hf it (by simp)
   have hl:=rv.length
   exact wpAny_pyNext_tuple_end (I.ok.hd hc) st (show s.heap.IsTuple a its.toArray from p) (by simp;omega) fun h' eb=>⟨rfl,I.turned (t':=s.toks) (fun b o hb e=>eb b o hb e) f0 f1 f3 f4 f5⟩
 self:=fun _ _ _ _ _ st h=>wpAny_pyIter_tupleiter st h
theorem nS {P:Program}{w:World}{K:PySem.W.Frag}{tg:Expr}(it:Addr) (lo:Int) (n:Nat):lg P w K tg (Itr lo n) [it] it (fun i h=>IsRangeIter h it (lo+(i:Nat)*1) ((n:Int) - (i:Nat)) 1) where
 mem:=by simp
 obj:=fun i h st b hb=>by
   have e:b=it:=by simpa using hb
   subst e
   exact⟨_,st,fun v z=>by
     have z':Data.fields _=Data.cell v:=z
     cases z'⟩
 keep:=fun i h h' st k=>k it (by simp) _ st
 item:=by
   intro X hP hw hK hc i pins s σ H E I hf st hg
   subst hP hw hK
   obtain⟨f0,f1,f2,f3,f4,f5⟩:=hf it (by simp)
   have W:=Walks.range (prog:=X.prog) (w:=X.w) (I.ok.hd hc) it lo 1 n
   refine W.item i s _ _ hg st fun v h' tk hv st' kk=>?_
   obtain⟨t,rfl⟩:=hv
   have I1:Inv X pins σ H { s with heap:=h',toks:=tk }:=I.turned (fun b o hb e=>kk b o (by simpa using hb) e) f0 f1 f3 f4 f5
   refine⟨_,rfl,mm (s:={ s with heap:=h',toks:=tk }) (n:="range_iterator") st' rfl rfl (by decide) ⟨.int (lo+i),H,I1,⟨t,?_⟩,⟨rfl,rfl⟩,st',fun b hb=>(hf b hb).1⟩⟩
   rw[Int.mul_one]
 done:=by
   intro X hP hw hK hc i pins s σ H E I hf st hg
   subst hP hw hK
   obtain⟨f0,f1,f2,f3,f4,f5⟩:=hf it (by simp)
   exact wpAny_pyNext_range_end (I.ok.hd hc) st (by have:n≤i:=hg;omega) fun h' eb=>⟨rfl,I.turned (t':=s.toks) (fun b o hb e=>eb b o hb e) f0 f1 f3 f4 f5⟩
 self:=fun _ _ _ _ _ st h=>wpAny_pyIter_rangeiter st h
end L2

namespace L2
open PySem PySem.Spec PyProof.Rows
section
variable {X:Cx}{tg:Expr}
def uP (K:PySem.W.Frag)(tl:TE):TI:=fun σ H R=>tl σ H fun x H1=>∃ a,x=.ref a∧(∃ xs,SqL K H1 a xs)∧R (Itl K a) H1
def wC (K:PySem.W.Frag)(tl:TE):TI:=fun σ H R=>tl σ H fun x H1=>∃ a,x=.ref a∧(∃ xs,SqT K H1 a xs)∧R (Itt K a) H1
theorem a9 {l:Expr}{tl:TE}(hl:PE X l tl):PI X tg l (uP X.K tl):=by
 intro pins s σ H R I h
 refine thn (hl s σ H _ I h) fun v s1 ⟨x,H1,I1,r1,q1⟩=>?_
 obtain⟨a,e,⟨xs,hq⟩,q⟩:=q1
 subst e
 cases r1
 obtain⟨its,rv,p,hz⟩:=I1.list hq
 refine wpAny_pyIter_list p.isList ?_
 refine⟨s1.heap.objs.size,[s1.heap.objs.size],_,_,H1,rfl,I1.kept (t':=s1.toks) fun b o e=>Heap.get?_push_of_some _ e,pR a _,⟨_,Heap.get?_push_size _ rfl,rfl,rfl⟩,fun b hb=>?_,q⟩
 have e:b=s1.heap.objs.size:=by simpa using hb
 subst e
 exact I1.fpOk (Nat.le_refl _) (I1.hok.fresh (Nat.le_refl _))
theorem u7 {l:Expr}{tl:TE}(hl:PE X l tl):PI X tg l (wC X.K tl):=by
 intro pins s σ H R I h
 refine thn (hl s σ H _ I h) fun v s1 ⟨x,H1,I1,r1,q1⟩=>?_
 obtain⟨a,e,⟨xs,hq⟩,q⟩:=q1
 subst e
 cases r1
 obtain⟨its,rv,p,hz⟩:=I1.tuple hq
 refine wpAny_pyIter_tuple (show s1.heap.IsTuple a its.toArray from p) ?_
 refine⟨s1.heap.objs.size,[s1.heap.objs.size],_,_,H1,rfl,I1.kept (t':=s1.toks) fun b o e=>Heap.get?_push_of_some _ e,nA a _,⟨_,Heap.get?_push_size _ rfl,rfl,rfl⟩,fun b hb=>?_,q⟩
 have e:b=s1.heap.objs.size:=by simpa using hb
 subst e
 exact I1.fpOk (Nat.le_refl _) (I1.hok.fresh (Nat.le_refl _))
theorem rc {pins:List (Addr×Obj)}{σ:St}{H:Hp}{s:Shared}{R:It→Hp→Prop}{E:Value→Shared→Prop}{lo hi:Int}{t u v:Tok}{tk:Nat}(I:Inv X pins σ H s)(h1:-(2 ^ 62)≤lo)(h2:lo < 2 ^ 62)(h3:-(2 ^ 62)≤hi)(h4:hi < 2 ^ 62)
   (q:R (Itr lo (hi - lo).toNat) H):wpAny (model X.prog X.w) X.A (pyIter (.ref s.heap.objs.size)) (PIE X pins σ tg R) E { s with heap:=s.heap.push { cls:=.type "range",data:=.fields #[.int lo t,.int hi u,.int 1 v] },toks:=tk }:=by
 refine wpAny_pyIter_range (IsRange.new ..) (small_one h1 h2 h3 h4) ?_
 have I1:Inv X pins σ H { s with heap:=s.heap.push { cls:=.type "range",data:=.fields #[.int lo t,.int hi u,.int 1 v] },toks:=tk }:=I.kept fun b o e=>Heap.get?_push_of_some _ e
 refine⟨(s.heap.push { cls:=.type "range",data:=.fields #[.int lo t,.int hi u,.int 1 v] }).objs.size,[(s.heap.push { cls:=.type "range",data:=.fields #[.int lo t,.int hi u,.int 1 v] }).objs.size],_,_,H,rfl,
   I1.kept (t':=tk) fun b o e=>Heap.get?_push_of_some _ e,nS _ lo (hi - lo).toNat,?_,fun b hb=>?_,q⟩
 · have e1:lo+((0:Nat):Int)*1=lo:=by simp
   have e2:(((hi - lo).toNat:Nat):Int) - ((0:Nat):Int)=Builtin.Range.rangeSize lo hi 1:=by rw[rangeSize_one];split<;>omega
   show IsRangeIter _ _ (lo+((0:Nat):Int)*1) ((((hi - lo).toNat:Nat):Int) - ((0:Nat):Int)) 1
   rw[e1,e2]
   exact Heap.get?_push_size _ rfl
 · have e:b=(s.heap.push { cls:=.type "range",data:=.fields #[.int lo t,.int hi u,.int 1 v] }).objs.size:=by simpa using hb
   subst e
   exact I1.fpOk (Nat.le_refl _) (I1.hok.fresh (Nat.le_refl _))
def uT (ta:TA):TI:=fun σ H R=>ta σ H fun vs H1=>∃ j:Int,vs=[.int j]∧-(2 ^ 62)≤j∧j < 2 ^ 62∧R (Itr 0 j.toNat) H1
def wl (ta:TA):TI:=fun σ H R=>ta σ H fun vs H1=>∃ i j:Int,vs=[.int i,.int j]∧(-(2 ^ 62)≤i∧i < 2 ^ 62∧-(2 ^ 62)≤j∧j < 2 ^ 62)∧R (Itr i (j - i).toNat) H1
theorem cj {a:Expr}{ta:TA}{p pos:Pos}(hg:Gl X "range")(hm:X.mg "range"=none)(ha:PA X [a] ta)(hs:starEach [a] X.env=[(false,eval a X.env)]:=by rfl):PI X tg (.Call (.Name "range" p) [a] [] pos) (uT ta):=by
 intro pins s σ H R I h
 refine Call_ (gm I hg hm boot_range (PyProof.Rows.callWith_type1 (thn (ha pos s σ H _ I h) fun us s1 ⟨vs,H1,I1,r1,q1⟩=>?_) hs rfl))
 obtain⟨j,e,q1,q2,q⟩:=q1
 subst e
 cases r1 with
 | cons r rr =>
   cases rr
   obtain⟨t,rfl⟩:=r
   exact call_range_1 (rc I1 (by omega) (by omega) q1 q2 (by simpa using q))
/-! ### for -/
def wI (wi:TI)(g:TG)(tb:TS):TS:=fun D σ H=>wi σ H fun J H1=>∃ W:Nat→Nat→St→Hp→Prop,(∃ m,W 0 m σ H1)∧∀ i m σ H,W i m σ H →
 (J.stop i H∧D.nx σ H)∨(J.go i H∧∃ N:St→Hp→Prop,(∀ σ' H',N σ' H'→∃ m',m' < m∧W (i+1) m' σ' H')∧∀ x H',J.yld i H x H'→g x σ H' fun σ2 H2=>tb { D with nx:=N,ct:=N,bk:=D.nx } σ2 H2)
def ju (fp:List Addr)(h:Heap):List (Addr×Obj):=fp.filterMap fun b=>(h.get? b).map fun o=>(b,o)
theorem cZ {fp:List Addr}{h:Heap}{b:Addr}{o:Obj}(hb:b∈fp)(e:h.get? b=some o):(b,o)∈ju fp h:=List.mem_filterMap.mpr ⟨b,hb,by rw[e];rfl⟩
theorem pS {fp:List Addr}{h:Heap}{p:Addr×Obj}(hp:p∈ju fp h):p.1∈fp∧h.get? p.1=some p.2:=by
 obtain⟨b,hb,e⟩:=List.mem_filterMap.mp hp
 cases q:h.get? b with
 | none=>rw[q] at e;cases e
 | some o =>
   rw[q] at e
   have e':(b,o)=p:=Option.some.inj e
   subst e'
   exact⟨hb,q⟩
theorem Inv.pinned {pins:List (Addr×Obj)}{σ:St}{H:Hp}{s:Shared}{fp:List Addr}(I:Inv X pins σ H s)(hf:∀ b∈fp,d8 X pins H b)(ho:∀ b∈fp,∃ o,s.heap.get? b=some o∧∀ v,o.data≠.cell v):Inv X (pins++ju fp s.heap) σ H s :=
 I.pins_of fun p hp=>(List.mem_append.mp hp).elim (fun z=>I.pin p (List.mem_append_right _ z)) fun z=>by
   obtain⟨hb,e⟩:=pS z
   obtain⟨f0,f1,f2,_⟩:=hf p.1 hb
   obtain⟨o,e',d⟩:=ho p.1 hb
   rw[e] at e';cases e'
   exact⟨e,f0,f1,f2,d⟩
theorem Inv.unpinned {pins pl:List (Addr×Obj)}{σ:St}{H:Hp}{s:Shared}(I:Inv X (pins++pl) σ H s):Inv X pins σ H s:=I.pins_of fun p hp=>I.pin p (List.mem_append_right _ (List.mem_append_left _ hp))
theorem bz {iter:Expr}{body:List Stmt}{wi:TI}{g:TG}{tb:TS}{pos:Pos}(hp:PassesOwn (model X.prog X.w) X.A X.env X.xe)(hc:X.calm=true)(hi:PI X tg iter wi)(hg:PG X tg g)(hb:PSs X body tb)
   (hs:∀ x,foldedSetIterable iter X.env x=pure x:=by intro _;rfl):PS X (.For tg iter body [] pos) (wI wi g tb):=by
 intro pins s σ H D I h
 refine wpAny_For (thn (hi s σ H _ I h) fun v s1 h1=>thn h1 fun itv s2 h2=>?_) hs
 obtain⟨it,fp,tn,J,H2,e,I2,T,st2,f2,W,⟨m0,w0⟩,turn⟩:=h2
 subst e
 have stat:∀ {H':Hp},(∀ b∈fp,H' b=none)→∀ b∈fp,d8 X pins H' b:=fun hn b hb=>⟨hn b hb,(f2 b hb).2⟩
 refine codeAny_forLoop_any (fun n s'=>∃ i σ' H',Inv X pins σ' H' s'∧tn i s'.heap∧(∀ b∈fp,H' b=none)∧W i n σ' H') ?_ m0 ⟨0,σ,H2,I2,st2,fun b hb=>(f2 b hb).1,w0⟩
 rintro n s3 ⟨i,σ3,H3,I3,st3,fr3,w3⟩
 rcases turn i n σ3 H3 w3 with ⟨stop,qn⟩ | ⟨go,N,hN,step⟩
 · refine wpAny_passesOwn hp (thn (T.done X rfl rfl rfl hc i pins s3 σ3 H3 X.xe I3 (stat fr3) st3 stop) fun r s4 ⟨hr,I4⟩=>?_)
   subst hr
   exact wpAny_execs_nil ⟨σ3,H3,I4,qn⟩
 · refine wpAny_passesOwn hp (thn (T.item X rfl rfl rfl hc i pins s3 σ3 H3 X.xe I3 (stat fr3) st3 go) fun r s4 ⟨u,hr,h4⟩=>?_)
   subst hr
   refine wpAny_passesOwn hp (thn h4 fun _ s5 ⟨x,H5,I5,r5,y5,st5,fr5⟩=>?_)
   have I5':=I5.pinned (stat fr5) (T.obj _ _ st5)
   refine wpAny_passesOwn hp (thn (hg s5 σ3 H5 x u _ I5' r5 (step x H5 y5)) fun _ s6 ⟨σ6,H6,I6,q6⟩=>?_)
   refine wpAny_passesOwn hp (thn (hb s6 σ6 H6 _ I6 q6) fun f s7 q7=>?_)
   have again:∀ {σ7:St}{H7:Hp},Inv X (pins++ju fp s5.heap) σ7 H7 s7→N σ7 H7→∃ m,m < n∧∃ i σ' H',Inv X pins σ' H' s7∧tn i s7.heap∧(∀ b∈fp,H' b=none)∧W i m σ' H':=fun {σ7 H7} I7 n7=>by
     obtain⟨m',hm,w7⟩:=hN σ7 H7 n7
     refine⟨m',hm,i+1,σ7,H7,I7.unpinned,T.keep _ _ _ st5 fun b hb o e=>(I7.pin (b,o) (List.mem_append_right _ (List.mem_append_right _ (cZ hb e)))).1,fun b hb=>?_,w7⟩
     obtain⟨o,e,d⟩:=T.obj _ _ st5 b hb
     exact(I7.pin (b,o) (List.mem_append_right _ (List.mem_append_right _ (cZ hb e)))).2.1
   cases f with
   | next=>obtain⟨σ7,H7,I7,n7⟩:=q7;exact again I7 n7
   | cont=>obtain⟨σ7,H7,I7,n7⟩:=q7;exact again I7 n7
   | brk=>obtain⟨σ7,H7,I7,q7⟩:=q7;exact⟨σ7,H7,I7.unpinned,q7⟩
   | ret v=>obtain⟨x7,σ7,H7,I7,r7,q7⟩:=q7;exact⟨x7,σ7,H7,I7.unpinned,r7,q7⟩
end

/-! ### the forms one uses -/
end L2

namespace L2
open PySem PySem.Spec PyProof.Rows

abbrev R2:=V→V→Hp→VK→Prop
def OpR (X:Cx)(f:Value→Value→Sem Value)(r:R2):Prop :=
 ∀ (pins:List (Addr×Obj))(s:Shared) (σ:St)(H:Hp) (x y:V) (v u:Value)(Q:VK),Inv X pins σ H s→aW x v→aW y u→r x y H Q →
   wpAny (model X.prog X.w) X.A (f v u) (EP X pins σ Q) X.xe s
def UnR (X:Cx)(f:Value→Sem Value)(r:V→Hp→VK→Prop):Prop :=
 ∀ (pins:List (Addr×Obj))(s:Shared) (σ:St)(H:Hp) (x:V) (v:Value)(Q:VK),Inv X pins σ H s→aW x v→r x H Q →
   wpAny (model X.prog X.w) X.A (f v) (EP X pins σ Q) X.xe s
def cv (X:Cx) (f:Value)(r:List V→Hp→VK→Prop):Prop :=
 ∀ (pins:List (Addr×Obj))(s:Shared) (σ:St)(H:Hp)(xs:List V)(us:List Value)(Q:VK),Inv X pins σ H s→Vals xs us→r xs H Q →
   wpAny (model X.prog X.w) X.A (call f us) (EP X pins σ Q) X.xe s
def tOp (r:R2)(ta tb:TE):TE:=fun σ H Q=>ta σ H fun x H1=>tb σ H1 fun y H2=>r x y H2 Q
def tUn (r:V→Hp→VK→Prop)(ta:TE):TE:=fun σ H Q=>ta σ H fun x H1=>r x H1 Q
def rI (C:Int→Int→Prop)(g:Int→Int→V):R2:=fun x y H Q=>∃ i j,x=.int i∧y=.int j∧C i j∧Q (g i j) H
def rI0 (g:Int→Int→V):R2:=fun x y H Q=>∃ i j,x=.int i∧y=.int j∧Q (g i j) H
def rU (g:Int→V):V→Hp→VK→Prop:=fun x H Q=>∃ i,x=.int i∧Q (g i) H

section
variable {X:Cx}{a b c:Expr}{ta tb tc:TE}{pos:Pos}

theorem vQ (ha:PE X a ta)(hb:PE X b tb){pins:List (Addr×Obj)}{s:Shared}{σ:St}{H:Hp}{R:V→V→Hp→Prop}(I:Inv X pins σ H s)
   (h:ta σ H fun x H1=>tb σ H1 fun y H2=>R x y H2){Q:Value→Shared→Prop}{f:Value→Value→Sem Value}
   (hf:∀ v u s2 x y H2,Inv X pins σ H2 s2→aW x v→aW y u→R x y H2→wpAny (model X.prog X.w) X.A (f v u) Q X.xe s2) :
   wpAny (model X.prog X.w) X.A (eval a X.env) (fun v s₁=>wpAny (model X.prog X.w) X.A (eval b X.env) (fun u s₂=>wpAny (model X.prog X.w) X.A (f v u) Q X.xe s₂) X.xe s₁) X.xe s:=by
 refine thn (ha s σ H _ I h) fun v s1 ⟨x,H1,I1,r1,q1⟩=>?_
 refine thn (hb s1 σ H1 _ I1 q1) fun u s2 ⟨y,H2,I2,r2,q2⟩=>?_
 exact hf v u s2 x y H2 I2 r1 r2 q2

theorem aw {op:Operator}{r:R2}(ho:OpR X (binaryOp op) r)(ha:PE X a ta)(hb:PE X b tb):PE X (.BinOp a op b pos) (tOp r ta tb):=by
 intro pins s σ H Q I h
 exact wpAny_BinOp (vQ ha hb I h fun v u s2 x y H2 I2 rx ry q=>ho pins s2 σ H2 x y v u Q I2 rx ry q)
theorem iW {op:UnaryOp}{r:V→Hp→VK→Prop}(ho:UnR X (unaryOp op) r)(ha:PE X a ta):PE X (.UnaryOp op a pos) (tUn r ta):=by
 intro pins s σ H Q I h
 exact UnaryOp_ (thn (ha s σ H _ I h) fun v s1 ⟨x,H1,I1,r1,q1⟩=>ho pins s1 σ H1 x v Q I1 r1 q1)
/-! ### ints -/
theorem opI {f:Value→Value→Sem Value}{C:Int→Int→Prop}{g:Int→Int→Int}
   (rule:∀ (i j:Int)(t u:Tok)(s:Shared)(Q:Value→Shared→Prop)(E:Value→Shared→Prop),C i j→Q (.int (g i j) s.toks) { s with toks:=s.toks+1 }→wpAny (model X.prog X.w) X.A (f (.int i t) (.int j u)) Q E s) :
   OpR X f (rI C fun i j=>.int (g i j)):=by
 intro pins s σ H x y v u Q I rx ry h
 obtain⟨i,j,rfl,rfl,hc,q⟩:=h
 obtain⟨t,rfl⟩:=rx
 obtain⟨t',rfl⟩:=ry
 exact rule i j t t' s _ _ hc ⟨.int (g i j),H,I.tok _,⟨_,rfl⟩,q⟩
theorem wr {f:Value→Value→Sem Value}{g:Int→Int→Int}
   (rule:∀ (i j:Int)(t u:Tok)(s:Shared)(Q:Value→Shared→Prop)(E:Value→Shared→Prop),Q (.int (g i j) s.toks) { s with toks:=s.toks+1 }→wpAny (model X.prog X.w) X.A (f (.int i t) (.int j u)) Q E s) :
   OpR X f (rI0 fun i j=>.int (g i j)):=by
 intro pins s σ H x y v u Q I rx ry h
 obtain⟨i,j,rfl,rfl,q⟩:=h
 obtain⟨t,rfl⟩:=rx
 obtain⟨t',rfl⟩:=ry
 exact rule i j t t' s _ _ ⟨.int (g i j),H,I.tok _,⟨_,rfl⟩,q⟩
theorem uk {f:Value→Value→Sem Value}{g:Int→Int→Bool}
   (rule:∀ (i j:Int)(t u:Tok)(s:Shared)(Q:Value→Shared→Prop)(E:Value→Shared→Prop),Q (.bool (g i j)) s→wpAny (model X.prog X.w) X.A (f (.int i t) (.int j u)) Q E s) :
   OpR X f (rI0 fun i j=>.bl (g i j)):=by
 intro pins s σ H x y v u Q I rx ry h
 obtain⟨i,j,rfl,rfl,q⟩:=h
 obtain⟨t,rfl⟩:=rx
 obtain⟨t',rfl⟩:=ry
 exact rule i j t t' s _ _ ⟨.bl (g i j),H,I,rfl,q⟩

def wW (i j:Int):Prop:=0 < j∧j < 1073741824
def w6 (i j:Int):Prop:=0≤j∧j≤1000000∧i.natAbs < 2 ^ 64
def tD (i j:Int):Prop:=(-(2 ^ 64) < i∧i < 2 ^ 64)∨(-(2 ^ 64) < j∧j < 2 ^ 64)
theorem tD.ok {i j:Int}(h:tD i j):IntMulOk i j:=by
 rcases h with ⟨h1,h2⟩ | ⟨h1,h2⟩
 · exact .of_left (intBits_le_64 h1 h2)
 · exact .of_right (intBits_le_64 h1 h2)
theorem bJ:OpR X (binaryOp .Add) (rI0 fun i j=>.int (i+j)):=wr fun _ _ _ _ _ _ _ q=>add_int q
theorem rj:OpR X (binaryOp .Sub) (rI0 fun i j=>.int (i - j)):=wr fun _ _ _ _ _ _ _ q=>sub_int q
theorem gk:OpR X (binaryOp .Mult) (rI tD fun i j=>.int (i*j)):=opI fun _ _ _ _ _ _ _ hc q=>mul_int q hc.ok
theorem bi:OpR X (binaryOp .Mod) (rI (fun _ j=>0 < j) fun i j=>.int (i % j)):=opI fun i j _ _ _ _ _ hc q=>by
 have h1:(0:Int) < j:=hc
 exact mod_int' (by omega) (by rw[Int.fmod_eq_emod_of_nonneg i (by omega)];exact q)
theorem vS:OpR X (binaryOp .Pow) (rI w6 fun i j=>.int (i ^ j.toNat)):=opI fun _ _ _ _ _ _ _ hc q=>pow_int_small hc.1 hc.2.1 hc.2.2 q
theorem unI {f:Value→Sem Value}{g:Int→Int}
   (rule:∀ (i:Int)(t:Tok)(s:Shared)(Q:Value→Shared→Prop)(E:Value→Shared→Prop),Q (.int (g i) s.toks) { s with toks:=s.toks+1 }→wpAny (model X.prog X.w) X.A (f (.int i t)) Q E s) :
   UnR X f (rU fun i=>.int (g i)):=by
 intro pins s σ H x v Q I rx h
 obtain⟨i,rfl,q⟩:=h
 obtain⟨t,rfl⟩:=rx
 exact rule i t s _ _ ⟨.int (g i),H,I.tok _,⟨_,rfl⟩,q⟩
theorem gn:UnR X (unaryOp .USub) (rU fun i=>.int (-i)):=unI fun _ _ _ _ _ q=>neg_int q
/-! ### bools among ints: n += (a < b) -/
end

/-! ### comparisons -/
def ww:V→V→Bool
 | .non,.non=>true | .non,.int _=>true | .int _,.non=>true | .non,.bl _=>true | .bl _,.non=>true | .non,.str _=>true | .str _,.non=>true
 | .int _,.int _=>true | .bl _,.bl _=>true | .str _,.str _=>true | .byt _,.byt _=>true
 | .int _,.str _=>true | .str _,.int _=>true | .bl _,.str _=>true | .str _,.bl _=>true
 | _,_=>false
def rEq:R2:=fun x y H Q=>ww x y=true∧Q (.bl (decide (x=y))) H
def rNe:R2:=fun x y H Q=>ww x y=true∧Q (.bl (!decide (x=y))) H

theorem oM {i j:Int}:decide (V.int i=V.int j)=(i==j):=by
 rw[Bool.eq_iff_iff]
 simp
theorem sS {i j:Bool}:decide (V.bl i=V.bl j)=(i==j):=by
 rw[Bool.eq_iff_iff]
 simp
theorem pq {i j:Str}:decide (V.str i=V.str j)=(i==j):=by
 rw[Bool.eq_iff_iff]
 simp
theorem pf {i j:Array UInt8}:decide (V.byt i=V.byt j)=(i.toList==j.toList):=by
 rw[Bool.eq_iff_iff]
 cases i
 cases j
 simp

section
variable {X:Cx}{a b c:Expr}{ta tb tc:TE}{pos:Pos}
theorem bc {pins:List (Addr×Obj)}{σ:St}{H:Hp}{s:Shared}{Q:VK}{k k':Bool}(I:Inv X pins σ H s)(q:Q (.bl k) H)(e:k=k'):EP X pins σ Q (.bool k') s:=by
 subst e
 exact⟨.bl k,H,I,rfl,q⟩
theorem dn:OpR X (compareOp .Eq) rEq:=by
 intro pins s σ H x y v u Q I rx ry h
 obtain⟨hs,q⟩:=h
 cases x with
 | non =>
   cases rx
   cases y with
   | non=>cases ry;exact PySem.EqNone.eq_none_none (bc I q (by simp))
   | bl j=>cases ry;exact PySem.EqNone.eq_none_bool (bc I q (by simp))
   | int j=>obtain⟨t',rfl⟩:=ry;exact PySem.EqNone.eq_none_int (bc I q (by simp))
   | str j=>obtain⟨t',rfl⟩:=ry;exact PySem.EqNone.eq_none_str (bc I q (by simp))
   | _=>exact absurd (show false=true from hs) Bool.false_ne_true
 | bl i =>
   cases rx
   cases y with
   | non=>cases ry;exact PySem.EqNone.eq_bool_none (bc I q (by simp))
   | bl j=>cases ry;exact eq_bool (bc I q sS)
   | str j=>obtain⟨t',rfl⟩:=ry;exact PySem.EqMixed.eq_bool_str (bc I q (by simp))
   | _=>exact absurd (show false=true from hs) Bool.false_ne_true
 | int i =>
   obtain⟨t,rfl⟩:=rx
   cases y with
   | non=>cases ry;exact PySem.EqNone.eq_int_none (bc I q (by simp))
   | int j=>obtain⟨t',rfl⟩:=ry;exact eq_int (bc I q oM)
   | str j=>obtain⟨t',rfl⟩:=ry;exact PySem.EqMixed.eq_int_str (bc I q (by simp))
   | _=>exact absurd (show false=true from hs) Bool.false_ne_true
 | str i =>
   obtain⟨t,rfl⟩:=rx
   cases y with
   | non=>cases ry;exact PySem.EqNone.eq_str_none (bc I q (by simp))
   | bl j=>cases ry;exact PySem.EqMixed.eq_str_bool (bc I q (by simp))
   | int j=>obtain⟨t',rfl⟩:=ry;exact PySem.EqMixed.eq_str_int (bc I q (by simp))
   | str j=>obtain⟨t',rfl⟩:=ry;exact eq_str (bc I q pq)
   | _=>exact absurd (show false=true from hs) Bool.false_ne_true
 | byt i =>
   obtain⟨t,rfl⟩:=rx
   cases y with
   | byt j=>obtain⟨t',rfl⟩:=ry;exact PySem.W.eq_bytes (bc I q pf)
   | _=>exact absurd (show false=true from hs) Bool.false_ne_true
 | _=>cases y<;>exact absurd (show false=true from hs) Bool.false_ne_true
theorem rO:OpR X (compareOp .NotEq) rNe:=by
 intro pins s σ H x y v u Q I rx ry h
 obtain⟨hs,q⟩:=h
 cases x with
 | non =>
   cases rx
   cases y with
   | non=>cases ry;exact PySem.EqNone.ne_none_none (bc I q (by simp))
   | bl j=>cases ry;exact PySem.EqNone.ne_none_bool (bc I q (by simp))
   | int j=>obtain⟨t',rfl⟩:=ry;exact PySem.EqNone.ne_none_int (bc I q (by simp))
   | str j=>obtain⟨t',rfl⟩:=ry;exact PySem.EqNone.ne_none_str (bc I q (by simp))
   | _=>exact absurd (show false=true from hs) Bool.false_ne_true
 | bl i =>
   cases rx
   cases y with
   | non=>cases ry;exact PySem.EqNone.ne_bool_none (bc I q (by simp))
   | bl j=>cases ry;exact ne_bool (bc I q (congrArg not sS))
   | str j=>obtain⟨t',rfl⟩:=ry;exact PySem.EqMixed.ne_bool_str (bc I q (by simp))
   | _=>exact absurd (show false=true from hs) Bool.false_ne_true
 | int i =>
   obtain⟨t,rfl⟩:=rx
   cases y with
   | non=>cases ry;exact PySem.EqNone.ne_int_none (bc I q (by simp))
   | int j=>obtain⟨t',rfl⟩:=ry;exact ne_int (bc I q (congrArg not oM))
   | str j=>obtain⟨t',rfl⟩:=ry;exact PySem.EqMixed.ne_int_str (bc I q (by simp))
   | _=>exact absurd (show false=true from hs) Bool.false_ne_true
 | str i =>
   obtain⟨t,rfl⟩:=rx
   cases y with
   | non=>cases ry;exact PySem.EqNone.ne_str_none (bc I q (by simp))
   | bl j=>cases ry;exact PySem.EqMixed.ne_str_bool (bc I q (by simp))
   | int j=>obtain⟨t',rfl⟩:=ry;exact PySem.EqMixed.ne_str_int (bc I q (by simp))
   | str j=>obtain⟨t',rfl⟩:=ry;exact ne_str (bc I q (congrArg not pq))
   | _=>exact absurd (show false=true from hs) Bool.false_ne_true
 | byt i =>
   obtain⟨t,rfl⟩:=rx
   cases y with
   | byt j=>obtain⟨t',rfl⟩:=ry;exact PySem.W.ne_bytes (bc I q (congrArg not pf))
   | _=>exact absurd (show false=true from hs) Bool.false_ne_true
 | _=>cases y<;>exact absurd (show false=true from hs) Bool.false_ne_true

theorem i0:OpR X (compareOp .Lt) (rI0 fun i j=>.bl (decide (i < j))):=uk fun _ _ _ _ _ _ _ q=>lt_int q
theorem uH:OpR X (compareOp .LtE) (rI0 fun i j=>.bl (decide (i≤j))):=uk fun _ _ _ _ _ _ _ q=>le_int q
theorem js:OpR X (compareOp .Gt) (rI0 fun i j=>.bl (decide (j < i))):=uk fun _ _ _ _ _ _ _ q=>gt_int q
theorem io:OpR X (compareOp .GtE) (rI0 fun i j=>.bl (decide (j≤i))):=uk fun _ _ _ _ _ _ _ q=>ge_int q
theorem qw:OpR X (compareOp .Lt) (fun x y H Q=>∃ i j,x=.str i∧y=.str j∧Q (.bl (decide (i.cps.toList < j.cps.toList))) H):=by
 intro pins s σ H x y v u Q I rx ry h
 obtain⟨i,j,rfl,rfl,q⟩:=h
 obtain⟨t,rfl⟩:=rx
 obtain⟨t',rfl⟩:=ry
 exact lt_str (bc I q rfl)
theorem pZ:OpR X (compareOp .In) (fun x y H Q=>∃ i j,x=.str i∧y=.str j∧Q (.bl (!(Builtin.Str.occurrences j i 0 j.length 1).isEmpty)) H):=by
 intro pins s σ H x y v u Q I rx ry h
 obtain⟨i,j,rfl,rfl,q⟩:=h
 obtain⟨t,rfl⟩:=rx
 obtain⟨t',rfl⟩:=ry
 exact in_str (bc I q rfl)

theorem lS:OpR X (compareOp .IsNot) (fun x y H Q=>y=.non∧Q (.bl (!decide (x=.non))) H):=by
 intro pins s σ H x y v u Q I rx ry h
 obtain⟨rfl,q⟩:=h
 cases ry
 refine isnot_none_gen (bc I q ?_)
 cases x<;>first
   | (cases rx;rfl)
   | (obtain⟨t,rfl⟩:=rx;rfl)

theorem aK (b:Expr){op:CmpOp}(h:op≠.In:=by decide)(h2:op≠.NotIn:=by decide):behindInMarks op b=false:=by
 have e1:(op==CmpOp.In)=false:=by cases op<;>first | rfl | exact absurd rfl h
 have e2:(op==CmpOp.NotIn)=false:=by cases op<;>first | rfl | exact absurd rfl h2
 cases b<;>simp[behindInMarks,e1,e2]
theorem cT {op:CmpOp}{r:R2}(ho:OpR X (compareOp op) r)(ha:PE X a ta)(hb:PE X b tb)(hm:behindInMarks op b=false):PE X (.Compare a [op] [b] pos) (tOp r ta tb):=by
 intro pins s σ H Q I h
 exact wpAny_Compare1 (vQ ha hb I h fun v u s2 x y H2 I2 rx ry q=>ho pins s2 σ H2 x y v u Q I2 rx ry q) hm
def uQ (t:TE):TT:=fun σ H Q=>t σ H fun x H'=>∃ k,x=.bl k∧Q k H'
theorem aF {op:CmpOp}{r:R2}(ho:OpR X (compareOp op) r)(ha:PE X a ta)(hb:PE X b tb)(hm:behindInMarks op b=false):PT X (.Compare a [op] [b] pos) (uQ (tOp r ta tb)):=by
 intro pins s σ H Q I h
 refine wpAny_isTrue_Compare1 (thn (ha s σ H _ I h) fun v s1 ⟨x,H1,I1,r1,q1⟩=>thn (hb s1 σ H1 _ I1 q1) fun u s2 ⟨y,H2,I2,r2,q2⟩ =>
   thn (ho pins s2 σ H2 x y v u _ I2 r1 r2 q2) fun c s3 ⟨z,H3,I3,r3,k,e,q3⟩=>?_) hm
 subst e
 cases r3
 exact wpAny_truthy_bool ⟨H3,I3,q3⟩
/-! ### truth -/
theorem ie:(sizeLine:Nat) < 2 ^ 63:=by rw[sizeLine_eq];decide
/-! ### strs and bytes -/
theorem cn:OpR X (binaryOp .Add) (fun x y H Q=>∃ i j,x=.str i∧y=.str j∧i.length+j.length≤sizeLine∧Q (.str (i++j)) H):=by
 intro pins s σ H x y v u Q I rx ry h
 obtain⟨i,j,rfl,rfl,hz,q⟩:=h
 obtain⟨t,rfl⟩:=rx
 obtain⟨t',rfl⟩:=ry
 exact add_str (fun t' tk=>⟨.str (i++j),H,I.tok _,⟨_,rfl⟩,q⟩) hz
/-! ### scalar builtins,by cv -/
theorem dW {x:V}{us:List Value}(r:Vals [x] us):∃ u,us=[u]∧aW x u:=by
 cases r with
 | cons r1 r2=>cases r2;exact⟨_,rfl,r1⟩
theorem sf {x y:V}{us:List Value}(r:Vals [x,y] us):∃ u w',us=[u,w']∧aW x u∧aW y w':=by
 cases r with
 | cons r1 r2 =>
   cases r2 with
   | cons r3 r4=>cases r4;exact⟨_,_,rfl,r1,r3⟩
theorem kF (hc:X.calm=true):cv X (.builtin "max") (fun xs H Q=>∃ i j,xs=[.int i,.int j]∧Q (.int (if j > i then j else i)) H):=by
 intro pins s σ H xs us Q I r h
 obtain⟨i,j,rfl,q⟩:=h
 obtain⟨u,w',rfl,⟨t,rfl⟩,⟨t',rfl⟩⟩:=sf r
 refine max_two_ints (I.ok.hd hc) fun h' tk k=>⟨_,H,I.kept k,?_,q⟩
 by_cases hj:j > i
 · rw[if_pos hj,if_pos hj];exact⟨_,rfl⟩
 · rw[if_neg hj,if_neg hj];exact⟨_,rfl⟩
theorem fF (hc:X.calm=true):cv X (.builtin "min") (fun xs H Q=>∃ i j,xs=[.int i,.int j]∧Q (.int (if j < i then j else i)) H):=by
 intro pins s σ H xs us Q I r h
 obtain⟨i,j,rfl,q⟩:=h
 obtain⟨u,w',rfl,⟨t,rfl⟩,⟨t',rfl⟩⟩:=sf r
 refine min_two_ints (I.ok.hd hc) fun h' tk k=>⟨_,H,I.kept k,?_,q⟩
 by_cases hj:j < i
 · rw[if_pos hj,if_pos hj];exact⟨_,rfl⟩
 · rw[if_neg hj,if_neg hj];exact⟨_,rfl⟩
theorem da:cv X (.type "int") (fun xs H Q=>(∃ i,xs=[.int i]∧Q (.int i) H)∨∃ k,xs=[.bl k]∧Q (.int (if k then 1 else 0)) H):=by
 intro pins s σ H xs us Q I r h
 rcases h with ⟨i,rfl,q⟩ | ⟨k,rfl,q⟩
 · obtain⟨u,rfl,t,rfl⟩:=dW r
   exact call_int_int ⟨.int i,H,I,⟨_,rfl⟩,q⟩
 · obtain⟨u,rfl,r1⟩:=dW r
   cases r1
   exact call_int_bool ⟨.int (if k then 1 else 0),H,I.tok _,⟨_,rfl⟩,q⟩
end
end L2

namespace L2
open PySem PySem.Spec PyProof.Rows

/-! ### an instance,its attributes a map -/
structure nD (h:Heap)(x dx C:Addr)(mA:Str→Option Value):Prop where
 obj:h.get? x=some (PySem.W.instObj C dx)
 ns:h.Ns1 dx mA
 ne:dx≠x

theorem qv {h:Heap}{dx:Addr}{mA:Str→Option Value}(n:h.Ns1 dx mA):∃ od,h.get? dx=some od∧∀ name,PySem.W.lookIn name od=some (mA name):=by
 obtain⟨o,es,ep,ho,hd,hk,_,hm⟩:=n
 refine⟨o,ho,fun name=>?_⟩
 have e:=hm name
 unfold nsFind findBy at e
 rw[←Array.find?_toList] at e
 unfold PySem.W.lookIn
 rw[hd]
 dsimp only
 split
 · rename_i y q
   rw[q] at e
   exact congrArg some e
 · rename_i q
   rw[q] at e
   have a:es.toList.any (·.refKey)=false:=by
     rw[List.any_eq_false]
     intro y hy
     obtain⟨z,t,hkey⟩:=hk y (Array.mem_toList_iff.mp hy)
     simp[DictEntry.refKey,hkey]
   have a':¬es.toList.any (·.refKey)=true:=by rw[a];exact Bool.false_ne_true
   rw[if_neg a']
   exact congrArg some e

theorem nD.look {h:Heap}{x dx C:Addr}{mA:Str→Option Value}(I:nD h x dx C mA):∃ od,PySem.W.InstAt h x (PySem.W.instObj C dx) C (some od)∧∀ name,PySem.W.lookIn name od=some (mA name) :=
 let ⟨od,ho,hl⟩:=qv I.ns
 ⟨od,⟨I.obj,rfl,rfl,ho⟩,hl⟩

section
variable {prog:Program}{w:World}{A:Around}{E:Value→Shared→Prop}{s:Shared}{K:PySem.W.Frag}{x dx C f:Addr}{mA:Str→Option Value}{name:Str}{v:Value}

theorem uu {expr:Bool}{Q:Value→Shared→Prop}(X:K.In s.heap)(I:nD s.heap x dx C mA)(hg:PySem.W.plainGet K C name=true)(hh:PySem.W.hasDictIn K C=true)
   (ha:PySem.W.findIn K (.ref C) name=some none)(hv:mA name=some v)(hv':PySem.W.handedIn v=true)(h:Q v { s with toks:=s.toks+1 }) :
   wpAny (model prog w) A (getAttr (.ref x) name expr) Q E s:=by
 obtain⟨od,J,hl⟩:=I.look
 exact PySem.W.get_value X J (PySem.W.plainGet_of hg).1 (PySem.W.findObj_own hh ha rfl (by rw[hl,hv])) hv' h

theorem r9 {pl:Sem Bool}{Q:Value×List Value→Shared→Prop}(X:K.In s.heap)(I:nD s.heap x dx C mA)(hg:PySem.W.plainGet K C name=true)
   (hf:PySem.W.findIn K (.ref C) name=some (some (.ref f)))(ht:PySem.W.isFn K (.ref f)=true)(hv:mA name=none)(h:Q (.ref f,[.ref x]) s) :
   wpAny (model prog w) A (getMethod (.ref x) name pl) Q E s:=by
 obtain⟨od,J,hl⟩:=I.look
 exact PySem.W.method_fn X J (PySem.W.plainGet_of hg).1 (PySem.W.plainGet_of hg).2 hf (beq_iff_eq.mp ht) (by show(PySem.W.lookIn name od).map (·.isSome)=some false;rw[hl,hv];rfl) h

theorem ui {ns:List Str}{Q:Unit→Shared→Prop}(X:K.In s.heap)(I:nD s.heap x dx C mA)
   (hs:PySem.W.findIn K (.ref C) "__setattr__"=some (some (.builtin "object.__setattr__")))(hp:PySem.W.plainOver K C=true)(ht:PySem.W.takerIn K C name=some none)(hh:PySem.W.hasDictIn K C=true)
   (hw:PySem.Within mA ns)(hsz:ns.length≤sizeLine)
   (h:∀ h',nD h' x dx C (fun y=>if y=name then some v else mA y)→Heap.SameBut dx s.heap h'→Q () { s with heap:=h',toks:=s.toks+2 }) :
   wpAny (model prog w) A (setAttr (.ref x) name v) Q E s:=by
 obtain⟨od,J,hl⟩:=I.look
 refine PySem.W.set_plain X J hs (PySem.W.osa_open (s:={ s with toks:=s.toks+1 }) (r:=none) X J hp ht fun b=>?_)
 obtain⟨cd,hc,hd'⟩:=PySem.W.any_some hh
 have hx:s.heap.get? x=some ⟨.ref C,some dx,.plain,#[]⟩:=I.obj
 refine wpAny_bind (wpAny_pure (wpAny_bind (wpAny_bind (wpAny_loadPart hx (wpAny_bind (PySem.W.Looks.here (s:={ s with toks:=s.toks+1 }) (PySem.W.looks_clsIn X hc) ?_))))))
 rw[hd']
 refine wpAny_pure (a:=some dx) (wpAny_bind (wpAny_pure (wpAny_bind ?_)))
 refine wpAny_nsSet1 (s:={ s with toks:=s.toks+1 }) I.ns fun h' hn2 hs2=>?_
 obtain⟨oD,esD,epD,hoD,hdD,hcD⟩:=hn2.count (PySem.Within.cons name v hw)
 refine wpAny_bind (wpAny_lookBehind hoD (by rw[hdD];exact pastItsLine_dict (Nat.le_trans hcD (by rw[List.length_cons];omega))) ?_)
 exact wpAny_pure (h _ ⟨(hs2.2 _ (Ne.symm I.ne)).trans I.obj,hn2,I.ne⟩ hs2)

theorem sG {R:Result→Shared→Prop}{vs:List Value}{kw:List (Str×Value)}(X:K.In s.heap)(hm:PySem.W.makesIn K C=true)
   (hi:PySem.W.findIn K (.ref C) "__init__"=some (some (.ref f)))(hf:PySem.W.typeIn K (.ref f)=some (.type "function"))
   (h:codeAny (model prog w) (A.under (.builtin "type.__call__" ⟨.ref C::vs,kw⟩)) (.call (.ref f) ⟨.ref (s.heap.objs.size+1)::vs,kw⟩) (PySem.W.InitBack (s.heap.objs.size+1) R)
     { s with heap:=(s.heap.push PySem.W.emptyDict).push (PySem.W.instObj C s.heap.objs.size) }) :
   codeAny (model prog w) A (.call (.ref C) ⟨vs,kw⟩) R s:=by
 obtain⟨hh,g,d,t,os⟩:=s
 exact PySem.W.make_core (PySem.W.makes_of X hm) (PySem.W.looks_findIn X hi) (fun self=>PySem.W.bind_fn X self hf) (.inl rfl) h
end

/-! ### the attributes as a list of pairs -/
def cF (f:Str) (v:V):List (Str×V)→List (Str×V)
 | []=>[(f,v)]
 | (g,x)::r=>if g=f then(g,v)::r else(g,x)::cF f v r
theorem ip (f g:Str) (v:V):∀ fs:List (Str×V),(cF f v fs).lookup g=if g=f then some v else fs.lookup g
 | []=>by
   show List.lookup g [(f,v)]=_
   by_cases h:g=f
   · have hb:(g==f)=true:=beq_iff_eq.mpr h
     simp only[List.lookup,hb,if_pos h]
   · have hb:(g==f)=false:=beq_eq_false_iff_ne.mpr h
     simp only[List.lookup,hb,if_neg h]
 | (k,x)::r=>by
   have ih:=ip f g v r
   rw[show cF f v ((k,x)::r)=(if k=f then(k,v)::r else(k,x)::cF f v r) from rfl]
   by_cases hk:k=f
   · rw[if_pos hk]
     by_cases h:g=k
     · have hb:(g==k)=true:=beq_iff_eq.mpr h
       simp only[List.lookup,hb,if_pos (h.trans hk)]
     · have hb:(g==k)=false:=beq_eq_false_iff_ne.mpr h
       simp only[List.lookup,hb,if_neg (fun e:g=f=>h (e.trans hk.symm))]
   · rw[if_neg hk]
     by_cases h:g=k
     · have hb:(g==k)=true:=beq_iff_eq.mpr h
       simp only[List.lookup,hb,if_neg (fun e:g=f=>hk (h.symm.trans e))]
     · have hb:(g==k)=false:=beq_eq_false_iff_ne.mpr h
       simp only[List.lookup,hb]
       exact ih
theorem ig (f:Str) (v:V):∀ fs:List (Str×V),f∈(cF f v fs).map (·.1)∧∀ g,g∈fs.map (·.1)→g∈(cF f v fs).map (·.1)
 | []=>⟨by simp[cF],fun g h=>by simp at h⟩
 | (k,x)::r=>by
   obtain⟨i1,i2⟩:=ig f v r
   rw[show cF f v ((k,x)::r)=(if k=f then(k,v)::r else(k,x)::cF f v r) from rfl]
   by_cases hk:k=f
   · rw[if_pos hk]
     subst hk
     exact⟨by simp,fun g h=>by simpa using h⟩
   · rw[if_neg hk]
     refine⟨?_,fun g h=>?_⟩
     · rw[List.map_cons]
       exact List.mem_cons_of_mem _ i1
     · rw[List.map_cons] at h ⊢
       rcases List.mem_cons.mp h with e | e
       · exact List.mem_cons.mpr (.inl e)
       · exact List.mem_cons_of_mem _ (i2 g e)
theorem ii (f:Str) (v:V):∀ fs:List (Str×V),(cF f v fs).length≤fs.length+1
 | []=>by simp[cF]
 | (k,x)::r=>by
   have ih:=ii f v r
   rw[show cF f v ((k,x)::r)=(if k=f then(k,v)::r else(k,x)::cF f v r) from rfl]
   by_cases hk:k=f
   · rw[if_pos hk,List.length_cons,List.length_cons];omega
   · rw[if_neg hk,List.length_cons,List.length_cons];omega

theorem fX.some_of {v:V}{o:Option Value}(r:fX (some v) o):∃ u,o=some u∧aW v u:=by
 cases o with
 | none=>exact(show False from r).elim
 | some u=>exact⟨u,rfl,r⟩
theorem fX.none_of {o:Option Value}(r:fX none o):o=none:=by
 cases o with
 | none=>rfl
 | some u=>exact(show False from r).elim
theorem pP {v:V}{u:Value}(r:aW v u):PySem.W.handedIn u=true:=by
 cases v with
 | non=>cases (show u=Value.none from r);rfl
 | bl b=>cases (show u=Value.bool b from r);rfl
 | int i=>obtain⟨t,e⟩:=(show ∃ t,u=Value.int i t from r);cases e;rfl
 | str x=>obtain⟨t,e⟩:=(show ∃ t,u=Value.str x t from r);cases e;rfl
 | byt b=>obtain⟨t,e⟩:=(show ∃ t,u=Value.bytes b t from r);cases e;rfl
 | flt b=>obtain⟨t,e⟩:=(show ∃ t,u=Value.float b t from r);cases e;rfl
 | ref a=>cases (show u=Value.ref a from r);rfl
 | ty n=>cases (show u=Value.type n from r);rfl

section
variable {P:Program}{w:World}{H H':Hp}{h h':Heap}{a C dx:Addr}{fs fs':List (Str×V)}
theorem iT (hok:HOk P w H h)(e:H a=some (.ins C dx fs)):∃ mA,nD h a dx C mA∧(∀ f,fX (fs.lookup f) (mA f))∧PySem.Within mA (fs.map (·.1))∧fs.length≤1000∧H dx=some (.own a):=by
 obtain⟨d,z,ne,ob,mA,n,r,q⟩:=(show bF P w H h a (.ins C dx fs) from hok a _ e)
 exact⟨mA,⟨ob,n,ne⟩,r,q,z,d⟩
end

/-! ### what of the text a class must have -/
structure Cls (K:PySem.W.Frag)(C:Addr):Prop where
 pg:PySem.W.plainGet K C Str.empty=true
 hd:PySem.W.hasDictIn K C=true
 po:PySem.W.plainOver K C=true
 sa:PySem.W.findIn K (.ref C) "__setattr__"=some (some (.builtin "object.__setattr__"))
theorem Cls.get {K:PySem.W.Frag}{C:Addr}(c:Cls K C) (f:Str):PySem.W.plainGet K C f=true:=c.pg
def bP (K:PySem.W.Frag)(C:Addr) (f:Str):Prop:=PySem.W.findIn K (.ref C) f=some none
theorem bP.taker {K:PySem.W.Frag}{C:Addr}{f:Str}(n:bP K C f):PySem.W.takerIn K C f=some none:=by
 unfold PySem.W.takerIn
 rw[show PySem.W.findIn K (.ref C) f=some none from n]
 rfl
structure bQ (K:PySem.W.Frag)(C:Addr) (m:Str)(f:Addr):Prop where
 at_:PySem.W.findIn K (.ref C) m=some (some (.ref f))
 fn:PySem.W.isFn K (.ref f)=true
 kp:PySem.W.keepIn K (.ref f)=true

section
variable {X:Cx}{pins:List (Addr×Obj)}{σ:St}{H:Hp}{s:Shared}{a C dx:Addr}{fs:List (Str×V)}{f:Str}{v:V}{A:Around}{E:Value→Shared→Prop}

theorem oa {b:Bool}{Q:Value→Shared→Prop}(I:Inv X pins σ H s)(e:H a=some (.ins C dx fs))(c:Cls X.K C)(n:bP X.K C f)(l:fs.lookup f=some v)
   (h:∀ u s',Inv X pins σ H s'→aW v u→Q u s'):wpAny (model X.prog X.w) A (getAttr (.ref a) f b) Q E s:=by
 obtain⟨mA,O,r,_,_,_⟩:=iT I.hok e
 obtain⟨u,hu,ru⟩:=fX.some_of (v:=v) (o:=mA f) (by rw[←l];exact r f)
 exact uu I.kIn O (c.get f) c.hd n hu (pP ru) (h u _ (I.tok _) ru)

theorem gu {m:Str}{g:Addr}{pl:Sem Bool}{Q:Value×List Value→Shared→Prop}(I:Inv X pins σ H s)(e:H a=some (.ins C dx fs))(c:Cls X.K C)(k:bQ X.K C m g)(l:fs.lookup m=none)
   (h:Q (.ref g,[.ref a]) s):wpAny (model X.prog X.w) A (getMethod (.ref a) m pl) Q E s:=by
 obtain⟨mA,O,r,_,_,_⟩:=iT I.hok e
 have hn:mA m=none:=fX.none_of (by rw[←l];exact r m)
 exact r9 I.kIn O (c.get m) k.at_ k.fn hn h

theorem nq {y:V}{u:Value}{Q:Unit→Shared→Prop}(I:Inv X pins σ H s)(e:H a=some (.ins C dx fs))(c:Cls X.K C)(n:bP X.K C f)(hl:fs.length < 1000)(ry:aW y u)
   (h:∀ s',Inv X pins σ (upd H a (.ins C dx (cF f y fs))) s'→Q () s'):wpAny (model X.prog X.w) A (setAttr (.ref a) f u) Q E s:=by
 obtain⟨mA,O,r,wi,_,ho⟩:=iT I.hok e
 have hz:(fs.map (·.1)).length≤sizeLine:=by rw[List.length_map,sizeLine_eq];omega
 refine ui I.kIn O c.sa c.po n.taker c.hd wi hz fun h' O' sb=>h _ ?_
 have hd:∃ o,h'.get? dx=some o:=let ⟨o,_,_,e',_⟩:=O'.ns;⟨o,e'⟩
 refine I.write (x:=a) (e:=dx) (by rw[e];exact True.intro) (.inr ho) (fun b q hb z=>(sb.2 b hb).trans z) hd ?_
 refine⟨by rw[ai O.ne];exact ho,?_,O.ne,O'.obj,_,O'.ns,fun g=>?_,fun g hg=>?_⟩
 · have:=ii f y fs;omega
 · show fX ((cF f y fs).lookup g) (if g=f then some u else mA g)
   rw[ip]
   by_cases q:g=f
   · rw[if_pos q,if_pos q];exact ry
   · rw[if_neg q,if_neg q];exact r g
 · by_cases q:g=f
   · rw[q];exact(ig f y fs).1
   · refine(ig f y fs).2 g (wi g fun z=>hg ?_)
     show(if g=f then some u else mA g)=none
     rw[if_neg q];exact z

theorem Inv.made (I:Inv X pins σ H s):Inv X pins σ (upd (upd H s.heap.objs.size (.own (s.heap.objs.size+1))) (s.heap.objs.size+1) (.ins C s.heap.objs.size []))
   { s with heap:=(s.heap.push PySem.W.emptyDict).push (PySem.W.instObj C s.heap.objs.size) }:=by
 have e1:(s.heap.push PySem.W.emptyDict).get? s.heap.objs.size=some PySem.W.emptyDict:=Heap.get?_push_size s.heap rfl
 have e2:((s.heap.push PySem.W.emptyDict).push (PySem.W.instObj C s.heap.objs.size)).get? (s.heap.objs.size+1)=some (PySem.W.instObj C s.heap.objs.size):=by
   have:=Heap.get?_push_size (s.heap.push PySem.W.emptyDict) (o:=PySem.W.instObj C s.heap.objs.size) rfl
   rwa [Heap.size_push] at this
 have e3:(s.heap.push PySem.W.emptyDict).Ns s.heap.objs.size (fun _=>none):=⟨PySem.W.emptyDict,#[],_,e1,rfl,(fun e he=>absurd he (by simp)),fun _=>rfl⟩
 have I1:=I.laid (a:=s.heap.objs.size) (o:=.own (s.heap.objs.size+1)) (h':=s.heap.push PySem.W.emptyDict) (t':=s.toks) (fun b u q=>Heap.get?_push_of_some _ q) (Nat.le_refl _) ⟨_,e1⟩
 refine I1.laid (a:=s.heap.objs.size+1) (o:=.ins C s.heap.objs.size []) (t':=s.toks) (fun b u q=>Heap.get?_push_of_some _ q) (Nat.le_of_eq (Heap.size_push _ _)) ?_
 have ne:s.heap.objs.size≠s.heap.objs.size+1:=Nat.ne_of_lt (Nat.lt_succ_self _)
 refine⟨by rw[ai ne,ac],Nat.zero_le _,ne,e2,fun _=>none,(Heap.Ns1.of_empty e3).at fun o q=>Heap.get?_push_of_some _ q,fun _=>True.intro,fun y hy=>absurd rfl hy⟩

theorem sY {prog:Program}{w:World}{env:Env}{e:Expr}{f:Str}{pos:Pos}{s:Shared}{Q:Value→Shared→Prop}(hb:attributeBase e f env (eval e env)=eval e env)
   (h:wpAny (model prog w) A (eval e env) (fun o s₁=>wpAny (model prog w) A (getAttr o f true) Q E s₁) E s):wpAny (model prog w) A (eval (.Attribute e f pos) env) Q E s :=
 Attribute_any_ h (by rw[arm_eval_Attribute,hb])
end

/-! ### readings and rules -/
def vb (K:PySem.W.Frag)(ta:TE) (f:Str):TE:=fun σ H Q=>ta σ H fun x H1=>∃ a C dx fs v,x=.ref a∧H1 a=some (.ins C dx fs)∧Cls K C∧bP K C f∧fs.lookup f=some v∧Q v H1
def wR (K:PySem.W.Frag)(ta tv:TE) (f:Str):TS:=fun D σ H=>tv σ H fun y H1=>ta σ H1 fun x H2=>∃ a C dx fs,x=.ref a∧H2 a=some (.ins C dx fs)∧Cls K C∧bP K C f∧fs.length < 1000 ∧
 D.nx σ (upd H2 a (.ins C dx (cF f y fs)))
section
variable {X:Cx}{o e value:Expr}{f:Str}{pos pos' tpos:Pos}{ta tv:TE}
theorem bV (he:PE X e ta)(hb:attributeBase e f X.env (eval e X.env)=eval e X.env):PE X (.Attribute e f pos) (vb X.K ta f):=by
 intro pins s σ H Q I h
 refine sY hb (thn (he s σ H _ I h) fun u s1 ⟨x,H1,I1,rx,a,C,dx,fs,v,ex,ea,c,n,l,q⟩=>?_)
 subst ex
 obtain rfl:u=Value.ref a:=rx
 exact oa I1 ea c n l fun u' s2 I2 ru=>⟨v,H1,I2,ru,q⟩
theorem gs (ha:PE X o ta)(hv:PE X value tv)(hs:swapsWith value (some (.Attribute o f pos')) pos.line X.env=pure false):PS X (.Assign [.Attribute o f pos'] value pos) (wR X.K ta tv f):=by
 intro pins s σ H D I h
 refine plainObj_wpAny_Assign_Attribute (thn (hv s σ H _ I h) fun u s1 ⟨y,H1,I1,ry,q⟩=>thn (ha s1 σ H1 _ I1 q) fun ov s2 ⟨x,H2,I2,rx,a,C,dx,fs,ex,ea,c,n,l,q2⟩=>?_) hs
 subst ex
 obtain rfl:ov=Value.ref a:=rx
 exact nq I2 ea c n l ry fun s3 I3=>⟨σ,_,I3,q2⟩
theorem uw {pl:Sem Bool}{m:Str}{apos:Pos}{args:List Expr}{pins:List (Addr×Obj)}{s:Shared}{σ:St}{H:Hp}{Q:Value→Shared→Prop}{te:TE}(he:PE X e te)(I:Inv X pins σ H s)
   (h:te σ H fun x H1=>∃ a C dx fs g,x=.ref a∧H1 a=some (.ins C dx fs)∧Cls X.K C∧bQ X.K C m g∧fs.lookup m=none ∧
     ∀ s1,Inv X pins σ H1 s1→wpAny (model X.prog X.w) X.A (callWith pos (.ref g) [.ref a] (backTo pos (starEach args X.env)) (backToKw pos (keywordEach [] X.env))) Q X.xe s1)
   (ht:eval (.Call (.Attribute e m apos) args [] pos) X.env=(do
     let ov ←eval e X.env
     standAt apos.atName
     let (f,first) ←holding [ov] (getMethod ov m pl)
     callWith pos f first (backTo pos (starEach args X.env)) (backToKw pos (keywordEach [] X.env)))) :
   wpAny (model X.prog X.w) X.A (eval (.Call (.Attribute e m apos) args [] pos) X.env) Q X.xe s:=by
 refine PySem.W.methodCall_KW (pl:=pl) (thn (he s σ H _ I h) fun u s1 ⟨x,H1,I1,rx,a,C,dx,fs,g,ex,ea,c,k,l,q⟩=>?_) ht
 subst ex
 obtain rfl:u=Value.ref a:=rx
 exact gu I1 ea c k l (q s1 I1)
end

/-! ### isinstance -/
section
variable {X:Cx}{pins:List (Addr×Obj)}{σ:St}{H:Hp}{s:Shared}{A:Around}{E:Value→Shared→Prop}{Q:Value→Shared→Prop}{c:Value}{b:Bool}
inductive eQ (K:PySem.W.Frag)(H:Hp):V→Value→Prop where
 | non:eQ K H .non (.type "NoneType")
 | bl (x:Bool):eQ K H (.bl x) (.type "bool")
 | int (i:Int):eQ K H (.int i) (.type "int")
 | str (x:Str):eQ K H (.str x) (.type "str")
 | flt (x:UInt64):eQ K H (.flt x) (.type "float")
 | lst {a:Addr}{xs:List V}(e:H a=some (.lst xs)):eQ K H (.ref a) (.type "list")
 | frz {a:Addr}{o:Obj}{xs:List V}(e:H a=some (.frz o (.lst xs))):eQ K H (.ref a) (.type "list")
 | tup {a:Addr}{xs:List V}(e:H a=some (.tup xs)):eQ K H (.ref a) (.type "tuple")
 | dK {a:Addr}{kvs:List (Key×V)}(e:H a=some (.dK kvs)):eQ K H (.ref a) (.type "dict")
 | dT {a:Addr}{kvs:List (List Key×V)}(e:H a=some (.dT kvs)):eQ K H (.ref a) (.type "dict")
 | ins {a C dx:Addr}{fs:List (Str×V)}(e:H a=some (.ins C dx fs))(cl:Cls K C)(ha:PySem.W.findIn K (.ref C) "__class__"=some (some (.builtin "object.__class__")))
     (hn:PySem.W.specialIn K (.builtin "object.__class__") "__get__"=some (some (.builtin "getset_descriptor.__get__")))(htk:PySem.W.takesIn K (.builtin "object.__class__")=some true)
     (hm:PySem.W.mroIn K C (.type "object")=some true):eQ K H (.ref a) (.ref C)
theorem qi {x:V}{u t:Value}(I:Inv X pins σ H s)(rx:aW x u)(ty:eQ X.K H x t)(e:PySem.W.kitOne X.K t c=some b)(h:∀ tk,Q (.bool b) { s with toks:=tk }) :
   wpAny (model X.prog X.w) A (call (.builtin "isinstance") [u,c]) Q E s:=by
 cases ty with
 | non=>cases (show u=Value.none from rx);exact PySem.W.kia_one PySem.W.kitx_none I.kIn True.intro e (fun z=>nomatch z) h
 | bl y=>cases (show u=Value.bool y from rx);exact PySem.W.kia_one PySem.W.kitx_bool I.kIn True.intro e (fun z=>nomatch z) h
 | int i=>obtain⟨t,q⟩:=(show ∃ t,u=Value.int i t from rx);cases q;exact PySem.W.kia_one PySem.W.kitx_int I.kIn True.intro e (fun z=>nomatch z) h
 | str y=>obtain⟨t,q⟩:=(show ∃ t,u=Value.str y t from rx);cases q;exact PySem.W.kia_one PySem.W.kitx_str I.kIn True.intro e (fun z=>nomatch z) h
 | flt y=>obtain⟨t,q⟩:=(show ∃ t,u=Value.float y t from rx);cases q;exact PySem.W.kia_one PySem.W.kitx_float I.kIn True.intro e (fun z=>nomatch z) h
 | @lst a xs ea =>
   cases (show u=Value.ref a from rx)
   obtain⟨_,_,n,_,h1⟩:=(show bF X.prog X.w H s.heap a (.lst xs) from I.hok a _ ea)
   exact PySem.W.kia_one PySem.W.kitx_list I.kIn ⟨_,h1,rfl⟩ e (fun z=>nomatch z) h
 | @frz a ob xs ea =>
   cases (show u=Value.ref a from rx)
   obtain⟨_,_,_,n,_,h1⟩:=(show bF X.prog X.w H s.heap a (.frz ob (.lst xs)) from I.hok a _ ea)
   exact PySem.W.kia_one PySem.W.kitx_list I.kIn ⟨_,h1,rfl⟩ e (fun z=>nomatch z) h
 | @tup a xs ea =>
   cases (show u=Value.ref a from rx)
   obtain⟨_,_,_,p⟩:=(show bF X.prog X.w H s.heap a (.tup xs) from I.hok a _ ea)
   obtain⟨o,h1,h2,_⟩:=p
   exact PySem.W.kia_one PySem.W.kitx_tuple I.kIn ⟨o,h1,h2⟩ e (fun z=>nomatch z) h
 | @dK a kvs ea =>
   cases (show u=Value.ref a from rx)
   obtain⟨_,_,vs,_,p⟩:=(show bF X.prog X.w H s.heap a (.dK kvs) from I.hok a _ ea)
   obtain⟨o,es,ep,h1,h2,_⟩:=p
   exact PySem.W.kia_one PySem.W.kitx_dict I.kIn ⟨o,h1,h2.1⟩ e (fun z=>nomatch z) h
 | @dT a kvs ea =>
   cases (show u=Value.ref a from rx)
   obtain⟨_,_,xs,_,o,es,ep,h1,h2,_⟩:=(show bF X.prog X.w H s.heap a (.dT kvs) from I.hok a _ ea)
   exact PySem.W.kia_one PySem.W.kitx_dict I.kIn ⟨o,h1,h2.1⟩ e (fun z=>nomatch z) h
 | @ins a C dx fs ea cl ha hn htk hm =>
   cases (show u=Value.ref a from rx)
   obtain⟨mA,O,_⟩:=iT I.hok ea
   obtain⟨od,J,_⟩:=O.look
   exact PySem.W.kia_one (PySem.W.kitx_own (cl.get _) cl.hd ha hn htk hm) I.kIn J e (fun z=>nomatch z) h
end
end L2

namespace L2
open PySem PySem.Spec PyProof.Rows

/-! ### room -/
structure dt (k:Nat)(A:Around):Prop where
 hd:A.handled=none
 dp:A.depth+3*k+5 < recursionLimit
 un:A.units+16*k+200 < cLine
theorem dt.mono {j k:Nat}{A:Around}(r:dt k A)(h:j≤k):dt j A:=⟨r.hd,by have:=r.dp;omega,by have:=r.un;omega⟩
theorem dt.deeper {k:Nat}{A:Around}(r:dt (k+1) A)(env:Env):dt k (A.deeper env) :=
 ⟨r.hd,by have:=r.dp;show A.depth+1+3*k+5 < _;omega,by have:=r.un;show A.units+3+16*k+200 < _;omega⟩
theorem ow {A:Around}{C:Addr}{us:List Value}{kw:List (Str×Value)}:(A.under (.builtin "type.__call__" ⟨.ref C::us,kw⟩)).depth=A.depth+1:=by
 first | rfl | simp[Around.under,Code.weight,Code.isCreation,Code.isGuard,Code.isCaller,Code.frames,Code.isFrame,guardIds]
theorem oe {A:Around}{C:Addr}{us:List Value}{kw:List (Str×Value)}:(A.under (.builtin "type.__call__" ⟨.ref C::us,kw⟩)).units=A.units+1:=by
 first | rfl | simp[Around.under,Code.cUnits,Code.frames,Code.isFrame]
theorem dt.make {k:Nat}{A:Around}(r:dt (k+1) A)(C:Addr)(us:List Value)(kw:List (Str×Value)):dt k (A.under (.builtin "type.__call__" ⟨.ref C::us,kw⟩)) :=
 ⟨r.hd,by have:=r.dp;rw[ow];omega,by have:=r.un;rw[oe];omega⟩
theorem dt.depth {k:Nat}{A:Around}(r:dt k A):A.depth < recursionLimit:=by have:=r.dp;omega
theorem dt.units {k:Nat}{A:Around}(r:dt k A):A.units+64 < cLine:=by have:=r.un;omega
/-! ### argument lists and displays -/
def nB:TA:=fun _ H Q=>Q [] H
def cM (ta:TE)(tr:TA):TA:=fun σ H Q=>ta σ H fun x H1=>tr σ H1 fun xs H2=>Q (x::xs) H2
section
variable {X:Cx}{e:Expr}{es:List Expr}{te:TE}{t:TA}{pos:Pos}
theorem ad:PA X [] nB:=fun _ _ _ _ H Q I h=>Calls.spliced_nil ⟨[],H,I,.nil,h⟩
theorem aa (ha:PE X e te)(hr:PA X es t)(hs:starEach (e::es) X.env=(false,eval e X.env)::starEach es X.env:=by rfl):PA X (e::es) (cM te t):=by
 intro pins pos s σ H Q I h
 rw[hs]
 show wpAny _ _ (spliced ((false,eval e X.env)::backTo pos (starEach es X.env))) _ _ s
 refine Calls.spliced_cons (thn (ha s σ H _ I h) fun u s1 ⟨x,H1,I1,r1,q1⟩=>?_)
 exact thn (hr pos s1 σ H1 _ I1 q1) fun us s2 ⟨xs,H2,I2,r2,q2⟩=>⟨x::xs,H2,I2,.cons r1 r2,q2⟩

def ve (t:TA):TE:=fun σ H Q=>t σ H fun xs H1=>xs.length≤sizeLine∧∀ p,H1 p=none→Q (.ref p) (upd H1 p (.tup xs))
def wM (t:TA):TE:=fun σ H Q=>t σ H fun xs H1=>xs.length≤sizeLine∧∀ p,H1 p=none→Q (.ref p) (upd H1 p (.lst xs))
theorem du {x1}(h:PA X es t):PE X (.Tuple es x1 pos) (ve t):=by
 intro pins s σ H Q I hq
 refine wpAny_Tuple_spliced (thn (h pos s σ H _ I hq) fun us s1 ⟨xs,H1,I1,r,z,q⟩=>⟨by rw[←r.length];exact z,?_⟩)
 have hf:H1 s1.heap.objs.size=none:=I1.hok.fresh (Nat.le_refl _)
 refine⟨.ref s1.heap.objs.size,upd H1 s1.heap.objs.size (.tup xs),I1.laid (t':=s1.toks) (fun b u e=>Heap.get?_push_of_some _ e) (Nat.le_refl _) ?_,rfl,q _ hf⟩
 exact⟨z,us,r,⟨_,Heap.get?_push_size _ rfl,rfl,_,rfl⟩⟩
theorem bx (h:PA X es t):PE X (.List es pos) (wM t):=by
 intro pins s σ H Q I hq
 refine wpAny_List_spliced (thn (h pos s σ H _ I hq) fun us s1 ⟨xs,H1,I1,r,z,q⟩=>⟨by rw[←r.length];exact z,?_⟩)
 have hf:H1 s1.heap.objs.size=none:=I1.hok.fresh (Nat.le_refl _)
 refine⟨.ref s1.heap.objs.size,upd H1 s1.heap.objs.size (.lst xs),I1.laid (t':=s1.toks) (fun b u e=>Heap.get?_push_of_some _ e) (Nat.le_refl _) ?_,rfl,q _ hf⟩
 exact⟨z,us,0,r,Heap.get?_push_size _ rfl⟩
end

/-! ### what a def promises -/
abbrev Sp:=List V→Hp→VK→XK→Prop
abbrev CXT:=List Env→Hp→Shared→XK→Value→Shared→Prop

structure nz (P:Program)(w:World)(K:PySem.W.Frag)(mg:Str→Option Value)(base:Heap)(A:Around)(outer:List Env)(s:Shared)(H:Hp):Prop where
 frames:A.frames=some outer
 mod:Mod K mg base
 bs:∀ b o,base.get? b=some o→s.heap.get? b=some o∧H b=none
 bsz:base.objs.size≤s.heap.objs.size
 funs:s.heap.FunFrames base outer
 frf:∀ b∈frs outer,H b=none
 hok:HOk P w H s.heap
 bare:AllBare s.gens
def CE (outer:List Env)(P:Program)(w:World)(H:Hp)(s:Shared)(Q:VK) (u:Value)(s':Shared):Prop :=
 ∃ v H',s'.os=s.os∧AllBare s'.gens∧Un (frs outer) [] H H' s.heap s'.heap∧HOk P w H' s'.heap∧aW v u∧Q v H'
def CR (CX:CXT)(outer:List Env)(P:Program)(w:World)(H:Hp)(s:Shared)(Q:VK)(E:XK)(r:Result)(s':Shared):Prop :=
 match r with
 | .ok (.ret u)=>CE outer P w H s Q u s'
 | .ok _=>False
 | .error e=>CX outer H s E e s'
structure ao (P:Program)(w:World)(K:PySem.W.Frag)(mg:Str→Option Value)(base:Heap)(CX:CXT) (k:Nat)(f:Addr)(fd:FuncData)(ps:List Str)(sp:Sp):Prop where
 len:∀ vs H Q E,sp vs H Q E→vs.length=ps.length
 run:∀ (A:Around)(outer:List Env)(s:Shared)(H:Hp)(args:Args)(us:List Value)(vs:List V)(Q:VK)(E:XK),dt k A→nz P w K mg base A outer s H→BindsTo s fd args (ps.zip us)→Vals vs us→sp vs H Q E →
   codeAny (model P w) A (.call (.ref f) args) (CR CX outer P w H s Q E) s
theorem nz.make {P:Program}{w:World}{K:PySem.W.Frag}{mg:Str→Option Value}{base:Heap}{A:Around}{outer:List Env}{s:Shared}{H:Hp}(e:nz P w K mg base A outer s H)(C:Addr)(us:List Value)(kw:List (Str×Value)) :
 nz P w K mg base (A.under (.builtin "type.__call__" ⟨.ref C::us,kw⟩)) outer s H:=⟨by first | exact e.frames | (simpa [Around.under,Code.envs,Code.isFrame,pushEnvs] using e.frames),e.mod,e.bs,e.bsz,e.funs,e.frf,e.hok,e.bare⟩
section
variable {X:Cx}{pins:List (Addr×Obj)}{σ:St}{H:Hp}{s s':Shared}
theorem Inv.env0 (I:Inv X pins σ H s):nz X.prog X.w X.K X.mg X.base X.A X.stack s H :=
 ⟨I.ok.frames,I.ok.mod,I.bs,Nat.le_trans I.ok.bsz I.sz,I.stack,I.stkFree,I.hok,I.bare⟩
theorem Inv.after {Q:VK}{u:Value}(I:Inv X pins σ H s)(h:CE X.stack X.prog X.w H s Q u s'):EP X pins σ Q u s':=by
 obtain⟨v,H',os,bare,un,hok,r,q⟩:=h
 obtain⟨hh,g,d,t,os'⟩:=s'
 obtain rfl:os'=s.os:=os
 exact⟨v,H',I.call (h':=hh) (g':=g) (d':=d) (t':=t) (ch:=[]) un hok bare (fun b z=>absurd z (by simp)),r,q⟩
end

/-! ### calls -/
def uU (sp:Sp)(dvs:List V)(E:XK)(t:TA):TE:=fun σ H Q=>t σ H fun vs H1=>sp (vs++dvs) H1 Q E
def q0 (C:Addr) (m:Str)(sp:Sp)(dvs:List V)(E:XK)(ta:TE)(t:TA):TE:=fun σ H Q=>ta σ H fun x H1=>∃ a dx fs,x=.ref a∧H1 a=some (.ins C dx fs)∧fs.lookup m=none ∧
 t σ H1 fun vs H2=>sp (x::(vs++dvs)) H2 Q E
def uC (C:Addr)(sp:Sp)(dvs:List V)(E:XK)(t:TA):TE:=fun σ H Q=>t σ H fun vs H1=>∀ x dx,H1 x=none→H1 dx=none→dx≠x →
 sp (.ref x::(vs++dvs)) (upd (upd H1 dx (.own x)) x (.ins C dx [])) (fun v H2=>v=.non∧Q (.ref x) H2) E

def ay (K:PySem.W.Frag)(fd:FuncData)(ps:List Str)(ds:List Value):Prop :=
 ∀ (s:Shared)(us:List Value),K.In s.heap→(us++ds).length=ps.length→BindsTo s fd ⟨us,[]⟩ (ps.zip (us++ds))
theorem ay.all {K:PySem.W.Frag}{fd:FuncData}{ps:List Str}(h:∀ us:List Value,us.length=ps.length→bindArgs fd ⟨us,[]⟩=pure (ps.zip us)):ay K fd ps []:=fun s us _ hl=>by
 rw[List.append_nil] at hl ⊢
 exact .of_eq (h us hl)

def eU (CX:CXT)(X:Cx)(E:XK):Prop:=∀ (pins:List (Addr×Obj)) (σ:St)(H:Hp)(s:Shared) (e:Value)(s':Shared),Inv X pins σ H s→CX X.stack H s E e s'→X.xe e s'

section
variable {X:Cx}{CX:CXT}{k:Nat}{f C:Addr}{fd:FuncData}{ps:List Str}{sp:Sp}{dvs:List V}{ds:List Value}{E:XK}{x m:Str}{p pos apos:Pos}{e o:Expr}{es:List Expr}{ta:TE}{t:TA}

theorem nW {pins:List (Addr×Obj)}{σ:St}{H:Hp}{s:Shared}{Q:VK}{us:List Value}{vs:List V}(F:ao X.prog X.w X.K X.mg X.base CX k f fd ps sp)(hr:dt k X.A)(hb:ay X.K fd ps ds)(hd:Vals dvs ds)(hx:eU CX X E)
   (I:Inv X pins σ H s)(r:Vals vs us)(h:sp (vs++dvs) H Q E):wpAny (model X.prog X.w) X.A (call (.ref f) us) (EP X pins σ Q) X.xe s:=by
 have r2:Vals (vs++dvs) (us++ds):=r.append hd
 have hl:(us++ds).length=ps.length:=by rw[←r2.length];exact F.len _ _ _ _ h
 refine wpAny_call (codeAny_mono (F.run X.A X.stack s H ⟨us,[]⟩ (us++ds) (vs++dvs) Q E hr I.env0 (hb s us I.kIn hl) r2 h) fun r s' hq=>?_)
 cases r with
 | error e=>exact hx pins σ H s e s' I hq
 | ok fl =>
   cases fl with
   | ret u=>exact I.after hq
   | next=>exact False.elim hq
   | brk=>exact False.elim hq
   | cont=>exact False.elim hq

theorem ar (F:ao X.prog X.w X.K X.mg X.base CX k f fd ps sp)(hr:dt k X.A)(hg:Gl X x)(hm:X.mg x=some (.ref f))(hk:PySem.W.keepIn X.K (.ref f)=true)(hb:ay X.K fd ps ds)(hd:Vals dvs ds)(hx:eU CX X E)
   (ha:PA X (e::es) t)(hdb:(x==("__debug__":Str))=false:=by decide)(he:starEach (e::es) X.env=(false,eval e X.env)::starEach es X.env:=by rfl)(hpl:(backTo pos (starEach es X.env)).any (·.1)=false:=by rfl) :
   PE X (.Call (.Name x p) (e::es) [] pos) (uU sp dvs E t):=by
 intro pins s σ H Q I h
 refine wpAny_Call_Name_kw (iU I hg hm ?_ hdb)
 refine PySem.W.callWith_K (h₀:=X.base) I.ok.mod.kin hk (thn (ha pos s σ H _ I h) fun us s1 ⟨vs,H1,I1,r,q⟩=>⟨I1.kIn,?_⟩) he hpl
 exact nW F hr hb hd hx I1 r q
theorem bf {pl:Sem Bool}(he:PE X o ta)(c:Cls X.K C)(hm:bQ X.K C m f)(F:ao X.prog X.w X.K X.mg X.base CX k f fd ps sp)(hr:dt k X.A)(hb:ay X.K fd ps ds)(hd:Vals dvs ds)(hx:eU CX X E)(ha:PA X (e::es) t)
   (hst:starEach (e::es) X.env=(false,eval e X.env)::starEach es X.env:=by rfl)(hpl:(backTo pos (starEach es X.env)).any (·.1)=false:=by rfl)
   (ht:eval (.Call (.Attribute o m apos) (e::es) [] pos) X.env=(do
     let ov ←eval o X.env
     standAt apos.atName
     let (f,first) ←holding [ov] (getMethod ov m pl)
     callWith pos f first (backTo pos (starEach (e::es) X.env)) (backToKw pos (keywordEach [] X.env))):=by rfl) :
   PE X (.Call (.Attribute o m apos) (e::es) [] pos) (q0 C m sp dvs E ta t):=by
 intro pins s σ H Q I h
 refine PySem.W.methodCall_KW (pl:=pl) (thn (he s σ H _ I h) fun u s1 ⟨x,H1,I1,rx,a,dx,fs,ex,ea,l,q⟩=>?_) ht
 subst ex
 obtain rfl:u=Value.ref a:=rx
 refine gu I1 ea c hm l ?_
 refine PySem.W.callWith_K (first:=[.ref a]) (h₀:=X.base) I.ok.mod.kin hm.kp (thn (ha pos s1 σ H1 _ I1 q) fun us s2 ⟨vs,H2,I2,r,q2⟩=>⟨I2.kIn,?_⟩) hst hpl
 exact nW (us:=.ref a::us) (vs:=.ref a::vs) F hr hb hd hx I2 (.cons rfl r) q2
theorem el {pl:Sem Bool}(he:PE X o ta)(c:Cls X.K C)(hm:bQ X.K C m f)(F:ao X.prog X.w X.K X.mg X.base CX k f fd ps sp)(hr:dt k X.A)(hb:ay X.K fd ps ds)(hd:Vals dvs ds)(hx:eU CX X E)
   (ht:eval (.Call (.Attribute o m apos) [] [] pos) X.env=(do
     let ov ←eval o X.env
     standAt apos.atName
     let (f,first) ←holding [ov] (getMethod ov m pl)
     callWith pos f first (backTo pos (starEach [] X.env)) (backToKw pos (keywordEach [] X.env))):=by rfl) :
   PE X (.Call (.Attribute o m apos) [] [] pos) (q0 C m sp dvs E ta nB):=by
 intro pins s σ H Q I h
 refine PySem.W.methodCall_KW (pl:=pl) (thn (he s σ H _ I h) fun u s1 ⟨x,H1,I1,rx,a,dx,fs,ex,ea,l,q⟩=>?_) ht
 subst ex
 obtain rfl:u=Value.ref a:=rx
 refine gu I1 ea c hm l ?_
 exact PySem.W.callWith_K0 (first:=[.ref a]) I1.kIn hm.kp (nW (us:=[.ref a]) (vs:=[.ref a]) F hr hb hd hx I1 (.cons rfl .nil) q)

structure Mk (K:PySem.W.Frag)(C f:Addr):Prop where
 makes:PySem.W.makesIn K C=true
 init:PySem.W.findIn K (.ref C) "__init__"=some (some (.ref f))
 fn:PySem.W.isFn K (.ref f)=true
 kp:PySem.W.keepIn K (.ref C)=true

theorem sI {pins:List (Addr×Obj)}{σ:St}{H:Hp}{s:Shared}{Q:VK}{us:List Value}{vs:List V}(M:Mk X.K C f)(F:ao X.prog X.w X.K X.mg X.base CX k f fd ps sp)(hr:dt (k+1) X.A)(hb:ay X.K fd ps ds)(hd:Vals dvs ds)
   (hx:eU CX X E)(I:Inv X pins σ H s)(r:Vals vs us)
   (h:∀ x dx,H x=none→H dx=none→dx≠x→sp (.ref x::(vs++dvs)) (upd (upd H dx (.own x)) x (.ins C dx [])) (fun v H2=>v=.non∧Q (.ref x) H2) E) :
   wpAny (model X.prog X.w) X.A (call (.ref C) us) (EP X pins σ Q) X.xe s:=by
 have hq:=h (s.heap.objs.size+1) s.heap.objs.size (I.hok.fresh (Nat.le_succ _)) (I.hok.fresh (Nat.le_refl _)) (Nat.ne_of_lt (Nat.lt_succ_self _))
 have I2:=Inv.made (C:=C) I
 have r2:Vals (V.ref (s.heap.objs.size+1)::(vs++dvs)) (Value.ref (s.heap.objs.size+1)::(us++ds)):=.cons rfl (r.append hd)
 have hl:(Value.ref (s.heap.objs.size+1)::us++ds).length=ps.length:=by
   have e:=r2.length
   rw[F.len _ _ _ _ hq] at e
   exact e.symm
 refine wpAny_call (sG (f:=f) I.kIn M.makes M.init (beq_iff_eq.mp M.fn) (codeAny_mono (F.run _ X.stack _ _ ⟨Value.ref (s.heap.objs.size+1)::us,[]⟩ (Value.ref (s.heap.objs.size+1)::(us++ds)) _ _ E (hr.make C us [])
   (I2.env0.make C us []) (hb _ (Value.ref (s.heap.objs.size+1)::us) I2.kIn hl) r2 hq) fun r s' hq'=>?_))
 cases r with
 | error e=>exact hx pins σ _ _ e s' I2 hq'
 | ok fl =>
   cases fl with
   | ret u =>
     obtain⟨v,H',I3,rv,ev,q3⟩:=I2.after hq'
     subst ev
     exact⟨rv,⟨V.ref (s.heap.objs.size+1),H',I3,rfl,q3⟩⟩
   | next=>exact False.elim hq'
   | brk=>exact False.elim hq'
   | cont=>exact False.elim hq'
theorem iQ (M:Mk X.K C f)(F:ao X.prog X.w X.K X.mg X.base CX k f fd ps sp)(hr:dt (k+1) X.A)(hg:Gl X x)(hm:X.mg x=some (.ref C))(hb:ay X.K fd ps ds)(hd:Vals dvs ds)(hx:eU CX X E)
   (ha:PA X (e::es) t)(hdb:(x==("__debug__":Str))=false:=by decide)(he:starEach (e::es) X.env=(false,eval e X.env)::starEach es X.env:=by rfl)(hpl:(backTo pos (starEach es X.env)).any (·.1)=false:=by rfl) :
   PE X (.Call (.Name x p) (e::es) [] pos) (uC C sp dvs E t):=by
 intro pins s σ H Q I h
 refine wpAny_Call_Name_kw (iU I hg hm ?_ hdb)
 refine PySem.W.callWith_K (h₀:=X.base) I.ok.mod.kin M.kp (thn (ha pos s σ H _ I h) fun us s1 ⟨vs,H1,I1,r,q⟩=>⟨I1.kIn,?_⟩) he hpl
 exact sI M F hr hb hd hx I1 r q
end

/-! ### keywords -/
section
variable {X:Cx}{CX:CXT}{k:Nat}{f C:Addr}{fd:FuncData}{ps ks:List Str}{sp:Sp}{E:XK}{x m:Str}{p pos apos kpos:Pos}{e o:Expr}{es:List Expr}{kws:List Keyword}{te ta:TE}{t tk:TA}{nm:Option Str}
variable {g:List Value→List Value→List Value}{gV:List V→List V→List V}
end

/-! ### a def's body keeps its promise -/
structure ap (N P:List Str)(sc:Scope):Prop where
 kind:sc.kind=.function
 co:sc.isCoroutine=false
 gen:sc.isGenerator=false
 nd:N.Nodup
 pre:N.take P.length=P
 par:∀ x∈P,sc.names.lookup x=some .local∨sc.names.lookup x=some .cell
 nofree:∀ y∈sc.names,y.2≠.free

theorem km {kindOf:Str→Option NameKind}{x:Str}:∀ {binds:List (Str×Value)}{m:Str→Option Value},(∀ v,(x,v)∉binds)→bindL kindOf binds m x=m x
 | [],_,_=>rfl
 | (n,v)::r,m,h=>by
   unfold bindL
   rw[km fun w hw=>h w (List.mem_cons_of_mem _ hw)]
   split
   · have:x≠n:=by rintro rfl;exact h v List.mem_cons_self
     simp[this]
   · rfl
theorem jP {kindOf:Str→Option NameKind}{x:Str}:∀ {binds:List (Str×Value)}{m:Str→Option Value},(∀ v,(x,v)∉binds)→bindC kindOf binds m x=m x
 | [],_,_=>rfl
 | (n,v)::r,m,h=>by
   unfold bindC
   rw[jP fun w hw=>h w (List.mem_cons_of_mem _ hw)]
   split
   · rfl
   · have:x≠n:=by rintro rfl;exact h v List.mem_cons_self
     simp[this]
theorem kY {kindOf:Str→Option NameKind}{x:Str}{v:Value}:∀ {P:List Str}{vs:List Value}{i:Nat}{m:Str→Option Value},P.Nodup→P[i]?=some x→vs[i]?=some v→kindOf x=some .local →
   bindL kindOf (P.zip vs) m x=some v
 | [],_,_,_,_,h,_,_=>by simp at h
 | _::_,[],_,_,_,_,h,_=>by simp at h
 | p::P,w::vs,0,m,nd,h1,h2,hk=>by
   simp at h1 h2;subst h1;subst h2
   show bindL kindOf ((p,w)::P.zip vs) m p=_
   unfold bindL
   rw[km fun v hv=>(List.nodup_cons.mp nd).1 (List.of_mem_zip hv).1,if_pos hk]
   simp
 | p::P,w::vs,i+1,m,nd,h1,h2,hk=>by
   show bindL kindOf ((p,w)::P.zip vs) m x=_
   unfold bindL
   exact kY (i:=i) (List.nodup_cons.mp nd).2 (by simpa using h1) (by simpa using h2) hk
theorem kx {kindOf:Str→Option NameKind}{x:Str}{v:Value}:∀ {P:List Str}{vs:List Value}{i:Nat}{m:Str→Option Value},P.Nodup→P[i]?=some x→vs[i]?=some v→kindOf x≠some .local →
   bindC kindOf (P.zip vs) m x=some v
 | [],_,_,_,_,h,_,_=>by simp at h
 | _::_,[],_,_,_,_,h,_=>by simp at h
 | p::P,w::vs,0,m,nd,h1,h2,hk=>by
   simp at h1 h2;subst h1;subst h2
   show bindC kindOf ((p,w)::P.zip vs) m p=_
   unfold bindC
   rw[jP fun v hv=>(List.nodup_cons.mp nd).1 (List.of_mem_zip hv).1,if_neg hk]
   simp
 | p::P,w::vs,i+1,m,nd,h1,h2,hk=>by
   show bindC kindOf ((p,w)::P.zip vs) m x=_
   unfold bindC
   exact kx (i:=i) (List.nodup_cons.mp nd).2 (by simpa using h1) (by simpa using h2) hk

def start (N:List Str)(vs:List V):St:=vs.map some++List.replicate (N.length - vs.length) none

def cu (CX:CXT)(P:Program)(w:World)(K:PySem.W.Frag)(mg:Str→Option Value)(base:Heap)(N:List Str) (qual:Str)(scope:Scope)(f:Addr) (cd:Value)(A:Around)(outer:List Env)(s:Shared)(H:Hp)(E:XK):Cx where
 prog:=P
 w:=w
 K:=K
 mg:=mg
 base:=base
 A:=A.deeper (envOfC qual scope s.heap.objs.size f cd)
 N:=N
 s₀:=s
 H₀:=H
 env:=envOfC qual scope s.heap.objs.size f cd
 outer:=outer
 stack:=envOfC qual scope s.heap.objs.size f cd::outer
 ex:=[]
 calm:=true
 fn:=fun _=>true
 pn:=[]
 xe:=fun e s'=>wpAny (model P w) (A.deeper (envOfC qual scope s.heap.objs.size f cd)) (leaving (envOfC qual scope s.heap.objs.size f cd) e) (fun _ s''=>CX outer H s E e s'') (fun e' s''=>CX outer H s E e' s'') s'

theorem mZ {sc:Scope}{n:Nat}{x:Str}(h:sc.names.lookup x=some .cell):∃ c,(cellsFrom n sc.names []).lookup x=some c:=by
 have q:=PySem.W.cellsFrom_some sc.names n [] (.inl h)
 exact Option.isSome_iff_exists.mp q

theorem qt {CX:CXT}{P:Program}{w:World}{K:PySem.W.Frag}{mg:Str→Option Value}{base:Heap}{N ps:List Str}{qual:Str}{scope:Scope}{f:Addr}{cd:Value}{A:Around}{outer:List Env}{s s1:Shared}{H:Hp}{E:XK}{us:List Value}{vs:List V}
   (S:ap N ps scope)(hd:A.handled=none)(e0:nz P w K mg base A outer s H)(hl:vs.length=ps.length)(r:Vals vs us)
   (x:InCallC s s.heap.objs.size (bindL (envOfC qual scope s.heap.objs.size f cd).kindOf (ps.zip us) fun _=>none) (cellsFrom (s.heap.objs.size+1) scope.names []) (bindC (envOfC qual scope s.heap.objs.size f cd).kindOf (ps.zip us) fun _=>none) s1) :
   Inv (cu CX P w K mg base N qual scope f cd A outer s H E) [] (start N vs) H s1:=by
 have hpl:ps.length≤N.length:=by have:=congrArg List.length S.pre;rw[List.length_take] at this;omega
 obtain⟨h1,tk,rfl,hk⟩:=x.done
 have noA:∀ b:Addr,b∉(cu CX P w K mg base N qual scope f cd A outer s H E).ex:=fun b z=>absurd (show b∈([]:List Addr) from z) (by simp)
 refine⟨⟨e0.mod,S.kind,rfl,rfl,Nat.le_refl _,fun y z c h1 h2=>?_,fun y hy=>?_,fun y c _ h=>?_,fun _=>hd,Around.frames_deeper e0.frames,.inr ⟨rfl,rfl⟩,fun b z=>absurd z (noA b),e0.bs,e0.bsz,fun b _ _=>noA b,fun b z=>absurd z (noA b),e0.funs,e0.frf⟩,
   rfl,e0.bare,Un.kept hk,⟨_,x.toInCall.ns,fun i y v h1 h2 h3=>?_⟩,fun y c h=>⟨_,x.cell y c h⟩,e0.hok.fresh (Nat.le_refl _),fun y c h=>?_,fun p hp=>absurd (show p∈([]:List (Addr×Obj)) from hp) (by simp),e0.hok.kept hk,?_⟩
 · exact name_of_addr x.apart (PySem.mem_of_lookup h1) (PySem.mem_of_lookup h2)
 · have hy:scope.names.lookup y=some .cell∨scope.names.lookup y=some .free:=hy
   rcases hy with hy | hy
   · exact mZ hy
   · exact absurd rfl (S.nofree _ (PySem.mem_of_lookup hy))
 · exact Nat.le_of_lt (x.above y c (PySem.mem_of_lookup h))
 · have hi:i < vs.length:=by
     unfold start at h2
     by_cases hi:i < vs.length
     · exact hi
     · rw[List.getElem?_append_right (by simpa using hi)] at h2
       rw[List.getElem?_replicate] at h2
       split at h2<;>cases h2
   have ha:vs[i]?=some v:=by
     unfold start at h2
     rw[List.getElem?_append_left (by simpa using hi),List.getElem?_map] at h2
     cases e:vs[i]? with
     | none=>rw[e] at h2;cases h2
     | some a=>rw[e] at h2;cases h2;rfl
   obtain⟨u,hu,rv⟩:=r.get ha
   have hp:ps[i]?=some y:=by
     rw[←S.pre,List.getElem?_take_of_lt (by omega)];exact h1
   have ndP:ps.Nodup:=by rw[←S.pre];exact S.nd.sublist (List.take_sublist _ _)
   refine⟨u,rv,?_⟩
   rcases S.par y (List.mem_of_getElem? hp) with k | k
   · exact .inl ⟨k,kY ndP hp hu k⟩
   · obtain⟨c,e⟩:=mZ (n:=s.heap.objs.size+1) k
     refine .inr ⟨.inl k,c,e,?_⟩
     have q:=x.cell y c e
     rw[kx ndP hp hu (by show scope.names.lookup y≠_;rw[k];decide)] at q
     exact q
 · exact e0.hok.fresh (Nat.le_of_lt (x.above y c (PySem.mem_of_lookup h)))
 · unfold start
   show _=N.length
   rw[List.length_append,List.length_map,List.length_replicate]
   omega

theorem uS {CX:CXT}{P:Program}{w:World}{K:PySem.W.Frag}{mg:Str→Option Value}{base:Heap}{k:Nat}{f:Addr}{name qual:Str}{params:Arguments}{body:List Stmt}{scope:Scope}{dV kV doc pm cdv ct oc:Value}{an od:Option Addr}
   {osl:Array (Option Value)}{N ps:List Str}{sp:Sp}(lk:K.lookup f=some ⟨oc,od,.func (PySem.W.fnOf name qual params body scope dV kV doc pm an cdv ct),osl⟩)(hcd:PySem.W.codeIn K cdv qual=true)(S:ap N ps scope)
   (len:∀ vs H Q E,sp vs H Q E→vs.length=ps.length)
   (hbody:∀ (A:Around)(outer:List Env)(s:Shared)(H:Hp)(vs:List V)(Q:VK)(E:XK),dt k (A.deeper (envOfC qual scope s.heap.objs.size f cdv))→sp vs H Q E →
     ∃ t,PSs (cu CX P w K mg base N qual scope f cdv A outer s H E) body t∧t { nx:=fun _ H'=>Q .non H',rt:=Q } (start N vs) H) :
   ao P w K mg base CX (k+1) f (PySem.W.fnOf name qual params body scope dV kV doc pm an cdv ct) ps sp:=by
 refine⟨len,fun A outer s H args us vs Q E hr e0 hb r hsp=>?_⟩
 have hl:=len _ _ _ _ hsp
 have KX:K.In s.heap:=e0.mod.kin.keeps fun b o e=>(e0.bs b o e).1
 have lim:s.heap.NoLimit:=e0.mod.nolimit.keeps fun b o e=>(e0.bs b o e).1
 have hkind:∀ y∈ps.zip us,scope.names.lookup y.1=some .local∨(scope.names.lookup y.1=some .cell∧((cellsFrom (s.heap.objs.size+1) scope.names []).lookup y.1).isSome=true):=fun⟨n,v⟩ hy=>by
   rcases S.par n (List.of_mem_zip hy).1 with q | q
   · exact .inl q
   · exact .inr ⟨q,PySem.W.cellsFrom_some _ _ _ (.inl q)⟩
 refine codeAny_call_function hr.depth (KX _ _ lk) rfl S.co S.gen rfl (PySem.W.codeRec_of KX hcd) (hb _ _ _ _ ?_)
 refine wpAny_newFunctionEnv_cells S.kind hkind fun env he s1 x=>?_
 subst he
 refine⟨lim.keeps x.toInCall.keep,codeAny_func ?_⟩
 obtain⟨t,ht,hq⟩:=hbody A outer s H vs Q E (hr.deeper _) hsp
 have I:Inv (cu CX P w K mg base N qual scope f cdv A outer s H E) [] (start N vs) H s1:=qt S hr.hd e0 hl r x
 refine wpAny_mono (ht s1 (start N vs) H _ I hq) (fun fl s' hs=>?_) fun e s' hs=>hs
 have fin:∀ {σ':St}{H':Hp}{v:V}{u:Value},Inv (cu CX P w K mg base N qual scope f cdv A outer s H E) [] σ' H' s'→aW v u→Q v H'→CE outer P w H s Q u s' :=
   fun {σ' H' v u} J rv q=>⟨v,H',J.os,J.bare,J.base,J.hok,rv,q⟩
 cases fl with
 | ret u =>
   obtain⟨v,σ',H',J,rv,q⟩:=hs
   exact fin J rv q
 | next =>
   obtain⟨σ',H',J,q⟩:=hs
   exact fin (v:=V.non) (u:=Value.none) J rfl q
 | brk =>
   obtain⟨_,_,_,q⟩:=hs
   exact False.elim q
 | cont =>
   obtain⟨_,_,_,q⟩:=hs
   exact False.elim q
end L2

namespace L2
open PySem PySem.Spec PyProof.Rows
section
variable {X:Cx}{x:Str}{p pos:Pos}{e:Expr}{es:List Expr}{t:TA}{id T:String}{r:List V→Hp→VK→Prop}

def tCB (r:List V→Hp→VK→Prop)(t:TA):TE:=fun σ H Q=>t σ H fun vs H1=>r vs H1 Q
theorem av (hc:cv X (.builtin id) r)(hg:Gl X x)(hm:X.mg x=none)(hv:bootBuiltins x=some (.builtin id))(ha:PA X (e::es) t)(hn:x≠"__name__":=by decide)(hdb:(x==("__debug__":Str))=false:=by decide)
   (he:starEach (e::es) X.env=(false,eval e X.env)::starEach es X.env:=by rfl)(hpl:(backTo pos (starEach es X.env)).any (·.1)=false:=by rfl):PE X (.Call (.Name x p) (e::es) [] pos) (tCB r t):=by
 intro pins s σ H Q I h
 refine wpAny_Call_Name_kw (gm I hg hm hv ?_ hn hdb)
 exact PyProof.Rows.callWith_builtin1 (thn (ha pos s σ H _ I h) fun us s1 ⟨vs,H1,I1,r1,q1⟩=>hc pins s1 σ H1 vs us Q I1 r1 q1) he hpl
theorem bg (hc:cv X (.type T) r)(hg:Gl X x)(hm:X.mg x=none)(hv:bootBuiltins x=some (.type T))(ha:PA X (e::es) t)(hn:x≠"__name__":=by decide)(hdb:(x==("__debug__":Str))=false:=by decide)
   (he:starEach (e::es) X.env=(false,eval e X.env)::starEach es X.env:=by rfl)(hpl:(backTo pos (starEach es X.env)).any (·.1)=false:=by rfl):PE X (.Call (.Name x p) (e::es) [] pos) (tCB r t):=by
 intro pins s σ H Q I h
 refine wpAny_Call_Name_kw (gm I hg hm hv ?_ hn hdb)
 exact PyProof.Rows.callWith_type1 (thn (ha pos s σ H _ I h) fun us s1 ⟨vs,H1,I1,r1,q1⟩=>hc pins s1 σ H1 vs us Q I1 r1 q1) he hpl
end
end L2

namespace HT
open PySem PyProof.Rows

section
open PySem.SeqAt
open PySem.AutoSeq1 (wpAny_loadPart')
open PySem.MeetsSeq PySem.MeetsSeq2 PySem.MeetsSeq3

end

section
variable {prog:Program}{w:World}{A:Around}{E:Value→Shared→Prop}{s:Shared}

/-! ### t[a:b],not the whole -/
def sIx (n d:Nat):Option Int→Nat
 | none=>d
 | some v=>if v < 0 then(v+(n:Int)).toNat else min v.toNat n
theorem sIx_none (n d:Nat):sIx n d none=d:=rfl
theorem sIx_nat (n d k:Nat):sIx n d (some (k:Int))=min k n:=by
 show(if(k:Int) < 0 then((k:Int)+(n:Int)).toNat else min (k:Int).toNat n)=min k n
 rw[if_neg (by omega),Int.toNat_natCast]
end
end HT

namespace L2
open PySem PySem.Spec PyProof.Rows

/-! ### the parts of a slice -/
abbrev TO:=St→Hp→(Option Int→Hp→Prop)→Prop
def PO (X:Cx)(e:Option Expr)(t:TO):Prop :=
 ∀ ⦃pins:List (Addr×Obj)⦄ (s:Shared) (σ:St)(H:Hp)(Q:Option Int→Hp→Prop),Inv X pins σ H s→t σ H Q →
   wpAny (model X.prog X.w) X.A (evalPart e X.env) (fun u s'=>∃ o H',Inv X pins σ H' s'∧IsPart u o∧Q o H') X.xe s
def pi:TO:=fun _ H Q=>Q none H
def uJ (t:TE):TO:=fun σ H Q=>t σ H fun x H1=>∃ i,x=.int i∧Q (some i) H1

section
variable {X:Cx}{e:Expr}{te:TE}{lo hi:Option Expr}{tl th:TO}{pos p2:Pos}

theorem eI:PO X none pi:=by
 intro pins s σ H Q I h
 rw[evalPart_none]
 exact wpAny_pure ⟨none,H,I,.none,h⟩
theorem dB (h:PE X e te):PO X (some e) (uJ te):=by
 intro pins s σ H Q I hw
 rw[evalPart_some]
 refine thn (h s σ H _ I hw) fun u s1 ⟨x,H1,I1,r1,q1⟩=>?_
 obtain⟨i,rfl,q⟩:=q1
 obtain⟨t,rfl⟩:=r1
 exact⟨some i,H1,I1,.int i t,q⟩

def SlR (X:Cx)(r:V→Option Int→Option Int→Hp→VK→Prop):Prop :=
 ∀ (pins:List (Addr×Obj))(s:Shared) (σ:St)(H:Hp) (x:V) (v vl vu:Value)(lo hi:Option Int)(sl:Addr)(Q:VK),Inv X pins σ H s→aW x v→s.heap.IsSliceOf sl vl vu .none→IsPart vl lo→IsPart vu hi→r x lo hi H Q →
   ∃ T id,typeLookup (.type T) "__getitem__"=pure (some (.builtin id))∧s.TypeIs v T∧wpAny (model X.prog X.w) X.A (getItem v (.ref sl)) (EP X pins σ Q) X.xe s
def tSl (r:V→Option Int→Option Int→Hp→VK→Prop)(te:TE)(tl th:TO):TE:=fun σ H Q=>te σ H fun x H1=>tl σ H1 fun l H2=>th σ H2 fun u H3=>r x l u H3 Q
theorem dj {r:V→Option Int→Option Int→Hp→VK→Prop}(hr:SlR X r)(he:PE X e te)(hl:PO X lo tl)(hu:PO X hi th):PE X (.Subscript e (.Slice lo hi none p2) pos) (tSl r te tl th):=by
 intro pins s σ H Q I h
 refine Subscript_ (thn (he s σ H _ I h) fun v s1 ⟨x,H1,I1,r1,q1⟩=>?_)
 refine wpAny_Slice (thn (hl s1 σ H1 _ I1 q1) fun vl s2 ⟨l,H2,I2,pl,q2⟩=>thn (hu s2 σ H2 _ I2 q2) fun vu s3 ⟨u,H3,I3,pu,q3⟩=>?_)
 rw[evalPart_none]
 refine wpAny_pure ?_
 have I4:Inv X pins σ H3 { s3 with heap:=s3.heap.push { cls:=.type "slice",data:=.fields #[vl,vu,.none] } }:=I3.kept (t':=s3.toks) fun b ob q=>Heap.get?_push_of_some _ q
 obtain⟨T,id,hT,ht,hg⟩:=hr pins { s3 with heap:=s3.heap.push { cls:=.type "slice",data:=.fields #[vl,vu,.none] } } σ H3 x v vl vu l u s3.heap.objs.size Q I4 r1 (Heap.IsSliceOf.new ..) pl pu q3
 show wpAny (model X.prog X.w) X.A (subscriptTail e (.Slice lo hi none p2) v (.ref s3.heap.objs.size)) (EP X pins σ Q) X.xe { s3 with heap:=s3.heap.push { cls:=.type "slice",data:=.fields #[vl,vu,.none] } }
 exact tail_any (ops:=[.ref s3.heap.objs.size,v]) ht hT hg (by with_unfolding_all rfl)

def fV (xs:List V)(lo hi:Option Int):List V:=(xs.drop (HT.sIx xs.length 0 lo)).take (HT.sIx xs.length xs.length hi - HT.sIx xs.length 0 lo)
theorem me (xs:List V)(lo hi:Option Int):(fV xs lo hi).length≤xs.length:=by
 unfold fV
 rw[List.length_take,List.length_drop]
 omega
/-! ### t < u,t+u -/
end
end L2

namespace L2
open PySem PySem.Spec PyProof.Rows

/-! ### places -/
def ixN (n:Nat) (i:Int):Option Nat:=if 0≤i then(if i < n then some i.toNat else none) else if -(n:Int)≤i then some (i+n).toNat else none
def atI {α:Type}(xs:List α) (i:Int):Option α:=(ixN xs.length i).bind fun j=>xs[j]?
theorem ly {n:Nat}{i:Int}{j:Nat}(h:ixN n i=some j):seqIndex? i n=some j∧j < n∧-(n:Int)≤i∧i < n:=by
 unfold ixN at h
 by_cases h0:0≤i
 · rw[if_pos h0] at h
   by_cases h1:i < n
   · rw[if_pos h1] at h
     have e:i.toNat=j:=Option.some.inj h
     exact⟨by rw[seqIndex_of h0 h1,e],by omega,by omega,h1⟩
   · rw[if_neg h1] at h;cases h
 · rw[if_neg h0] at h
   by_cases h1:-(n:Int)≤i
   · rw[if_pos h1] at h
     have e:(i+n).toNat=j:=Option.some.inj h
     exact⟨by rw[seqIndex_neg (by omega) h1,e],by omega,h1,by omega⟩
   · rw[if_neg h1] at h;cases h
theorem lp {α:Type}{xs:List α}{i:Int}{v:α}(h:atI xs i=some v):∃ j,seqIndex? i xs.length=some j∧xs[j]?=some v∧j < xs.length∧-(xs.length:Int)≤i∧i < xs.length:=by
 unfold atI at h
 cases e:ixN xs.length i with
 | none=>rw[e] at h;cases h
 | some j =>
   rw[e] at h
   obtain⟨h1,h2,h3,h4⟩:=ly e
   exact⟨j,h1,h,h2,h3,h4⟩
theorem eX {α:Type}{xs:List α}{j:Nat}{v:α}(h:xs[j]?=some v):atI xs (j:Int)=some v:=by
 have hj:j < xs.length:=(List.getElem?_eq_some_iff.mp h).1
 have e:ixN xs.length (j:Int)=some j:=by
   unfold ixN
   rw[if_pos (by omega),if_pos (by omega)];simp
 unfold atI;rw[e];exact h
theorem gv {α:Type}(xs:List α)(v:α):atI (xs++[v]) (-1)=some v:=by
 have hl:(xs++[v]).length=xs.length+1:=by simp
 have e:ixN (xs++[v]).length (-1)=some xs.length:=by
   unfold ixN
   rw[hl,if_neg (by decide),if_pos (by omega)]
   congr 1
   omega
 unfold atI
 rw[e]
 show(xs++[v])[xs.length]?=some v
 simp

/-! ### what may be subscripted -/
def ud (b:Expr):Prop:=∀ o i,subscripted b false o i=operate [o,i] (getItem o i)
def IxR (X:Cx)(r:R2):Prop :=
 ∀ (value slice:Expr)(pins:List (Addr×Obj))(s:Shared) (σ:St)(H:Hp) (x y:V) (v u:Value)(Q:VK),Inv X pins σ H s→aW x v→aW y u→r x y H Q →
   subscripted slice false v u=operate [v,u] (getItem v u)→wpAny (model X.prog X.w) X.A (subscriptTail value slice v u) (EP X pins σ Q) X.xe s
def MtR (X:Cx)(id:String)(r:V→List V→Hp→VK→Prop):Prop :=
 ∀ (pins:List (Addr×Obj))(s:Shared) (σ:St)(H:Hp) (x:V)(xs:List V) (v:Value)(us:List Value)(Q:VK),Inv X pins σ H s→aW x v→Vals xs us→r x xs H Q →
   wpAny (model X.prog X.w) X.A (call (.builtin id) (v::us)) (EP X pins σ Q) X.xe s
section
variable {X:Cx}{a b:Expr}{ta tb:TE}{pos:Pos}
theorem aM {r:R2}(hr:IxR X r)(ha:PE X a ta)(hb:PE X b tb)(hs:ud b):PE X (.Subscript a b pos) (tOp r ta tb):=by
 intro pins s σ H Q I h
 exact Subscript_ (vQ ha hb I h fun v u s2 x y H2 I2 rx ry q=>hr a b pins s2 σ H2 x y v u Q I2 rx ry q (hs _ _))

def ot (K:PySem.W.Frag):R2:=fun x y H Q=>∃ p xs i v,x=.ref p∧y=.int i∧SqL K H p xs∧atI xs i=some v∧Q v H
def wb (K:PySem.W.Frag):R2:=fun x y H Q=>∃ p xs i v,x=.ref p∧y=.int i∧SqT K H p xs∧atI xs i=some v∧Q v H
def wc:R2:=fun x y H Q=>∃ z i c,x=.str z∧y=.int i∧z.length≤sizeLine∧atI z.cps.toList i=some c∧Q (.str ⟨#[c]⟩) H
theorem aG:IxR X (ot X.K):=by
 intro value slice pins s σ H x y v u Q I rx ry h hs
 obtain⟨p,xs,i,z,rfl,rfl,hq,he,q⟩:=h
 cases rx
 obtain⟨t,rfl⟩:=ry
 obtain⟨its,r,pl,hz⟩:=I.list hq
 obtain⟨j,h1,h2,h3,h4,h5⟩:=lp he
 obtain⟨w,ew,rw'⟩:=r.get h2
 have hl:=r.length
 have hn:=ie
 have fin:EP X pins σ Q w s:=⟨z,H,I,rw',q⟩
 by_cases h0:0≤i
 · have hj:i.toNat=j:=by
     rw[seqIndex_of h0 h5] at h1
     exact Option.some.inj h1
   exact item_listR pl.isList h0 (by omega) (by rw[hj];simpa using ew) fin hs
 · have hj:(i+(its.toArray.size:Int)).toNat=j:=by
     rw[seqIndex_neg (by omega) h4] at h1
     rw[List.size_toArray,←hl]
     exact Option.some.inj h1
   exact subscriptTail_builtinR (x:=w) pl.isList.typeIs slot_list_getitem.lookup
     (wpAny_getItem_list_neg (Q:=fun r s'=>r=w∧EP X pins σ Q r s') pl.isList (by omega) (by rw[List.size_toArray]<;>omega) (by omega) (by rw[hj];simpa using ew) ⟨rfl,fin⟩) hs
theorem cC:IxR X (wb X.K):=by
 intro value slice pins s σ H x y v u Q I rx ry h hs
 obtain⟨p,xs,i,z,rfl,rfl,hq,he,q⟩:=h
 cases rx
 obtain⟨t,rfl⟩:=ry
 obtain⟨its,r,pl,hz⟩:=I.tuple hq
 obtain⟨j,h1,h2,h3,h4,h5⟩:=lp he
 obtain⟨w,ew,rw'⟩:=r.get h2
 have hl:=r.length
 have hn:=ie
 have fin:EP X pins σ Q w s:=⟨z,H,I,rw',q⟩
 exact subscriptTail_builtinR (x:=w) pl.typeIs slot_tuple_getitem.lookup
   (getItem_tuple (j:=j) (Q:=fun r s'=>r=w∧EP X pins σ Q r s') pl (by omega) (by omega) (by rw[List.size_toArray,←hl];exact h1) (by simpa using ew) ⟨rfl,fin⟩) hs
theorem lE:IxR X wc:=by
 intro value slice pins s σ H x y v u Q I rx ry h hs
 obtain⟨z,i,c,rfl,rfl,hz,he,q⟩:=h
 obtain⟨t,rfl⟩:=rx
 obtain⟨t',rfl⟩:=ry
 obtain⟨j,h1,h2,h3,h4,h5⟩:=lp he
 have hl:z.cps.toList.length=z.length:=by simp[Str.length]
 rw[hl] at h1 h4 h5
 have hn:=ie
 exact tail_any (typeIs_str s z t) slot_str_getitem.lookup (getItem_str (c:=c) (by
   have e1:decide (i < -(2 ^ 63:Int))=false:=decide_eq_false (by omega)
   have e2:decide (i≥2 ^ 63)=false:=decide_eq_false (by omega)
   rw[e1,e2,Bool.or_false]) (by rw[h1];simpa using h2) ⟨.str ⟨#[c]⟩,H,I.tok _,⟨_,rfl⟩,q⟩) hs
/-! ### xs[i]=v,any sign -/
theorem oq (its:List Value) (n j:Nat) (u:Value):Obj.mapSeq (·.setIfInBounds j u) { cls:=.type "list",data:=.seq its.toArray n }={ cls:=.type "list",data:=.seq (its.set j u).toArray n }:=by
 simp[Obj.mapSeq]
theorem Inv.lst {pins:List (Addr×Obj)}{σ:St}{H:Hp}{s:Shared}{p:Addr}{xs:List V}(I:Inv X pins σ H s)(h:H p=some (.lst xs)) :
   ∃ (its:List Value) (n:Nat),Vals xs its∧s.heap.get? p=some { cls:=.type "list",data:=.seq its.toArray n }∧xs.length≤sizeLine:=by
 obtain⟨z,its,n,r,e⟩:=I.hok p _ h
 exact⟨its,n,r,e,z⟩
theorem Inv.lstUpd {pins:List (Addr×Obj)}{σ:St}{H:Hp}{s:Shared}{p:Addr}{xs ys:List V}{its its':List Value}{n n':Nat}{f:Obj→Obj}(I:Inv X pins σ H s)(h:H p=some (.lst xs))
   (ho:s.heap.get? p=some { cls:=.type "list",data:=.seq its.toArray n })(hf:f { cls:=.type "list",data:=.seq its.toArray n }={ cls:=.type "list",data:=.seq its'.toArray n' })(r:Vals ys its')(hz:ys.length≤sizeLine) (t:Nat) :
   Inv X pins σ (upd H p (.lst ys)) { s with heap:=s.heap.update p f,toks:=t }:=by
 have e:(s.heap.update p f).get? p=some { cls:=.type "list",data:=.seq its'.toArray n' }:=by
   rw[Heap.get?_update_self f ho (by rw[hf]<;>rfl),hf]
 refine I.write (x:=p) (e:=p) (by rw[h];trivial) (.inl rfl) (fun b u hb q=>(Heap.get?_update_other _ _ (Ne.symm hb)).trans q) ⟨_,e⟩ ?_
 exact⟨hz,its',n',r,e⟩
def uV:V→V→V→Hp→(Hp→Prop)→Prop:=fun o i v H Q=>∃ p xs k j,o=.ref p∧i=.int k∧H p=some (.lst xs)∧ixN xs.length k=some j∧Q (upd H p (.lst (xs.set j v)))
theorem m3:wy X uV:=by
 intro pins s σ H o i v ov iv u Q I ro ri rv h
 obtain⟨p,xs,k,j,rfl,rfl,hp,hj,q⟩:=h
 cases ro
 obtain⟨t,rfl⟩:=ri
 obtain⟨its,n,r,ho,hz⟩:=I.lst hp
 obtain⟨h1,h2,h3,h4⟩:=ly hj
 have hl:=r.length
 have hn:=ie
 have I':Inv X pins σ (upd H p (.lst (xs.set j v))) { s with heap:=s.heap.update p (Obj.mapSeq (·.setIfInBounds j u)) } :=
   I.lstUpd hp ho (oq its n j u) (r.set rv j) (by rw[List.length_set];exact hz) s.toks
 by_cases h0:0≤k
 · have hk:k.toNat=j:=by
     rw[seqIndex_of h0 h4] at h1
     exact Option.some.inj h1
   exact PySem.W.ki_setAt ho h0 (by omega) (by rw[List.size_toArray,←hl];exact h4) (by rw[hk];exact⟨_,I',q⟩)
 · have hk:(k+(its.toArray.size:Int)).toNat=j:=by
     rw[seqIndex_neg (by omega) h3] at h1
     rw[List.size_toArray,←hl]
     exact Option.some.inj h1
   exact PySem.W.ki_setBack ho (by omega) (by rw[List.size_toArray,←hl];exact h3) (by omega) (by rw[hk];exact⟨_,I',q⟩)

/-! ### slices -/
theorem le (lo hi:Option Int) (n:Nat):(sliceBounds lo hi none n).1=((HT.sIx n 0 lo:Nat):Int)∧(sliceBounds lo hi none n).2.1=((HT.sIx n n hi:Nat):Int)∧(sliceBounds lo hi none n).2.2=1:=by
 refine⟨?_,?_,rfl⟩
 · cases lo with
   | none=>simp[sliceBounds,HT.sIx]
   | some i =>
     simp only[sliceBounds,HT.sIx,Option.getD_none,show(1:Int) > 0 by decide,if_true]
     by_cases h:i < 0
     · simp only[h,if_true]<;>omega
     · simp only[h,if_false]<;>omega
 · cases hi with
   | none=>simp[sliceBounds,HT.sIx]
   | some i =>
     simp only[sliceBounds,HT.sIx,Option.getD_none,show(1:Int) > 0 by decide,if_true]
     by_cases h:i < 0
     · simp only[h,if_true]<;>omega
     · simp only[h,if_false]<;>omega
theorem jH (its:List Value)(lo hi:Option Int):slicePick its.toArray lo hi none=((its.drop (HT.sIx its.length 0 lo)).take (HT.sIx its.length its.length hi - HT.sIx its.length 0 lo)).toArray:=by
 obtain⟨h1,h2,h3⟩:=le lo hi its.toArray.size
 unfold slicePick
 rw[h1,h2,h3]
 simp only[sliceRange_one,pick_run,List.size_toArray]<;>rfl
def vF (K:PySem.W.Frag):V→Option Int→Option Int→Hp→VK→Prop:=fun x lo hi H Q=>∃ a xs,x=.ref a∧SqL K H a xs∧∀ p,H p=none→Q (.ref p) (upd H p (.lst (fV xs lo hi)))
theorem gH:SlR X (vF X.K):=by
 intro pins s σ H x v vl vu lo hi sl Q I rx hs pl pu h
 obtain⟨a,xs,rfl,hx,q⟩:=h
 cases rx
 obtain⟨its,r,ht,hz⟩:=I.list hx
 have hlen:=r.length
 refine⟨"list",_,slot_list_getitem.lookup,ht.isList.typeIs,?_⟩
 refine wpAny_getItem_list_slice ht.isList hs pl pu .none (by simp) ?_ (by rw[List.size_toArray]<;>omega)
 rw[jH,←hlen]
 refine⟨.ref s.heap.objs.size,_,I.laid (t':=s.toks) (o:=.lst (fV xs lo hi)) (fun b ob q=>Heap.get?_push_of_some _ q) (Nat.le_refl _) ?_,rfl,q _ (I.hok.fresh (Nat.le_refl _))⟩
 exact⟨Nat.le_trans (me xs lo hi) hz,_,0,(r.drop (HT.sIx xs.length 0 lo)).take (HT.sIx xs.length xs.length hi - HT.sIx xs.length 0 lo),Heap.get?_push_size _ rfl⟩

/-! ### in,not in: flat items -/
def cX:V→Bool
 | .non=>true
 | .bl _=>true
 | .int _=>true
 | .str _=>true
 | _=>false
def eqV:V→V→Bool
 | .non,.non=>true
 | .bl a,.bl b=>a==b
 | .bl a,.int b=>(if a then 1 else 0)==b
 | .int a,.bl b=>a==(if b then 1 else 0)
 | .int a,.int b=>a==b
 | .str a,.str b=>a==b
 | _,_=>false
theorem rl {A:Around}{s:Shared}{y x:V}{u v:Value}(ry:aW y u)(rx:aW x v)(fy:cX y=true)(fx:cX x=true):SeqAt.EqAt A s u v (eqV y x):=by
 cases y with
 | non =>
   cases ry
   cases x with
   | non=>cases rx;exact SeqAt.EqAt.same _
   | bl b=>cases rx;exact SeqAt.EqAt.none_bool b
   | int b=>obtain⟨t,rfl⟩:=rx;exact SeqAt.EqAt.none_int b t
   | str b=>obtain⟨t,rfl⟩:=rx;exact SeqAt.EqAt.none_str b t
   | _=>exact absurd (show false=true from fx) Bool.false_ne_true
 | bl a =>
   cases ry
   cases x with
   | non=>cases rx;exact SeqAt.EqAt.bool_none a
   | bl b=>cases rx;exact SeqAt.EqAt.bool_bool a b
   | int b=>obtain⟨t,rfl⟩:=rx;exact SeqAt.EqAt.bool_int a b t
   | str b=>obtain⟨t,rfl⟩:=rx;exact SeqAt.EqAt.bool_str a b t
   | _=>exact absurd (show false=true from fx) Bool.false_ne_true
 | int a =>
   obtain⟨t',rfl⟩:=ry
   cases x with
   | non=>cases rx;exact SeqAt.EqAt.int_none a t'
   | bl b=>cases rx;exact SeqAt.EqAt.int_bool a t' b
   | int b=>obtain⟨t,rfl⟩:=rx;exact SeqAt.EqAt.int_int a t' b t
   | str b=>obtain⟨t,rfl⟩:=rx;exact SeqAt.EqAt.int_str a t' b t
   | _=>exact absurd (show false=true from fx) Bool.false_ne_true
 | str a =>
   obtain⟨t',rfl⟩:=ry
   cases x with
   | non=>cases rx;exact SeqAt.EqAt.str_none a t'
   | bl b=>cases rx;exact SeqAt.EqAt.str_bool a t' b
   | int b=>obtain⟨t,rfl⟩:=rx;exact SeqAt.EqAt.str_int a t' b t
   | str b=>obtain⟨t,rfl⟩:=rx;exact SeqAt.EqAt.str_str a t' b t
   | _=>exact absurd (show false=true from fx) Bool.false_ne_true
 | _=>exact absurd (show false=true from fy) Bool.false_ne_true
def eqU (x:V) (u:Value):Bool:=match u with
 | .none=>eqV .non x
 | .bool b=>eqV (.bl b) x
 | .int i _=>eqV (.int i) x
 | .str z _=>eqV (.str z) x
 | _=>false
theorem sr {x y:V}{u:Value}(r:aW y u)(f:cX y=true):eqU x u=eqV y x:=by
 cases y with
 | non=>cases r;rfl
 | bl b=>cases r;rfl
 | int i=>obtain⟨t,rfl⟩:=r;rfl
 | str z=>obtain⟨t,rfl⟩:=r;rfl
 | _=>exact absurd (show false=true from f) Bool.false_ne_true
theorem gE {x:V}:∀ {xs:List V}{us:List Value},Vals xs us→xs.all cX=true→us.any (eqU x)=xs.any fun y=>eqV y x
 | _,_,.nil,_=>rfl
 | y::xs,u::us,.cons r t,f=>by
   rw[List.all_cons,Bool.and_eq_true] at f
   rw[List.any_cons,List.any_cons,sr r f.1,gE t f.2]
theorem e8 {A:Around}{s:Shared}{x:V}{v:Value}(rx:aW x v)(fx:cX x=true):∀ {xs:List V}{us:List Value},Vals xs us→xs.all cX=true→∀ u∈us,SeqAt.EqAt A s u v (eqU x u)
 | _,_,.nil,_=>fun u hu=>by cases hu
 | y::xs,u::us,.cons r t,f=>fun u' hu=>by
   rw[List.all_cons,Bool.and_eq_true] at f
   rcases List.mem_cons.mp hu with rfl | hu
   · rw[sr r f.1];exact rl r rx f.1 fx
   · exact e8 rx fx t f.2 u' hu
def inV (x:V)(xs:List V):Bool:=xs.any fun y=>eqV y x
def rIn (K:PySem.W.Frag)(neg:Bool):R2:=fun x y H Q=>∃ p xs,y=.ref p∧(SqL K H p xs∨SqT K H p xs)∧cX x=true∧xs.all cX=true∧Q (.bl (if neg then !inV x xs else inV x xs)) H
theorem qC:OpR X (compareOp .In) (rIn X.K false):=by
 intro pins s σ H x y v u Q I rx ry h
 obtain⟨p,xs,rfl,hq,fx,fs,q⟩:=h
 cases ry
 rcases hq with hq | hq
 · obtain⟨its,r,pl,hz⟩:=I.list hq
   refine SeqAt.in_listAt (eqU x) pl.isList (fun w hw=>e8 rx fx r fs w (by simpa using hw)) ⟨.bl _,H,I,rfl,?_⟩
   rw[show its.toArray.any (eqU x)=its.any (eqU x) by simp,gE r fs]
   exact q
 · obtain⟨its,r,pl,hz⟩:=I.tuple hq
   refine SeqAt.in_tupleAt (eqU x) pl (fun w hw=>e8 rx fx r fs w (by simpa using hw)) ⟨.bl _,H,I,rfl,?_⟩
   rw[show its.toArray.any (eqU x)=its.any (eqU x) by simp,gE r fs]
   exact q
theorem dD:OpR X (compareOp .NotIn) (rIn X.K true):=by
 intro pins s σ H x y v u Q I rx ry h
 obtain⟨p,xs,rfl,hq,fx,fs,q⟩:=h
 cases ry
 rcases hq with hq | hq
 · obtain⟨its,r,pl,hz⟩:=I.list hq
   refine SeqAt.notIn_listAt (eqU x) pl.isList (fun w hw=>e8 rx fx r fs w (by simpa using hw)) ⟨.bl _,H,I,rfl,?_⟩
   rw[show its.toArray.any (eqU x)=its.any (eqU x) by simp,gE r fs]
   exact q
 · obtain⟨its,r,pl,hz⟩:=I.tuple hq
   refine SeqAt.notIn_tupleAt (eqU x) pl (fun w hw=>e8 rx fx r fs w (by simpa using hw)) ⟨.bl _,H,I,rfl,?_⟩
   rw[show its.toArray.any (eqU x)=its.any (eqU x) by simp,gE r fs]
   exact q
/-! ### len,list(x),tuple(x) of any list or tuple that is read -/
theorem aE:cv X (.builtin "len") (fun xs H Q=>∃ p ys,xs=[.ref p]∧(SqL X.K H p ys∨SqT X.K H p ys)∧Q (.int ys.length) H):=by
 intro pins s σ H xs us Q I r h
 obtain⟨p,ys,rfl,hq,q⟩:=h
 obtain⟨u,rfl,rx⟩:=dW r
 cases rx
 have hn:=ie
 rcases hq with hq | hq
 · obtain⟨its,r',pl,hz⟩:=I.list hq
   have hlen:=r'.length
   exact Calls.call_len_list pl.isList (by simp only[List.size_toArray]<;>omega) ⟨.int ys.length,H,I.tok _,⟨s.toks+1,by rw[List.size_toArray,hlen]⟩,q⟩
 · obtain⟨its,r',pl,hz⟩:=I.tuple hq
   have hlen:=r'.length
   exact len_tuple pl (by simp only[List.size_toArray]<;>omega) ⟨.int ys.length,H,I.tok _,⟨s.toks+1,by rw[List.size_toArray,hlen]⟩,q⟩
theorem gz:cv X (.builtin "len") (fun xs H Q=>∃ z,xs=[.str z]∧z.length≤sizeLine∧Q (.int z.length) H):=by
 intro pins s σ H xs us Q I r h
 obtain⟨z,rfl,hz,q⟩:=h
 obtain⟨u,rfl,t,rfl⟩:=dW r
 have hn:=ie
 exact len_str (by omega) ⟨.int z.length,H,I.tok _,⟨_,rfl⟩,q⟩
theorem cV:cv X (.type "list") (fun xs H Q=>∃ p ys,xs=[.ref p]∧(SqL X.K H p ys∨SqT X.K H p ys)∧∀ l,H l=none→Q (.ref l) (upd H l (.lst ys))):=by
 intro pins s σ H xs us Q I r h
 obtain⟨p,ys,rfl,hq,q⟩:=h
 obtain⟨u,rfl,rx⟩:=dW r
 cases rx
 have fin:∀ (its:List Value),Vals ys its→ys.length≤sizeLine→∀ (h':Heap) (c':Nat),(∀ b o',s.heap.get? b=some o'→h'.get? b=some o') →
     h'.get? s.heap.objs.size=some { cls:=.type "list",dict:=none,data:=.seq its.toArray c',slots:=#[] }→EP X pins σ Q (.ref s.heap.objs.size) { s with heap:=h' }:=fun its r' hz h' c' kp e =>
   ⟨.ref s.heap.objs.size,_,I.laid (t':=s.toks) kp (Nat.le_refl _) (show bF X.prog X.w _ h' _ (.lst ys) from⟨hz,its,c',r',e⟩),rfl,q _ (I.hok.fresh (Nat.le_refl _))⟩
 rcases hq with hq | hq
 · obtain⟨its,r',pl,hz⟩:=I.list hq
   have hlen:=r'.length
   obtain⟨o,ho,hc,n,hd⟩:=pl.isList
   exact call_list_seq p (.inl rfl) ho hc hd (fun h' c' kp e=>fin its r' hz h' c' kp e) (by simp only[List.size_toArray]<;>omega)
 · obtain⟨its,r',pl,hz⟩:=I.tuple hq
   have hlen:=r'.length
   obtain⟨o,ho,hc,n,hd⟩:=pl
   exact call_list_seq p (.inr rfl) ho hc hd (fun h' c' kp e=>fin its r' hz h' c' kp e) (by simp only[List.size_toArray]<;>omega)
theorem jI:cv X (.type "tuple") (fun xs H Q=>∃ p ys,xs=[.ref p]∧((SqL X.K H p ys∧∀ l,H l=none→Q (.ref l) (upd H l (.tup ys)))∨(SqT X.K H p ys∧Q (.ref p) H))):=by
 intro pins s σ H xs us Q I r h
 obtain⟨p,ys,rfl,h⟩:=h
 obtain⟨u,rfl,rx⟩:=dW r
 cases rx
 rcases h with ⟨hq,q⟩ | ⟨hq,q⟩
 · obtain⟨its,r',pl,hz⟩:=I.list hq
   have hlen:=r'.length
   refine call_tuple_list pl.isList (fun h' kp=>?_) (by simp only[List.size_toArray]<;>omega)
   have I1:Inv X pins σ H { s with heap:=h' }:=I.kept (t':=s.toks) kp
   have I2:Inv X pins σ (upd H h'.objs.size (.tup ys)) { s with heap:=h'.push { cls:=.type "tuple",data:=.seq its.toArray } } :=
     I1.laid (t':=s.toks) (fun b o e=>Heap.get?_push_of_some _ e) (Nat.le_refl _) (show bF X.prog X.w _ _ _ (.tup ys) from⟨hz,its,r',IsTup.new _ _⟩)
   exact⟨.ref h'.objs.size,_,I2,rfl,q _ (I1.hok.fresh (Nat.le_refl _))⟩
 · obtain⟨its,r',pl,hz⟩:=I.tuple hq
   exact call_tuple_same pl ⟨.ref p,H,I,rfl,q⟩

/-! ### the call of a builtin's method: o.m(..) -/
def tyV (K:PySem.W.Frag)(T:String) (x:V)(H:Hp):Prop:=match x with
 | .str _=>T="str"
 | .int _=>T="int"
 | .ref p=>(T="list"∧∃ xs,SqL K H p xs)∨(T="tuple"∧∃ o,K.lookup p=some o∧o.cls=.type "tuple"∧o.dict=none) ∨
     (T="dict"∧((∃ kvs,H p=some (.dK kvs))∨∃ kvs,H p=some (.dT kvs)))∨(T="set"∧∃ S n,H p=some (.set S n))
 | _=>False
theorem vC {pins:List (Addr×Obj)}{σ:St}{H:Hp}{s:Shared}{T:String}{x:V}{v:Value}(I:Inv X pins σ H s)(r:aW x v)(ty:tyV X.K T x H) :
   s.TypeIs v T∧∀ a,v=.ref a→∃ ob,s.heap.get? a=some ob∧ob.dict=none:=by
 cases x with
 | str z =>
   obtain⟨t,rfl⟩:=r
   cases (show T="str" from ty)
   exact⟨typeIs_str s z t,fun _ e=>nomatch e⟩
 | int i =>
   obtain⟨t,rfl⟩:=r
   cases (show T="int" from ty)
   exact⟨typeIs_int s i t,fun _ e=>nomatch e⟩
 | ref p =>
   cases r
   rcases ty with ⟨rfl,xs,hq⟩ | ⟨rfl,o,hk,hc,hd⟩ | ⟨rfl,hk⟩ | ⟨rfl,S,n,hk⟩
   · obtain⟨its,_,pl,_⟩:=I.list hq
     refine⟨pl.isList.typeIs,fun a e=>?_⟩
     cases e
     obtain⟨o,n,e,c,hd,_⟩:=pl
     exact⟨o,e,hd⟩
   · refine⟨⟨o,I.kIn p o hk,hc⟩,fun a e=>?_⟩
     cases e
     exact⟨o,I.kIn _ o hk,hd⟩
   · have z:∃ o,s.heap.get? p=some o∧o.ExactDict:=by
       rcases hk with ⟨kvs,hk⟩ | ⟨kvs,hk⟩
       · obtain⟨_,_,_,_,o,_,_,e,ex,_⟩:=I.hok p _ hk
         exact⟨o,e,ex⟩
       · obtain⟨_,_,_,_,o,_,_,e,ex,_⟩:=I.hok p _ hk
         exact⟨o,e,ex⟩
     obtain⟨o,e,ex⟩:=z
     refine⟨⟨o,e,ex.1⟩,fun a e2=>?_⟩
     cases e2
     exact⟨o,e,ex.2.1⟩
   · obtain⟨o,_,_,_,e,ex,_⟩:=I.hok p _ hk
     refine⟨⟨o,e,ex.1⟩,fun a e2=>?_⟩
     cases e2
     exact⟨o,e,ex.2.1⟩
 | _=>exact False.elim ty
def w5 (K:PySem.W.Frag)(T:String)(r:V→List V→Hp→VK→Prop)(to:TE):TE:=fun σ H Q=>to σ H fun x H1=>tyV K T x H1∧r x [] H1 Q
def tBM (K:PySem.W.Frag)(T:String)(r:V→List V→Hp→VK→Prop)(to:TE)(t:TA):TE:=fun σ H Q=>to σ H fun x H1=>tyV K T x H1∧t σ H1 fun xs H2=>r x xs H2 Q
variable {o e:Expr}{es:List Expr}{to:TE}{t:TA}{name:Str}{apos cpos:Pos}{T id:String}{r:V→List V→Hp→VK→Prop}
theorem dm (pa:PlainAttrs T)(slot:Slot T name id)(hty:typeOf (.builtin id)=pure (.type "method_descriptor"))(hm:MtR X id r)(ho:PE X o to)(ha:PA X (e::es) t)
   (hbase:attributeBase o name X.env (eval o X.env)=eval o X.env:=by rfl)
   (hfew:((backTo cpos (starEach (e::es) X.env)).all (fun x=>!x.1)&&(backToKw cpos (keywordEach [] X.env)).all (fun x=>x.1.isSome)
     && decide ((e::es).length+([]:List Keyword).length+(if([]:List Keyword).isEmpty then 0 else 1) < 30))=true:=by rfl)
   (hline:(apos.endLine==cpos.line)=true:=by rfl)(hs:starEach (e::es) X.env=(false,eval e X.env)::starEach es X.env:=by rfl)(hplain:(backTo cpos (starEach es X.env)).any (·.1)=false:=by rfl) :
   PE X (.Call (.Attribute o name apos) (e::es) [] cpos) (tBM X.K T r to t):=by
 intro pins s σ H Q I h
 refine wpAny_Call_method_late hbase hfew hline rfl (thn (ho s σ H _ I h) fun v s1 ⟨x,H1,I1,r1,ty,q1⟩=>?_)
 obtain⟨h1,h2⟩:=vC I1 r1 ty
 refine⟨T,id,pa,slot,hty,h1,h2,?_⟩
 have hA:=ha cpos s1 σ H1 _ I1 q1
 rw[hs] at hA ⊢
 refine Calls.callWith_builtin (by show(false||(backTo cpos (starEach es X.env)).any (·.1))=false;rw[hplain]<;>rfl) (Calls.evalArgs_plain ?_)
 exact thn hA fun us s2 ⟨vs,H2,I2,r2,q2⟩=>hm pins s2 σ H2 x vs v us Q I2 r1 r2 q2
/- xs.append(e),list.index on a module's tuple .. are MtR facts of 06m -/
end
end L2

namespace L2
open PySem PySem.Spec PyProof.Rows

def MtM (X:Cx)(id:String)(r:V→List V→Hp→VK→Prop):Prop :=
 ∀ (pins:List (Addr×Obj))(s:Shared) (σ:St)(H:Hp) (x:V)(xs:List V) (v:Value)(us:List Value)(Q:VK),Inv X pins σ H s→aW x v→Vals xs us→r x xs H Q →
   wpAny (model X.prog X.w) X.A (call (.builtin id) (v::us)) (EP X pins σ Q) X.xe s

/-! ### lists of values -/
theorem Vals.one:∀ {x:V}{us:List Value},Vals [x] us→∃ u,us=[u]∧aW x u
 | _,_,.cons r .nil=>⟨_,rfl,r⟩
theorem Vals.two:∀ {x y:V}{us:List Value},Vals [x,y] us→∃ u v,us=[u,v]∧aW x u∧aW y v
 | _,_,_,.cons r (.cons q .nil)=>⟨_,_,rfl,r,q⟩
theorem Vals.eraseIdx:∀ {xs:List V}{us:List Value} (i:Nat),Vals xs us→Vals (xs.eraseIdx i) (us.eraseIdx i)
 | _,_,_,.nil=>.nil
 | _,_,0,.cons _ t=>t
 | _,_,i+1,.cons r t=>.cons r (Vals.eraseIdx i t)
theorem Vals.rep {xs:List V}{us:List Value}(h:Vals xs us):∀ k:Nat,Vals (List.replicate k xs).flatten (List.replicate k us).flatten
 | 0=>.nil
 | k+1=>by
   rw[List.replicate_succ,List.replicate_succ,List.flatten_cons,List.flatten_cons]
   exact Vals.append h (Vals.rep h k)
theorem kM {α:Type}:∀ (l:List α) (i:Nat),(l.eraseIdx i).length≤l.length
 | [],_=>Nat.le_refl _
 | _::_,0=>Nat.le_succ _
 | _::r,i+1=>Nat.succ_le_succ (kM r i)
theorem jS (its:List Value):∀ (k:Nat)(acc:List Value),
   List.foldl (fun x1 x2=>x1++x2) acc.toArray (List.replicate k its.toArray)=(acc++(List.replicate k its).flatten).toArray
 | 0,acc=>by simp
 | k+1,acc=>by
   have e:acc.toArray++its.toArray=(acc++its).toArray:=by simp
   have e2:(acc++its)++(List.replicate k its).flatten=acc++(List.replicate (k+1) its).flatten:=by
     rw[List.replicate_succ,List.flatten_cons,List.append_assoc]
   rw[←e2,←jS its k (acc++its),←e,List.replicate_succ,List.foldl_cons]

section
variable {X:Cx}{pins:List (Addr×Obj)}{σ:St}{H:Hp}{s:Shared}{l b:Addr}{xs ys zs:List V}

/-! ### the two steps: a tracked list is rewritten,a new list is laid -/
theorem Inv.lset {its its':List Value}{n:Nat}{f:Array Value→Array Value}{t':Nat}(I:Inv X pins σ H s)(hH:H l=some (.lst xs))
   (e:s.heap.get? l=some { cls:=.type "list",data:=.seq its.toArray n })(hf:f its.toArray=its'.toArray)(hv:Vals ys its')(hz:ys.length≤sizeLine) :
   Inv X pins σ (upd H l (.lst ys)) { s with heap:=s.heap.update l (Obj.mapSeq f),toks:=t' }:=by
 have q:=PySem.IsL.update e f
 rw[hf] at q
 refine I.write (x:=l) (e:=l) (by rw[hH];exact trivial) (.inl rfl) (fun b' u hb hu=>(Heap.get?_update_other s.heap (Obj.mapSeq f) (Ne.symm hb)).trans hu) ⟨_,q⟩ ?_
 exact⟨hz,its',_,hv,q⟩
theorem Inv.lnew {its:List Value}{t':Nat}(I:Inv X pins σ H s)(hv:Vals ys its)(hz:ys.length≤sizeLine) :
   Inv X pins σ (upd H s.heap.objs.size (.lst ys)) { s with heap:=s.heap.push { cls:=.type "list",data:=.seq its.toArray },toks:=t' } :=
 I.laid (fun _ _ q=>Heap.get?_push_of_some _ q) (Nat.le_refl _) ⟨hz,its,0,hv,Heap.get?_push_size _ rfl⟩
theorem Inv.fresh (I:Inv X pins σ H s):H s.heap.objs.size=none:=I.hok.fresh (Nat.le_refl _)
theorem Inv.lstM (I:Inv X pins σ H s)(hH:H l=some (.lst xs)):xs.length≤sizeLine∧∃ (its:List Value) (n:Nat),Vals xs its∧xs.length=its.length∧s.heap.get? l=some { cls:=.type "list",data:=.seq its.toArray n }:=by
 obtain⟨z,its,n,r,e⟩:=I.hok l _ hH
 exact⟨z,its,n,r,r.length,e⟩

theorem mk {n:Nat}(h:n≤sizeLine):Builtin.List.listTooLong n=false:=by
 unfold Builtin.List.listTooLong
 exact decide_eq_false (by omega)
end

section
variable {X:Cx}

/-! ### methods -/
def oJ:V→List V→Hp→VK→Prop:=fun x vs H Q=>∃ l xs y,x=.ref l∧vs=[y]∧H l=some (.lst xs)∧xs.length < sizeLine∧Q .non (upd H l (.lst (xs++[y])))
theorem ca:MtM X "list.append" oJ:=by
 intro pins s σ H x vs v us Q I rx rv h
 obtain⟨l,xs,y,rfl,rfl,hH,hz,q⟩:=h
 cases rx
 obtain⟨u,rfl,ru⟩:=rv.one
 obtain⟨z,its,n,r,hl,e⟩:=I.lstM hH
 refine call_meets F.slot_list_append ⟨_,e,rfl⟩ F.entry_list_append (F.args_list_append_2 _ _) (PySem.list_append l its.toArray n u (by rw[List.size_toArray];omega)) ⟨e,?_⟩
 refine⟨.non,_,I.lset (its':=its++[u]) hH e (by simp) (r.append (.cons ru .nil)) ?_,rfl,q⟩
 rw[List.length_append,List.length_singleton]
 omega

def pc:V→List V→Hp→VK→Prop:=fun x vs H Q=>∃ l b xs zs,x=.ref l∧vs=[.ref b]∧H l=some (.lst xs)∧H b=some (.lst zs)∧xs.length+zs.length≤sizeLine∧Q .non (upd H l (.lst (xs++zs)))
theorem vY:MtM X "list.extend" pc:=by
 intro pins s σ H x vs v us Q I rx rv h
 obtain⟨l,b,xs,zs,rfl,rfl,hH,hB,hz,q⟩:=h
 cases rx
 obtain⟨u,rfl,ru⟩:=rv.one
 cases ru
 obtain⟨z,its,n,r,hl,e⟩:=I.lstM hH
 obtain⟨z2,its2,n2,r2,hl2,e2⟩:=I.lstM hB
 have hsz:its.toArray.size+its2.toArray.size≤sizeLine:=by rw[List.size_toArray,List.size_toArray];omega
 have hlong:¬(!its.toArray.isEmpty&&Builtin.List.listTooLong (its.toArray.size+its2.toArray.size))=true:=by
   rw[mk hsz,Bool.and_false]
   exact Bool.false_ne_true
 refine call_meets F.slot_list_extend ⟨_,e,rfl⟩ F.entry_list_extend (F.args_list_extend_2 _ _)
   (AutoSeq1.list_extend_list_list_0 l its.toArray n b its2.toArray n2 hlong (by rw[List.size_toArray];omega) (by omega)) ⟨e,e2,?_⟩
 refine⟨.non,_,I.lset (its':=its++its2) hH e (by simp) (r.append r2) ?_,rfl,q⟩
 rw[List.length_append]
 omega

def su:V→List V→Hp→VK→Prop:=fun x vs H Q=>∃ l xs i k y,x=.ref l∧vs=[.int i]∧H l=some (.lst xs)∧-(2 ^ 63)≤i∧i < 2 ^ 63∧seqIndex? i xs.length=some k∧xs[k]?=some y∧Q y (upd H l (.lst (xs.eraseIdx k)))
theorem rH:MtM X "list.pop" su:=by
 intro pins s σ H x vs v us Q I rx rv h
 obtain⟨l,xs,i,k,y,rfl,rfl,hH,h1,h2,hk,hy,q⟩:=h
 cases rx
 obtain⟨u,rfl,ru⟩:=rv.one
 obtain⟨t,rfl⟩:=ru
 obtain⟨z,its,n,r,hl,e⟩:=I.lstM hH
 obtain⟨w,hw,rw'⟩:=r.get hy
 refine call_meets F.slot_list_pop ⟨_,e,rfl⟩ F.entry_list_pop (F.args_list_pop_2 _ _)
   (MeetsSeq.list_pop_at l its.toArray n i t k w (fitsIndex_both h1 h2) (by rw[List.size_toArray,←hl];exact hk) (by rw[←Array.getElem?_toList];exact hw) (by rw[List.size_toArray];omega)) ⟨e,?_⟩
 refine⟨y,_,I.lset (its':=its.eraseIdx k) hH e ?_ (r.eraseIdx k) ?_,rw',q⟩
 · show its.toArray.eraseIdxIfInBounds k=(its.eraseIdx k).toArray
   rw[List.eraseIdxIfInBounds_toArray]
 · have:=kM xs k
   omega

/-! ### list+list,list += list,list*int -/
def v6:R2:=fun x y H Q=>∃ l b xs zs,x=.ref l∧y=.ref b∧H l=some (.lst xs)∧H b=some (.lst zs)∧xs.length+zs.length≤sizeLine∧∀ p,H p=none→Q (.ref p) (upd H p (.lst (xs++zs)))
theorem la:OpR X (binaryOp .Add) v6:=by
 intro pins s σ H x y v u Q I rx ry h
 obtain⟨l,b,xs,zs,rfl,rfl,hH,hB,hz,q⟩:=h
 cases rx
 cases ry
 obtain⟨z,its,n,r,hl,e⟩:=I.lstM hH
 obtain⟨z2,its2,n2,r2,hl2,e2⟩:=I.lstM hB
 refine PySem.P.add_list e e2 ?_ (by rw[List.size_toArray,List.size_toArray];omega)
 have ea:its.toArray++its2.toArray=(its++its2).toArray:=by simp
 rw[ea]
 exact⟨.ref _,_,I.lnew (t':=s.toks) (r.append r2) (by rw[List.length_append];omega),rfl,q _ I.fresh⟩
def wE:R2:=fun x y H Q=>∃ l k xs,x=.ref l∧y=.int k∧H l=some (.lst xs)∧-(2 ^ 63)≤k∧k < 2 ^ 63∧xs.length*k.toNat≤sizeLine ∧
 ∀ p,H p=none→Q (.ref p) (upd H p (.lst (List.replicate k.toNat xs).flatten))
theorem sW {α:Type}(xs:List α) (k:Nat):(List.replicate k xs).flatten.length=k*xs.length:=by
 induction k with
 | zero=>simp
 | succ k ih=>rw[List.replicate_succ,List.flatten_cons,List.length_append,ih,Nat.succ_mul,Nat.add_comm]
theorem ra:OpR X (binaryOp .Mult) wE:=by
 intro pins s σ H x y v u Q I rx ry h
 obtain⟨l,k,xs,rfl,rfl,hH,h1,h2,hz,q⟩:=h
 cases rx
 obtain⟨t,rfl⟩:=ry
 obtain⟨z,its,n,r,hl,e⟩:=I.lstM hH
 have hlen:its.toArray.size*k.toNat≤sizeLine:=by rw[List.size_toArray,←hl];exact hz
 have hcap:¬its.toArray.size*k.toNat > (2 ^ 63 - 1) / 8:=by
   have:(sizeLine:Nat)≤(2 ^ 63 - 1) / 8:=by decide
   omega
 have hfit:¬(!Builtin.List.listFitsIndex k)=true:=by
   rw[fitsIndex_both h1 h2]
   exact Bool.false_ne_true
 have hlong:¬Builtin.List.listTooLong (its.toArray.size*k.toNat)=true:=by
   rw[mk hlen]
   exact Bool.false_ne_true
 have hnew:List.foldl (fun x1 x2=>x1++x2) #[] (List.replicate (if its.toArray.isEmpty=true then 0 else k.toNat) its.toArray)=(List.replicate k.toNat its).flatten.toArray:=by
   have f0:∀ m:Nat,List.foldl (fun x1 x2=>x1++x2) #[] (List.replicate m its.toArray)=(List.replicate m its).flatten.toArray:=fun m=>by
     have:=jS its m []
     rw[List.nil_append] at this
     exact this
   rw[f0]
   cases its with
   | nil=>simp
   | cons a r'=>rw[if_neg (by simp)]
 refine wpAny_binaryOp_repeat_ref (T:="list") (U:="int") (by decide) ⟨_,e,rfl⟩ (fun s'=>typeIs_int s' k t) noFill_list_mul F.fills_int_mul F.slot_int_rmul repeat_list F.slot_int_index.lookup
   (call_meets F.slot_int_rmul (typeIs_int s k t) F.entry_int_rmul (F.args_int_rmul_2 _ _) (int___rmul___int_list k t l its.toArray n)
     ⟨e,rfl,⟨_,e,rfl⟩,call_meets F.slot_list_mul ⟨_,e,rfl⟩ F.entry_list_mul (F.args_list_mul_2 _ _) (AutoListH.list___mul___list_int_3 l its.toArray n k t hfit hcap hlong) ⟨e,?_⟩⟩)
 rw[hnew]
 exact⟨.ref _,_,I.lnew (t':=s.toks) (r.rep k.toNat) (by rw[sW,Nat.mul_comm];exact hz),rfl,q _ I.fresh⟩

/-! ### del xs[i] -/
end

/-! ### xs[a:b]=ys -/
section
variable {prog:Program}{w:World}{A:Around}{E:Value→Shared→Prop}{s:Shared}
set_option maxRecDepth 100000 in
end

section
variable {X:Cx}
end
end L2

namespace L2
open PySem PySem.Spec PyProof.Rows

/-! ### lists of pairs as tables -/
section
variable {κ:Type} [DecidableEq κ]
def b7 (kvs:List (κ×V))(k:κ):Option V:=(kvs.find? fun kv=>decide (kv.1=k)).map (·.2)
def eV (kvs:List (κ×V))(k:κ) (v:V):List (κ×V) :=
 if(kvs.any fun kv=>decide (kv.1=k))=true then kvs.map (fun kv=>if kv.1=k then(kv.1,v) else kv) else kvs++[(k,v)]
theorem dq {p:κ×V}{r:List (κ×V)}{k:κ}(e:p.1=k):b7 (p::r) k=some p.2:=by simp[b7,List.find?_cons,e]
theorem cQ {p:κ×V}{r:List (κ×V)}{k:κ}(e:¬p.1=k):b7 (p::r) k=b7 r k:=by simp[b7,List.find?_cons,e]
theorem iX (k:κ):∀ kvs:List (κ×V),(kvs.any fun kv=>decide (kv.1=k))=(b7 kvs k).isSome
 | []=>rfl
 | p::r=>by
   rw[List.any_cons]
   by_cases e:p.1=k
   · simp only[dq e,decide_eq_true e,Bool.true_or,Option.isSome_some]
   · rw[cQ e,decide_eq_false e,Bool.false_or];exact iX k r
theorem ku (k j:κ) (y:V):∀ kvs:List (κ×V),b7 kvs k=none→b7 (kvs++[(k,y)]) j=if j=k then some y else b7 kvs j
 | [],_=>by
   by_cases e:k=j
   · rw[if_pos e.symm];exact dq (p:=(k,y)) e
   · rw[if_neg (fun z=>e z.symm)];exact cQ (p:=(k,y)) e
 | p::r,hn=>by
   rw[List.cons_append]
   have hk:¬p.1=k:=fun z=>by rw[dq z] at hn;cases hn
   rw[cQ hk] at hn
   have ih:=ku k j y r hn
   by_cases e:p.1=j
   · rw[dq e,dq e,if_neg (fun z=>hk (e.trans z))]
   · rw[cQ e,cQ e,ih]
theorem e6 (kvs:List (κ×V))(k:κ) (v:V):(eV kvs k v).length≤kvs.length+1:=by
 unfold eV
 split
 · rw[List.length_map];omega
 · rw[List.length_append,List.length_cons,List.length_nil];omega
theorem ej {kvs:List (κ×V)}{k:κ} (v:V)(h:b7 kvs k=none):eV kvs k v=kvs++[(k,v)]:=by
 unfold eV
 rw[iX,h]
 exact if_neg (by decide)

theorem fX.isSome_eq {o:Option V}{u:Option Value}(r:fX o u):o.isSome=u.isSome:=by
 cases o with
 | none=>cases u with
   | none=>rfl
   | some _=>exact(show False from r).elim
 | some _=>cases u with
   | none=>exact(show False from r).elim
   | some _=>rfl
theorem KV.val {kvs:List (κ×V)}{vs:List (κ×Value)}(r:KV kvs vs)(k:κ):fX (b7 kvs k) (valueAt vs k):=by
 unfold KV at r
 induction r with
 | nil=>exact True.intro
 | @cons p q ps qs h t ih =>
   obtain⟨h1,h2⟩:=h
   by_cases e:p.1=k
   · have e':q.1=k:=h1.symm.trans e
     have b:valueAt (q::qs) k=some q.2:=by simp[valueAt,List.find?_cons,e']
     rw[dq e,b];exact h2
   · have e':¬q.1=k:=fun z=>e (h1.trans z)
     have b:valueAt (q::qs) k=valueAt qs k:=by simp[valueAt,List.find?_cons,e']
     rw[cQ e,b];exact ih
theorem KV.any {kvs:List (κ×V)}{vs:List (κ×Value)}(r:KV kvs vs)(k:κ):(kvs.any fun kv=>decide (kv.1=k))=vs.any fun kv=>decide (kv.1=k):=by
 unfold KV at r
 induction r with
 | nil=>rfl
 | cons h t ih=>rw[List.any_cons,List.any_cons,ih,h.1]
theorem KV.repl {kvs:List (κ×V)}{vs:List (κ×Value)}(r:KV kvs vs)(k:κ){y:V}{u:Value}(ry:aW y u) :
   KV (kvs.map fun kv=>if kv.1=k then(kv.1,y) else kv) (vs.map fun kv=>if kv.1=k then(kv.1,u) else kv):=by
 unfold KV at r ⊢
 induction r with
 | nil=>exact .nil
 | @cons p q ps qs h t ih =>
   rw[List.map_cons,List.map_cons]
   refine .cons ?_ ih
   obtain⟨h1,h2⟩:=h
   by_cases e:p.1=k
   · rw[if_pos e,if_pos (h1.symm.trans e)];exact⟨h1,ry⟩
   · rw[if_neg e,if_neg (fun z=>e (h1.trans z))];exact⟨h1,h2⟩
theorem KV.put {kvs:List (κ×V)}{vs:List (κ×Value)}(r:KV kvs vs)(k:κ){y:V}{u:Value}(ry:aW y u):KV (eV kvs k y) (stored vs k u):=by
 unfold eV stored
 rw[r.any k]
 by_cases e:(vs.any fun kv=>decide (kv.1=k))=true
 · rw[if_pos e,if_pos e];exact r.repl k ry
 · rw[if_neg e,if_neg e];exact Paired.snoc r ⟨rfl,ry⟩
theorem KV.keys {kvs:List (κ×V)}{vs:List (κ×Value)}(r:KV kvs vs):kvs.map (·.1)=vs.map (·.1):=by
 unfold KV at r
 induction r with
 | nil=>rfl
 | cons h t ih=>rw[List.map_cons,List.map_cons,ih,h.1]
theorem KV.length {kvs:List (κ×V)}{vs:List (κ×Value)}(r:KV kvs vs):kvs.length=vs.length:=Paired.length r
end

/-! ### a tracked dict,its keys ints and texts or tuples of these -/
theorem kJ {P:Program}{w:World}{k:Key}{u:Value}(r:aW (kV k) u):(bE P w).is k u=true:=by
 cases k with
 | inl i=>obtain⟨t,e⟩:=(show ∃ t,u=Value.int i t from r);subst e;exact mj P w i t
 | inr x=>obtain⟨t,e⟩:=(show ∃ t,u=Value.str x t from r);subst e;exact iu P w x t
theorem kH {P:Program}{w:World}:∀ {ks:List Key}{us:List Value},Vals (ks.map kV) us→ItemsAre (bE P w) ks us
 | [],_,r=>by rw[List.map_nil] at r;cases r;exact .nil
 | k::ks,_,r=>by
   rw[List.map_cons] at r
   cases r with
   | cons h t=>exact .cons (kJ h) (kH t)

abbrev KT (H:Hp):List (List Key×V)→List (List Key×Addr×Value)→Prop:=Paired fun p q=>p.1=q.1∧H q.2.1=some (.tup (p.1.map kV))∧aW p.2 q.2.2
theorem KT.val {H:Hp}{kvs:List (List Key×V)}{xs:List (List Key×Addr×Value)}(r:KT H kvs xs)(k:List Key):fX (b7 kvs k) ((atKey xs k).map (·.2)):=by
 induction r with
 | nil=>exact True.intro
 | @cons p q ps qs h t ih =>
   obtain⟨h1,_,h2⟩:=h
   by_cases e:p.1=k
   · have e':q.1=k:=h1.symm.trans e
     have b:atKey (q::qs) k=some q.2:=by simp[atKey,List.find?_cons,e']
     rw[dq e,b];exact h2
   · have e':¬q.1=k:=fun z=>e (h1.trans z)
     have b:atKey (q::qs) k=atKey qs k:=by simp[atKey,List.find?_cons,e']
     rw[cQ e,b];exact ih
theorem KT.repl {H:Hp}{kvs:List (List Key×V)}{xs:List (List Key×Addr×Value)}(r:KT H kvs xs)(k:List Key){y:V}{u:Value}(ry:aW y u) :
   KT H (kvs.map fun kv=>if kv.1=k then(kv.1,y) else kv) (xs.map (putAt k u)):=by
 induction r with
 | nil=>exact .nil
 | @cons p q ps qs h t ih =>
   rw[List.map_cons,List.map_cons]
   refine .cons ?_ ih
   obtain⟨h1,h2,h3⟩:=h
   unfold putAt
   by_cases e:p.1=k
   · rw[if_pos e,if_pos (h1.symm.trans e)];exact⟨h1,h2,ry⟩
   · rw[if_neg e,if_neg (fun z=>e (h1.trans z))];exact⟨h1,h2,h3⟩
theorem KT.put {H:Hp}{kvs:List (List Key×V)}{xs:List (List Key×Addr×Value)}(r:KT H kvs xs)(k:List Key){b:Addr}{y:V}{u:Value}(hb:H b=some (.tup (k.map kV)))(ry:aW y u) :
   KT H (eV kvs k y) (storedH xs k b u):=by
 have e:(kvs.any fun kv=>decide (kv.1=k))=(atKey xs k).isSome:=by
   rw[iX,(r.val k).isSome_eq,Option.isSome_map]
 unfold eV storedH
 rw[e]
 by_cases q:(atKey xs k).isSome=true
 · rw[if_pos q,if_pos q];exact r.repl k ry
 · rw[if_neg q,if_neg q];exact Paired.snoc r ⟨rfl,hb,ry⟩
theorem KT.keeps {H H':Hp}{kvs:List (List Key×V)}{xs:List (List Key×Addr×Value)}(r:KT H kvs xs)(ht:∀ b ys,H b=some (.tup ys)→H' b=some (.tup ys)):KT H' kvs xs :=
 Paired.mapP r fun _ _ z=>⟨z.1,ht _ _ z.2.1,z.2.2⟩

section
variable {P:Program}{w:World}{H:Hp}{h:Heap}{a:Addr}
theorem uZ {u:HO}(ok:HOk P w H h)(e:Rd H a u):bF P w H h a u:=e.ok ok
theorem jD {kvs:List (Key×V)}(ok:HOk P w H h)(e:Rd H a (.dK kvs)):kvs.length≤sizeLine∧(a==sysModules)=false∧∃ vs,KV kvs vs∧h.DictOf (bE P w) a vs :=
 show bF P w H h a (.dK kvs) from uZ ok e
theorem uW {kvs:List (Key×V)}(ok:HOk P w H h)(e:H a=some (.dK kvs)):kvs.length≤sizeLine∧(a==sysModules)=false∧∃ vs,KV kvs vs∧h.DictOf (bE P w) a vs:=jD ok (.inl e)
theorem jz {ks:List Key}(ok:HOk P w H h)(e:H a=some (.tup (ks.map kV))):(tupleKind (bE P w)).is h ks a:=by
 obtain⟨_,its,r,o,h1,h2,n,h3⟩:=(show bF P w H h a (.tup (ks.map kV)) from ok a _ e)
 exact⟨o,its.toArray,n,h1,h2,h3,by simpa using kH r⟩
theorem mr {kvs:List (List Key×V)}(ok:HOk P w H h)(e:Rd H a (.dT kvs)):kvs.length≤sizeLine∧(a==sysModules)=false ∧
   ∃ xs,KT H kvs xs∧h.DictOfH (tupleKind (bE P w)) a xs:=by
 obtain⟨z,y,xs,r,o,es,ep,h1,h2,h3,h4,h5⟩:=(show bF P w H h a (.dT kvs) from uZ ok e)
 refine⟨z,y,xs,r,o,es,ep,h1,h2,h3,h4,fun x hx=>?_,h5⟩
 have all:∀ {l:List (List Key×V)}{m:List (List Key×Addr×Value)},KT H l m→∀ x∈m,(tupleKind (bE P w)).is h x.1 x.2.1:=by
   intro l m q
   induction q with
   | nil=>intro x hx;exact nomatch hx
   | @cons p q ps qs hq t ih =>
     intro x hx
     rcases List.mem_cons.mp hx with e | hx
     · subst e
       exact jz ok (by rw[←hq.1];exact hq.2.1)
     · exact ih x hx
 exact all r x hx
theorem wB {kvs:List (List Key×V)}(ok:HOk P w H h)(e:H a=some (.dT kvs)):kvs.length≤sizeLine∧(a==sysModules)=false ∧
 ∃ xs,KT H kvs xs∧h.DictOfH (tupleKind (bE P w)) a xs:=mr ok (.inl e)
end

def e5 (H:Hp)(a:Addr) (y:V)(r:Option V):Prop :=
 (∃ kvs k,Rd H a (.dK kvs)∧y=kV k∧r=b7 kvs k)∨∃ kvs k b,Rd H a (.dT kvs)∧y=.ref b∧H b=some (.tup (k.map kV))∧r=b7 kvs k
def sy (H:Hp)(a:Addr) (y v:V)(H':Hp):Prop :=
 (∃ kvs k,H a=some (.dK kvs)∧y=kV k∧kvs.length < sizeLine∧H'=upd H a (.dK (eV kvs k v))) ∨
 ∃ kvs k b,H a=some (.dT kvs)∧y=.ref b∧H b=some (.tup (k.map kV))∧kvs.length < sizeLine∧H'=upd H a (.dT (eV kvs k v))
theorem e5.k {H:Hp}{a:Addr}{kvs:List (Key×V)}{k:Key}(e:H a=some (.dK kvs)):e5 H a (kV k) (b7 kvs k):=.inl ⟨kvs,k,.inl e,rfl,rfl⟩
theorem sy.k {H:Hp}{a:Addr}{kvs:List (Key×V)}{k:Key}{v:V}(e:H a=some (.dK kvs))(hl:kvs.length < sizeLine):sy H a (kV k) v (upd H a (.dK (eV kvs k v))):=.inl ⟨kvs,k,e,rfl,hl,rfl⟩
section
variable {X:Cx}{pins:List (Addr×Obj)}{σ:St}{H:Hp}{s:Shared}{a:Addr}{y v:V}{u r:Value}{o:Option V}{A:Around}{E:Value→Shared→Prop}

theorem Inv.big (I:Inv X pins σ H s):sysModules < s.heap.objs.size:=by
 have h:mainGlobals < s.heap.objs.size:=(I.mod.glob.keeps I.bk).lt
 exact Nat.lt_trans (by decide) h

theorem qu {Q:Value→Shared→Prop}(hu:A.units+1 < cLine)(I:Inv X pins σ H s)(g:e5 H a y (some v))(ry:aW y u)(h:∀ w' s',Inv X pins σ H s'→aW v w'→Q w' s') :
   wpAny (model X.prog X.w) A (getItem (.ref a) u) Q E s:=by
 rcases g with ⟨kvs,k,e,ey,l⟩ | ⟨kvs,k,b,e,ey,eb,l⟩
 · subst ey
   obtain⟨z,hd,vs,rel,dd⟩:=jD I.hok e
   obtain⟨w',hw,rw'⟩:=fX.some_of (v:=v) (o:=valueAt vs k) (by rw[l];exact rel.val k)
   exact wpAny_getItem_of (kJ ry) dd.mapOf hw (h w' _ (I.tok _) rw')
 · subst ey
   cases (show u=Value.ref b from ry)
   obtain⟨z,hd,xs,rel,dd⟩:=mr I.hok e
   obtain⟨w',hw,rw'⟩:=fX.some_of (v:=v) (o:=(atKey xs k).map (·.2)) (by rw[l];exact rel.val k)
   obtain⟨p,hp,hp2⟩:=Option.map_eq_some_iff.mp hw
   refine wpAny_getItem_heap (tupleKind_room_in1 hu) (jz I.hok eb) dd hp ?_
   rw[hp2]
   exact h w' _ (I.tok _) rw'
theorem xb {Q:Value→Shared→Prop}(hu:A.units+1 < cLine)(I:Inv X pins σ H s)(g:e5 H a y o)(ry:aW y u)(h:∀ s',Inv X pins σ H s'→Q (.bool o.isSome) s') :
   wpAny (model X.prog X.w) A (compareOp .In u (.ref a)) Q E s:=by
 rcases g with ⟨kvs,k,e,ey,l⟩ | ⟨kvs,k,b,e,ey,eb,l⟩
 · subst ey
   obtain⟨z,hd,vs,rel,dd⟩:=jD I.hok e
   refine wpAny_in_of (kJ ry) hd dd.mapOf ?_
   rw[←(rel.val k).isSome_eq,←l]
   exact h _ (I.tok _)
 · subst ey
   cases (show u=Value.ref b from ry)
   obtain⟨z,hd,xs,rel,dd⟩:=mr I.hok e
   refine wpAny_in_heap (tupleKind_room_in1 hu) (jz I.hok eb) hd dd ?_
   have q:=(rel.val k).isSome_eq
   rw[Option.isSome_map] at q
   rw[←q,←l]
   exact h _ (I.tok _)
theorem uh {Q:Value→Shared→Prop}(hu:A.units+1 < cLine)(I:Inv X pins σ H s)(g:e5 H a y o)(ry:aW y u)(h:∀ s',Inv X pins σ H s'→Q (.bool (!o.isSome)) s') :
   wpAny (model X.prog X.w) A (compareOp .NotIn u (.ref a)) Q E s:=by
 rcases g with ⟨kvs,k,e,ey,l⟩ | ⟨kvs,k,b,e,ey,eb,l⟩
 · subst ey
   obtain⟨z,hd,vs,rel,dd⟩:=jD I.hok e
   refine wpAny_notIn_of (kJ ry) hd dd.mapOf ?_
   rw[←(rel.val k).isSome_eq,←l]
   exact h _ (I.tok _)
 · subst ey
   cases (show u=Value.ref b from ry)
   obtain⟨z,hd,xs,rel,dd⟩:=mr I.hok e
   refine wpAny_notIn_heap (tupleKind_room_in1 hu) (jz I.hok eb) hd dd ?_
   have q:=(rel.val k).isSome_eq
   rw[Option.isSome_map] at q
   rw[←q,←l]
   exact h _ (I.tok _)
theorem lT {h':Heap}{t':Nat}{ob:HO}(I:Inv X pins σ H s)(mu:Mut (H a))(hs:Heap.SameBut a s.heap h')(he:∃ q,h'.get? a=some q)(new:bF X.prog X.w (upd H a ob) h' a ob) :
   Inv X pins σ (upd H a ob) { s with heap:=h',toks:=t' } :=
 I.write (x:=a) (e:=a) mu (.inl rfl) (fun b q hb z=>(hs.2 b hb).trans z) he new
theorem nH {P:Program}{w:World}{H':Hp}{h':Heap}{kvs:List (Key×V)}{vs:List (Key×Value)}(z:kvs.length≤sizeLine)(hd:(a==sysModules)=false)(rel:KV kvs vs)(dd:h'.DictOf (bE P w) a vs) :
 bF P w H' h' a (.dK kvs):=⟨z,hd,vs,rel,dd⟩
theorem qB {H':Hp}{Q:Unit→Shared→Prop}(hu:A.units+1 < cLine)(I:Inv X pins σ H s)(g:sy H a y v H')(ry:aW y u)(rv:aW v r)(h:∀ s',Inv X pins σ H' s'→Q () s') :
   wpAny (model X.prog X.w) A (setItem (.ref a) u r) Q E s:=by
 rcases g with ⟨kvs,k,e,ey,l,eH⟩ | ⟨kvs,k,b,e,ey,eb,l,eH⟩
 · subst ey eH
   obtain⟨z,hd,vs,rel,dd⟩:=uW I.hok e
   have hz:vs.length≤sizeLine:=by rw[←rel.length];exact z
   have hl:(eV kvs k v).length≤sizeLine:=by have:=e6 kvs k v;omega
   refine wpAny_setItem_pairs (hsz:=hz) (kJ ry) dd fun h' dd' hs=>h _ ?_
   have he:∃ q,h'.get? a=some q:=let ⟨q,_,_,hq,_⟩:=dd';⟨q,hq⟩
   exact lT I (by rw[e];exact True.intro) hs he (nH hl hd (rel.put k rv) dd')
 · subst ey eH
   cases (show u=Value.ref b from ry)
   obtain⟨z,hd,xs,rel,dd⟩:=wB I.hok e
   have hz:xs.length≤sizeLine:=by rw[←Paired.length rel];exact z
   have hl:(eV kvs k v).length≤sizeLine:=by have:=e6 kvs k v;omega
   refine wpAny_setItem_heap (hsz:=hz) (tupleKind_room_in1 hu) (jz I.hok eb) dd fun h' dd' hs=>h _ ?_
   obtain⟨q,es,ep,hq,h2,h3,h4,_,h5⟩:=dd'
   refine lT I (by rw[e];exact True.intro) hs ⟨q,hq⟩ ⟨hl,hd,_,(rel.put k eb rv).keeps fun c ys ec=>?_,q,es,ep,hq,h2,h3,h4,h5⟩
   rw[ai (wH ec e (fun z=>nomatch z))]
   exact ec
end

section
variable {X:Cx}{pins:List (Addr×Obj)}{σ:St}{H:Hp}{s:Shared}{a:Addr}{kvs:List (Key×V)}{k:Key}{u:Value}{A:Around}{E:Value→Shared→Prop}
theorem wJ {Q:Value→Shared→Prop}(I:Inv X pins σ H s)(e:Rd H a (.dK kvs))(h:∀ t s',Inv X pins σ H s'→Q (.int kvs.length t) s'):wpAny (model X.prog X.w) A (call (.builtin "len") [.ref a]) Q E s:=by
 obtain⟨z,hd,vs,rel,dd⟩:=jD I.hok e
 refine call_len_dict hd dd (by rw[←rel.length];rw[sizeLine_eq] at z;omega) ?_
 rw[←rel.length]
 exact h _ _ (I.tok _)
end

/-! ### readings and rules -/
def wF (i:Expr):Prop:=∀ ov iv,subscripted i false ov iv=operate [ov,iv] (getItem ov iv)
theorem tU {prog:Program}{w:World}{A:Around}{E:Value→Shared→Prop}{s:Shared}{env:Env}{value slice:Expr}{pos:Pos}{T id:String}{Q:Value→Shared→Prop}
   (hl:typeLookup (.type T) "__getitem__"=pure (some (.builtin id)))(hs:wF slice)
   (h:wpAny (model prog w) A (eval value env) (fun o s₁=>wpAny (model prog w) A (eval slice env) (fun i s₂=>s₂.TypeIs o T∧wpAny (model prog w) A (getItem o i) Q E s₂) E s₁) E s) :
   wpAny (model prog w) A (eval (.Subscript value slice pos) env) Q E s:=by
 refine Subscript_ (wpAny_mono h (fun o s₁ h₁=>wpAny_mono h₁ (fun i s₂ h₂=>?_) fun _ _ x=>x) fun _ _ x=>x)
 obtain⟨hT,h₂⟩:=h₂
 unfold subscriptTail
 refine wpAny_bind ?_
 rw[getitemInPython_of_ne hT.not_modules]
 refine wpAny_bind (wpAny_specialOf hT hl ?_)
 have fin:wpAny (model prog w) A (subscripted slice false o i) (fun r s₃=>wpAny (model prog w) A (letTemporaryGo value o r >>= fun _=>pure r) Q E s₃) E s₂:=by
   rw[hs o i]
   exact wpAny_operating (wpAny_mono h₂ (fun r s₃ h₃=>wpAny_bind (wpAny_letTemporaryGo (wpAny_pure h₃))) fun _ _ x=>x)
 first
   | exact wpAny_pure (wpAny_bind fin)
   | exact wpAny_bind (wpAny_pure (wpAny_bind fin))
   | exact wpAny_bind fin

theorem l8 {X:Cx}{pins:List (Addr×Obj)}{σ:St}{H:Hp}{s:Shared}{a:Addr}{y:V}{o:Option V}(I:Inv X pins σ H s)(g:e5 H a y o):s.TypeIs (.ref a) "dict":=by
 rcases g with ⟨kvs,k,e,_,_⟩ | ⟨kvs,k,b,e,_,_,_⟩
 · obtain⟨_,_,vs,_,dd⟩:=jD I.hok e
   exact dd.typeIs
 · obtain⟨_,_,xs,_,dd⟩:=mr I.hok e
   exact dd.typeIs
def uF (td ty:TE):TE:=fun σ H Q=>td σ H fun x H1=>ty σ H1 fun y H2=>∃ a v,x=.ref a∧e5 H2 a y (some v)∧Q v H2
def wu (ty td:TE):TE:=fun σ H Q=>ty σ H fun y H1=>td σ H1 fun x H2=>∃ a o,x=.ref a∧e5 H2 a y o∧Q (.bl o.isSome) H2
def oC (ty td:TE):TE:=fun σ H Q=>ty σ H fun y H1=>td σ H1 fun x H2=>∃ a o,x=.ref a∧e5 H2 a y o∧Q (.bl (!o.isSome)) H2
def uz (td ty tv:TE):TS:=fun D σ H=>tv σ H fun v H1=>td σ H1 fun x H2=>ty σ H2 fun y H3=>∃ a H4,x=.ref a∧sy H3 a y v H4∧D.nx σ H4
section
variable {X:Cx}{o i e value:Expr}{pos pos' tpos:Pos}{td ty tv:TE}
theorem cp (hu:X.A.units+1 < cLine)(ho:PE X o td)(hi:PE X i ty)(hs:wF i):PE X (.Subscript o i pos) (uF td ty):=by
 intro pins s σ H Q I h
 refine tU PySem.F.slot_dict_getitem.lookup hs (thn (ho s σ H _ I h) fun u s1 ⟨x,H1,I1,rx,q1⟩=>thn (hi s1 σ H1 _ I1 q1) fun iv s2 ⟨y,H2,I2,ry,a,v,ex,g,q2⟩=>?_)
 subst ex
 obtain rfl:u=Value.ref a:=rx
 exact⟨l8 I2 g,qu hu I2 g ry fun w' s3 I3 rw'=>⟨v,H2,I3,rw',q2⟩⟩
theorem qK (hu:X.A.units+1 < cLine)(hi:PE X i ty)(ho:PE X o td):PC X .In i o (wu ty td):=by
 intro pins s σ H Q I h
 refine thn (hi s σ H _ I h) fun iv s1 ⟨y,H1,I1,ry,q1⟩=>thn (ho s1 σ H1 _ I1 q1) fun u s2 ⟨x,H2,I2,rx,a,ov,ex,g,q2⟩=>?_
 subst ex
 obtain rfl:u=Value.ref a:=rx
 exact xb hu I2 g ry fun s3 I3=>⟨.bl ov.isSome,H2,I3,rfl,q2⟩
theorem fq (hu:X.A.units+1 < cLine)(hi:PE X i ty)(ho:PE X o td):PC X .NotIn i o (oC ty td):=by
 intro pins s σ H Q I h
 refine thn (hi s σ H _ I h) fun iv s1 ⟨y,H1,I1,ry,q1⟩=>thn (ho s1 σ H1 _ I1 q1) fun u s2 ⟨x,H2,I2,rx,a,ov,ex,g,q2⟩=>?_
 subst ex
 obtain rfl:u=Value.ref a:=rx
 exact uh hu I2 g ry fun s3 I3=>⟨.bl (!ov.isSome),H2,I3,rfl,q2⟩
theorem gw (hu:X.A.units+1 < cLine)(ho:PE X o td)(hi:PE X i ty)(hv:PE X value tv)(hs:swapsWith value (some (.Subscript o i pos')) pos.line X.env=pure false) :
   PS X (.Assign [.Subscript o i pos'] value pos) (uz td ty tv):=by
 intro pins s σ H D I h
 refine wpAny_Assign_Subscript (thn (hv s σ H _ I h) fun r s1 ⟨v,H1,I1,rv,q1⟩=>thn (ho s1 σ H1 _ I1 q1) fun u s2 ⟨x,H2,I2,rx,q2⟩=>thn (hi s2 σ H2 _ I2 q2) fun iv s3 ⟨y,H3,I3,ry,a,H4,ex,g,q3⟩=>?_) hs
 subst ex
 obtain rfl:u=Value.ref a:=rx
 exact qB hu I3 g ry rv fun s4 I4=>⟨σ,H4,I4,q3⟩
end

/-! ### displays -/
theorem m8 {P:Program}{w:World}{H:Hp}(h:Heap)(hb:sysModules < h.objs.size):bF P w H (h.push { cls:=.type "dict",data:=.dict #[] }) h.objs.size (.dK []) :=
 ⟨Nat.zero_le _,beq_eq_false_iff_ne.mpr (Ne.symm (Nat.ne_of_lt hb)),[],.nil,Heap.DictOf.new h⟩
def si:TE:=fun _ H Q=>∀ p,H p=none→Q (.ref p) (upd H p (.dK []))
def vA:TE:=fun _ H Q=>∀ p,H p=none→Q (.ref p) (upd H p (.dT []))
section
variable {X:Cx}{pos:Pos}
theorem fb:PE X (.Dict [] [] pos) si:=fun pins s σ H Q I h =>
 wpAny_Dict_empty ⟨.ref s.heap.objs.size,_,I.laid (a:=s.heap.objs.size) (o:=.dK []) (t':=s.toks) (fun _ _ q=>Heap.get?_push_of_some _ q) (Nat.le_refl _) (m8 s.heap I.big),rfl,h _ (I.hok.fresh (Nat.le_refl _))⟩
end

def lK:List (TE×TE)→St→Hp→(List (V×V)→Hp→Prop)→Prop
 | [],_,H,Q=>Q [] H
 | (tk,tv)::r,σ,H,Q=>tk σ H fun x H1=>tv σ H1 fun y H2=>lK r σ H2 fun ps H3=>Q ((x,y)::ps) H3
abbrev VV:List (V×V)→List (Value×Value)→Prop:=Paired fun p q=>aW p.1 q.1∧aW p.2 q.2
def PPs (X:Cx)(pos:Pos)(keys:List (Option Expr))(values:List Expr)(trs:List (TE×TE)):Prop :=
 ∀ (pins:List (Addr×Obj))(s:Shared) (σ:St)(H:Hp)(Q:List (V×V)→Hp→Prop),Inv X pins σ H s→lK trs σ H Q →
   wpAny (model X.prog X.w) X.A (evalPairs (pairTrees keys values X.env pos)) (fun vs s'=>∃ ps H',Inv X pins σ H' s'∧VV ps vs∧Q ps H') X.xe s
theorem sU {X:Cx}{pos:Pos}:PPs X pos [] [] []:=fun pins s σ H Q I h=>pairTrees_nil_walk ⟨[],H,I,.nil,h⟩
theorem qY {X:Cx}{pos:Pos}{k v:Expr}{ks:List (Option Expr)}{vs:List Expr}{tk tv:TE}{trs:List (TE×TE)}(hk:PE X k tk)(hv:PE X v tv)(hr:PPs X pos ks vs trs) :
   PPs X pos (some k::ks) (v::vs) ((tk,tv)::trs):=fun pins s σ H Q I h =>
 pairTrees_cons_walk (thn (hk s σ H _ I h) fun u s1 ⟨x,H1,I1,rx,q1⟩=>thn (hv s1 σ H1 _ I1 q1) fun w2 s2 ⟨y,H2,I2,ry,q2⟩ =>
   thn (hr pins s2 σ H2 _ I2 q2) fun ws s3 ⟨ps,H3,I3,rel,q3⟩=>⟨(x,y)::ps,H3,I3,.cons ⟨rx,ry⟩ rel,q3⟩)

def cE (kvs more:List (Key×V)):List (Key×V):=more.foldl (fun acc kv=>eV acc kv.1 kv.2) kvs
theorem KV.merge:∀ {more:List (Key×V)}{rs:List (Key×Value)}{kvs:List (Key×V)}{vs:List (Key×Value)},KV more rs→KV kvs vs→KV (cE kvs more) (merged vs rs):=by
 intro more rs kvs vs r
 unfold KV at r
 induction r generalizing kvs vs with
 | nil=>intro q;exact q
 | @cons p q ps qs h t ih =>
   intro r0
   have e:KV (eV kvs p.1 p.2) (stored vs q.1 q.2):=by
     have:=r0.put p.1 h.2
     rw[←h.1];exact this
   exact ih e
theorem d9:∀ (more kvs:List (Key×V)),(cE kvs more).length≤kvs.length+more.length
 | [],kvs=>by show kvs.length≤kvs.length+0;omega
 | p::r,kvs=>by
   have h1:=d9 r (eV kvs p.1 p.2)
   have h2:=e6 kvs p.1 p.2
   show(cE (eV kvs p.1 p.2) r).length≤_
   rw[List.length_cons];omega
theorem jC {P:Program}{w:World}:∀ {kvs:List (Key×V)}{ws:List (Value×Value)},VV (kvs.map fun kv=>(kV kv.1,kv.2)) ws→∃ rs,Carries (bE P w) ws rs∧KV kvs rs
 | [],_,r=>by rw[List.map_nil] at r;cases r;exact⟨[],True.intro,.nil⟩
 | p::kvs,_,r=>by
   rw[List.map_cons] at r
   cases r with
   | @cons a b as bs h t =>
     obtain⟨rs,c,q⟩:=jC (P:=P) (w:=w) t
     obtain⟨b1,b2⟩:=b
     exact⟨(p.1,b2)::rs,⟨kJ h.1,rfl,c⟩,.cons ⟨rfl,h.2⟩ q⟩
def uD (trs:List (TE×TE)):TE:=fun σ H Q=>∀ p,H p=none→lK trs σ (upd H p (.dK [])) fun ps H2=>H2 p=some (.dK [])∧∃ kvs:List (Key×V),ps=kvs.map (fun kv=>(kV kv.1,kv.2))∧kvs.length≤15∧Q (.ref p) (upd H2 p (.dK (cE [] kvs)))
theorem sT {X:Cx}{pos:Pos}{keys:List (Option Expr)}{values:List Expr}{trs:List (TE×TE)}(h:PPs X pos keys values trs)(hall:keys.all (·.isSome)=true)(hl:keys.length=values.length)(h0:keys≠[])
   (h15:keys.length≤15):PE X (.Dict keys values pos) (uD trs):=by
 intro pins s σ H Q I q
 have hn:=I.hok.fresh (Nat.le_refl s.heap.objs.size)
 have I1:=I.laid (a:=s.heap.objs.size) (o:=.dK []) (h':=s.heap.push { cls:=.type "dict",data:=.dict #[] }) (t':=s.toks) (fun _ _ q=>Heap.get?_push_of_some _ q) (Nat.le_refl _) (m8 s.heap I.big)
 refine wpAny_Dict_walk (knd:=bE X.prog X.w) hall hl h0 h15 (thn (h pins _ σ _ _ I1 (q _ hn)) fun ws s2 ⟨ps,H2,I2,rel,e,kvs,ep,lk,q2⟩=>?_)
 subst ep
 obtain⟨rs,c,rk⟩:=jC (P:=X.prog) (w:=X.w) rel
 obtain⟨z,hd,vs0,r0,dd⟩:=uW I2.hok e
 cases r0
 refine⟨rs,c,dd,fun h' dd' hs=>⟨.ref s.heap.objs.size,_,?_,rfl,q2⟩⟩
 have hz:(cE [] kvs).length≤sizeLine:=by
   have h1:=d9 kvs []
   rw[List.length_nil] at h1
   rw[sizeLine_eq];omega
 have he:∃ q,h'.get? s.heap.objs.size=some q:=let ⟨q,_,_,hq,_⟩:=dd';⟨q,hq⟩
 exact lT I2 (by rw[e];exact True.intro) hs he (nH hz hd (rk.merge .nil) dd')

/-! ### methods -/
section
variable {X:Cx}{pins:List (Addr×Obj)}{σ:St}{H:Hp}{s:Shared}{a:Addr}{y d:V}{u r:Value}{o:Option V}{A:Around}{E:Value→Shared→Prop}
end

section
variable {X:Cx}{o e f:Expr}{apos cpos:Pos}{td ty tx:TE}
end

/-! ### dict(d): a copy -/
section
variable {X:Cx}{pins:List (Addr×Obj)}{σ:St}{H:Hp}{s:Shared}{a:Addr}{kvs:List (Key×V)}{A:Around}{E:Value→Shared→Prop}
end

section
variable {X:Cx}{pins:List (Addr×Obj)}{σ:St}{H:Hp}{s:Shared}{a:Addr}{y:V}{u:Value}{A:Around}{E:Value→Shared→Prop}
end
end L2

namespace Att
open PySem PySem.W PySem.Calls PyProof.Rows

/-! ### the script -/
theorem iz {P:Params}{h:Heap}:∀ (ns:List Int)(vs:List Value),WellAll P h vs (ns.map WData.int)→IntsAre vs ns:=by
 intro ns
 induction ns with
 | nil =>
   intro vs w
   rw[List.map_nil] at w
   cases w
   exact .nil
 | cons n ns ih =>
   intro vs w
   rw[List.map_cons] at w
   cases w with
   | cons a b =>
     cases a
     exact .cons _ _ (ih _ b)

theorem pH {l:OpenLaw}{n:Nat}(hn:l.most=some n){P:Params}{h:Heap}{args:List WData}{vals:List Value}
   (hpre:l.row.toRowW.claim.pre args=true)(hwl:WellAll P h vals args) :
   ∃ a vs ns,vals=[Value.ref a]∧args=[WData.list (ns.map WData.int)]∧h.get? a=some { cls:=.type "list",data:=.seq vs.toArray }∧IntsAre vs ns∧ns.length≤n:=by
 have hsh:WShape.hasAll [] args [.list .int]=true:=(pre_splitW hpre).1
 have hc:l.pre.holds [] { args:=args }=true:=(pre_splitW hpre).2
 obtain⟨d,r,rfl,h1,h2⟩:=hasAllW_cons hsh
 obtain rfl:=hasAllW_nil h2
 obtain⟨xs,rfl,h3⟩:=hasW_list h1
 obtain⟨ns,rfl⟩:=items_int h3
 have hlen:ns.length≤n:=by
   unfold OpenLaw.pre at hc
   have h4:(WTm.not (.lt (.lit (.int (n:Int))) (.len (.arg 0)))).holds [] { args:=[.list (ns.map .int)] }=true:=by
     have h4:=(holds_andW hc).1
     rw[hn] at h4
     exact h4
   have h5:=condW_of h4 (w_not (w_lt w_lit (w_len_list (w_arg rfl))))
   rw[List.length_map] at h5
   refine Nat.le_of_not_lt fun q=>?_
   have q':(n:Int) < ((ns.length:Nat):Int):=by omega
   first
     | (rw[decide_eq_true q'] at h5;exact absurd h5 (by decide))
     | (simp at h5;omega)
 cases hwl with
 | cons w1 w2 =>
   cases w2
   cases w1 with
   | list ho hall=>exact⟨_,_,ns,rfl,rfl,ho,iz ns _ hall,hlen⟩

theorem p9 (l:OpenLaw)(args:List WData):l.row.toRowW.claim.post args (.bool true) args=true :=
 postW_of (r:=l.row.toRowW) (X:=(true==true))
   (show WShape.has [] (.bool true) .bool=true by first | rfl | decide | simp[WShape.has,WShape.arms,WShape.armsAll])
   (show(WTm.eq .res (.lit (.bool true))).value [] { args:=args,res:=some (.bool true),after:=args }=some (.bool (true==true)) from w_eq_bool (w_res rfl) w_lit) rfl

/-! ### the attachment: holds_open's last premise (the goal 'hc' behind k_head) from a wpAny of the law's body -/
theorem attach_call {l:OpenLaw}{n:Nat}{q:Program}{loose:List Str}{XP:(Str→Option Value)→Heap→Prop}{YP:World→Heap→Prop}{d:DefRec}
   (hn:l.most=some n)(hdf:d.params.defaults=[])
   (call:∀ (w:World)(s₀ s₁:Shared)(mg mb:Str→Option Value)(fa:Addr)(o:Obj) (pm cd doc:Value)(a:Addr)(vs:List Value)(ns:List Int),
     Ground q loose [] XP w s₀ mg mb s₁.heap→YP w s₁.heap →
     s₁.heap.get? fa=some o→o.data=.func (docDef d.name d.params d.body d.scope pm cd doc)→s₁.heap.CodeRec cd d.name→mg d.name=some (.ref fa) →
     s₁.heap.get? a=some { cls:=.type "list",data:=.seq vs.toArray }→IntsAre vs ns→ns.length≤n→s₁.gens=#[] →
     codeAny (model l.prog w) callerA (.call (.ref fa) ⟨[.ref a],[]⟩) (fun r s'=>r=.ok (.ret (.bool true))∧OldK s₁.heap s'.heap∧s'.os=s₁.os∧AllBare s'.gens) s₁) :
   WalkO q loose XP YP l.row.toRowW d [] (fun f vs=>PySem.call f vs):=by
 intro w s₀ s₁ mg mb G Y fa o pm cd doc dV kV ho hd hcd hD hmg hg args vals as hpre hlay hrd hwl hlo
 obtain rfl:dV=.none:=Dflts.none hD hdf
 obtain rfl:kV=.none:=Dflts.noKw hD
 obtain⟨a,vs,ns,rfl,rfl,hobj,hints,hlen⟩:=pH hn hpre hwl
 refine enter_call (codeAny_mono (call w s₀ s₁ mg mb fa o pm cd doc a vs ns G Y ho (fd_plain hd) hcd hmg hobj hints hlen hg) fun r s' hq=>?_)
 obtain⟨rfl,h2,h3,h4⟩:=hq
 exact⟨.inl ⟨.bool true,.bool true,[],rfl,fun _=>rfl,.bool true,p9 l _,fun _=>⟨List.Pairwise.nil,fun _ hm=>(nomatch hm)⟩⟩,h2,h3,h4⟩

/-! ### rules over ANY heap (no ledger) from facts about the written part K: the library's own take a ledger (News) for what they write -/
section
variable {prog:Program}{w:World}{A:Around}{E:Value→Shared→Prop}{s:Shared}{K:Frag}

/-! the whole heap as the ledger: makes every rule that writes through a ledger a rule over any heap -/
def ledger (h:Heap)(L d:Addr):List (Addr×Obj):=(List.range h.objs.size).filterMap fun a=>if a=L∨a=d then none else(h.get? a).map fun o=>(a,o)
end
end Att

namespace L2
open PySem PySem.Spec PyProof.Rows

theorem kq:∀ {vs:List Value}{ns:List Int},IntsAre vs ns→Vals (ns.map V.int) vs
 | _,_,.nil=>.nil
 | _,_,.cons n t h=>.cons ⟨t,rfl⟩ (kq h)

def u9 (H:Hp):Prop:=∀ b,H b=none∨∃ o xs,H b=some (.frz o (.lst xs))

theorem sJ {P:Program}{w:World}{K:PySem.W.Frag}{mg mb:Str→Option Value}{CX:CXT}{k:Nat}{fa a:Addr}{fd:FuncData}{x:Str}{sp:Sp}{s₁:Shared}{vs:List Value}{ns:List Int}
   (KX:K.In s₁.heap)(hns:s₁.heap.Ns mainGlobals mg)(hb:s₁.heap.Ns builtinsNs mb)(hbb:∀ x:Str,x≠"__name__"→mb x=bootBuiltins x)(hlim:s₁.heap.NoLimit)(hg:s₁.gens=#[])
   (ha:s₁.heap.get? a=some { cls:=.type "list",data:=.seq vs.toArray })(hi:IntsAre vs ns)(hl:ns.length≤sizeLine)(hr:dt k callerA)
   (F:∀ base:Heap,K.In base→base.Ns mainGlobals mg→ao P w K mg base CX k fa fd [x] sp)(hbind:∀ (s:Shared) (u:Value),BindsTo s fd ⟨[u],[]⟩ [(x,u)])
   (hsp:∀ H:Hp,u9 H→SqL K H a (ns.map V.int)→sp [.ref a] H (fun v _=>v=.bl true) fun _ _ _=>False)
   (hCX:∀ H e s',CX [] H s₁ (fun _ _ _=>False) e s'→False) :
   codeAny (model P w) callerA (.call (.ref fa) ⟨[.ref a],[]⟩) (fun r s'=>r=.ok (.ret (.bool true))∧OldK s₁.heap s'.heap∧s'.os=s₁.os∧AllBare s'.gens) s₁:=by
 have rv:=kq hi
 have lenV:=hi.length
 have core:∀ H:Hp,u9 H→SqL K H a (ns.map V.int)→HOk P w H s₁.heap→(∀ b,H b≠none→b=a)→(H a≠none→K.lookup a=none) →
     codeAny (model P w) callerA (.call (.ref fa) ⟨[.ref a],[]⟩) (fun r s'=>r=.ok (.ret (.bool true))∧OldK s₁.heap s'.heap∧s'.os=s₁.os∧AllBare s'.gens) s₁:=by
   intro H hO hS hok hA hK
   have base_of:∀ {b:Addr}{o:Obj},s₁.heap.get? b=some o→H b=none→(li s₁.heap H).get? b=some o:=fun e n=>rZ e n
   have noA:∀ {b:Addr}{o:Obj}{es:Array DictEntry}{ep:Nat},s₁.heap.get? b=some o→o.data=.dict es ep→H b=none:=fun {b o es ep} e d=>by
     cases q:H b with
     | none=>rfl
     | some u =>
       have e':b=a:=hA b (by rw[q];simp)
       subst e'
       rw[ha] at e;cases e
       have d':Data.seq vs.toArray _=Data.dict es ep:=d
       cases d'
   have nsK:∀ {b:Addr}{m:Str→Option Value},s₁.heap.Ns b m→(li s₁.heap H).Ns b m:=fun {b m} ⟨o,es,ep,e,d,r⟩=>⟨o,es,ep,base_of e (noA e d),d,r⟩
   have hKb:K.In (li s₁.heap H):=fun b o e=>base_of (KX b o e) (by
     cases q:H b with
     | none=>rfl
     | some u =>
       have e':b=a:=hA b (by rw[q];simp)
       subst e'
       rw[hK (by rw[q];simp)] at e;cases e)
   have hM:Mod K mg (li s₁.heap H):=⟨hKb,nsK hns,⟨mb,nsK hb,hbb⟩,let ⟨mc,h1,h2⟩:=hlim;⟨mc,nsK h1,h2⟩⟩
   have e0:nz P w K mg (li s₁.heap H) callerA [] s₁ H:=⟨rfl,hM,fun b o e=>tK e,Nat.le_of_eq (pJ _ _),trivial,fun b hb=>absurd (show b∈([]:List Addr) from hb) (by simp),hok,.of_eq hg⟩
   refine codeAny_mono ((F _ hKb (nsK hns)).run callerA [] s₁ H ⟨[.ref a],[]⟩ [.ref a] [.ref a] _ _ hr e0 (hbind s₁ (.ref a)) (.cons rfl .nil) (hsp H hO hS)) fun r s' h=>?_
   cases r with
   | error e=>exact(hCX H e s' h).elim
   | ok fl =>
     cases fl with
     | next=>exact False.elim h
     | brk=>exact False.elim h
     | cont=>exact False.elim h
     | ret u =>
       obtain⟨v,H',os,bare,un,hok',r',q⟩:=h
       have q':v=.bl true:=q
       subst q'
       obtain rfl:u=Value.bool true:=r'
       refine⟨rfl,OldK.of_keep fun b o e=>?_,os,bare⟩
       cases q:H b with
       | none=>exact un.keep b o e q (by intro z;exact absurd (show b∈([]:List Addr) from z) (by simp)) (by simp)
       | some u =>
         rcases hO b with z | ⟨ob,xs,z⟩
         · rw[q] at z;cases z
         · have z2:=un.frzs b ob _ z
           obtain⟨e1,_⟩:=hok b _ z
           obtain⟨e2,_⟩:=hok' b _ z2
           rw[e] at e1;cases e1
           exact e2
 cases hk:K.lookup a with
 | some o =>
   have e:=KX a o hk
   rw[ha] at e
   cases e
   refine core (fun _=>none) (fun _=>.inl rfl) (.inr ⟨_,vs.toArray,_,hk,rfl,rfl,rfl,by rw[List.size_toArray,lenV];exact hl,by simpa using rv⟩) (fun b u z=>by have z':(none:Option HO)=some u:=z;cases z') (fun b z=>absurd rfl z) fun z=>absurd rfl z
 | none =>
   refine core (fun b=>if b=a then some (.frz { cls:=.type "list",data:=.seq vs.toArray } (.lst (ns.map V.int))) else none) (fun b=>?_) (.inl (.inr ⟨{ cls:=.type "list",data:=.seq vs.toArray },if_pos rfl⟩)) (fun b u z=>?_) (fun b z=>?_) fun _=>hk
   · by_cases hb:b=a
     · exact .inr ⟨_,_,if_pos hb⟩
     · exact .inl (if_neg hb)
   · by_cases hb:b=a
     · have z':=(if_pos hb).symm.trans z
       cases z'
       subst hb
       exact⟨ha,by rw[List.length_map];exact hl,vs,_,rv,ha⟩
     · have z':=(if_neg hb).symm.trans z
       cases z'
   · by_cases hb:b=a
     · exact hb
     · exact absurd (if_neg hb) z
end L2

namespace L2
open PySem PySem.Spec PyProof.Rows

theorem walk_of {l:PySem.W.OpenLaw}{n k:Nat}{q:Program}{loose:List Str}{XP:(Str→Option Value)→Heap→Prop}{YP:World→Heap→Prop}{d:DefRec}{K:Params→PySem.W.Frag}{CX:World→CXT}{sp:World→Sp}{x:Str}
   (hn:l.most=some n)(hn2:n≤sizeLine)(hdf:d.params.defaults=[])(hr:dt k callerA)
   (hY:∀ (w:World)(h:Heap),YP w h→(K w.params).In h)
   (F:∀ (w:World)(mg:Str→Option Value)(fa:Addr)(h:Heap),(K w.params).In h→h.Ns mainGlobals mg→mg d.name=some (.ref fa) →
     ∃ fd:FuncData,(∀ (s:Shared) (u:Value),BindsTo s fd ⟨[u],[]⟩ [(x,u)]) ∧
       ∀ base:Heap,(K w.params).In base→base.Ns mainGlobals mg→ao l.prog w (K w.params) mg base (CX w) k fa fd [x] (sp w))
   (hsp:∀ (w:World)(H:Hp)(a:Addr)(ns:List Int),ns.length≤n→u9 H→SqL (K w.params) H a (ns.map V.int)→sp w [.ref a] H (fun v _=>v=.bl true) fun _ _ _=>False)
   (hCX:∀ (w:World)(H:Hp)(s:Shared) (e:Value)(s':Shared),CX w [] H s (fun _ _ _=>False) e s'→False) :
   PySem.W.WalkO q loose XP YP l.row.toRowW d [] (fun f vs=>PySem.call f vs):=by
 refine Att.attach_call hn hdf fun w s₀ s₁ mg mb fa o pm cd doc a vs ns G Y ho hd hcd hmg hobj hints hlen hg=>?_
 have KX:=hY w _ Y
 obtain⟨fd,hb,hF⟩:=F w mg fa _ KX G.T.g hmg
 exact sJ KX G.T.g G.T.b G.T.builtins G.T.nolimit hg hobj hints (Nat.le_trans hlen hn2) hr hF hb (fun H hO hS=>hsp w H a ns hlen hO hS) fun H e s'=>hCX w H s₁ e s'
end L2

/- THE LAST THEOREM (shape;LID,My.* are yours):
 My.Adr: a structure of the addresses that your layer names (classes,functions);My.Txt K t: a structure (Prop) of the equations over K;
 My.txt_mk:{K} {implicit addresses ..}(e1:nsIn K mainGlobals "law"=some (some (.ref f)))(e2:K.lookup f=some ⟨oc,od,.func (fnOf "law" "law" params body scope dV kV doc pm an cdv ct),sl⟩)(e3:codeIn K cdv "law"=true) ..:∃ t,My.Txt K t

set_option maxRecDepth 100000 in
set_option maxHeartbeats 0 in
(the tactic k_is has no namespace: write k_is) -/

/-! SHORT WORDS over the layer: a def of the text,its body,what a loop and a test want. -/
namespace L2
open PySem PySem.Spec PyProof.Rows

/-! ### the text by places -/
def b9 (s:Stmt) (j:Nat):Stmt:=match s with
 | .ClassDef _ _ _ body _ _ _ _ _ _ _=>body.getD j (.Pass ⟨0,0,0,0⟩)
 | _=>.Pass ⟨0,0,0,0⟩
def aq (s:Stmt):Arguments:=match s with
 | .FunctionDef _ a _ _ _ _ _ _ _ _=>a
 | _=>{ posonlyargs:=[],args:=[],vararg:=none,kwonlyargs:=[],kw_defaults:=[],kwarg:=none,defaults:=[] }
def am (s:Stmt):List Stmt:=match s with
 | .FunctionDef _ _ b _ _ _ _ _ _ _=>b
 | _=>[]
def ae (s:Stmt):Scope:=match s with
 | .FunctionDef _ _ _ _ _ _ sc _ _ _=>sc
 | _=>{ kind:=.function,names:=[],isGenerator:=false,isCoroutine:=false }

/-! ### no exception leaves a def -/
abbrev CX0:CXT:=fun _ _ _ _ _ _=>False
abbrev E0:XK:=fun _ _ _=>False
theorem aJ {X:Cx}:eU CX0 X E0:=fun _ _ _ _ _ _ _ h=>h.elim

/-! ### a def (or method) of the text as it stands behind the top -/
structure Fun (K:PySem.W.Frag) (x qual:Str)(st:Stmt)(f:Addr)(fd:FuncData):Prop where
 ex:∃ (oc:Value)(od:Option Addr) (kV doc pm:Value)(an:Option Addr) (cdv ct:Value)(osl:Array (Option Value)),
   fd=PySem.W.fnOf x qual (aq st) (am st) (ae st) .none kV doc pm an cdv ct∧K.lookup f=some ⟨oc,od,.func fd,osl⟩∧PySem.W.codeIn K cdv qual=true
 kp:PySem.W.keepIn K (.ref f)=true
section
variable {P:Program}{w:World}{K:PySem.W.Frag}{mg:Str→Option Value}{base:Heap}
theorem Fun.ok {x qual:Str}{st:Stmt}{f:Addr}{fd:FuncData}{N ps:List Str}{k:Nat}{sp:Sp}(F:Fun K x qual st f fd)(S:ap N ps (ae st))(len:∀ vs H Q E,sp vs H Q E→vs.length=ps.length)
   (hbody:∀ (cdv:Value)(A:Around)(outer:List Env)(s:Shared)(H:Hp)(vs:List V)(Q:VK)(E:XK),dt k (A.deeper (envOfC qual (ae st) s.heap.objs.size f cdv))→sp vs H Q E →
     ∃ t,PSs (cu CX0 P w K mg base N qual (ae st) f cdv A outer s H E).nox (am st) t∧t { nx:=fun _ H'=>Q .non H',rt:=Q } (start N vs) H):ao P w K mg base CX0 (k+1) f fd ps sp:=by
 obtain⟨oc,od,kV,doc,pm,an,cdv,ct,osl,rfl,lk,hcd⟩:=F.ex
 refine uS lk hcd S len fun A outer s H vs Q E hr hsp=>?_
 obtain⟨t,h,q⟩:=hbody cdv A outer s H vs Q E hr hsp
 exact⟨t,h.nox,q⟩
theorem Fun.binds {x qual:Str}{st:Stmt}{f:Addr}{fd:FuncData}{ps:List Str}(F:Fun K x qual st f fd)
   (h:∀ (kV doc pm:Value)(an:Option Addr) (cdv ct:Value)(us:List Value),us.length=ps.length→bindArgs (PySem.W.fnOf x qual (aq st) (am st) (ae st) .none kV doc pm an cdv ct) ⟨us,[]⟩=pure (ps.zip us)):ay K fd ps []:=by
 obtain⟨oc,od,kV,doc,pm,an,cdv,ct,osl,rfl,lk,hcd⟩:=F.ex
 exact .all (h kV doc pm an cdv ct)
theorem aH {x qual:Str}{st:Stmt}{f:Addr}{oc:Value}{od an:Option Addr}{osl:Array (Option Value)}{kV doc pm cdv ct:Value}(l:K.lookup f=some ⟨oc,od,.func (PySem.W.fnOf x qual (aq st) (am st) (ae st) .none kV doc pm an cdv ct),osl⟩)
 (c:PySem.W.codeIn K cdv qual=true)(k:PySem.W.keepIn K (.ref f)=true):Fun K x qual st f (PySem.W.fnOf x qual (aq st) (am st) (ae st) .none kV doc pm an cdv ct):=⟨⟨oc,od,kV,doc,pm,an,cdv,ct,osl,rfl,l,c⟩,k⟩
end
/-! ### expressions in short: the name that stands in the i-th slot -/
section
variable {X:Cx}
theorem pv (i:Nat){x:Str}{pos:Pos}(hN:X.N[i]?=some x:=by rfl)(hv:Vis X.env.scope x:=by first | exact Or.inl rfl | exact Or.inr (Or.inl rfl) | exact Or.inr (Or.inr rfl))(hd:(x==("__debug__":Str))=false:=by decide)
 (hcd:(x==("__classdict__":Str))=false:=by decide):PE X (.Name x pos) (pG i):=vz hN hv hd hcd
theorem pQ:cv X (.builtin "len") (fun xs H Q=>∃ a kvs,xs=[V.ref a]∧H a=some (.dK kvs)∧Q (.int kvs.length) H):=by
 intro pins s σ H xs us Q I r h
 obtain⟨a,kvs,rfl,ha,q⟩:=h
 obtain⟨u,rfl,ru⟩:=dW r
 cases ru
 exact wJ I (.inl ha) fun t s' I'=>⟨.int kvs.length,H,I',⟨t,rfl⟩,q⟩
end

/-! ### tests -/
theorem bn {c A B:Prop} [Decidable c](h1:c→A)(h2:¬c→B):if c then A else B:=by
 by_cases h:c
 · rw[if_pos h]
   exact h1 h
 · rw[if_neg h]
   exact h2 h
/-! ### heaps -/
def af (H H':Hp):Prop:=∀ b o,H b=some o→H' b=some o
theorem af.refl (H:Hp):af H H:=fun _ _ h=>h
theorem af.trans {H H1 H2:Hp}(a:af H H1)(b:af H1 H2):af H H2:=fun c o h=>b c o (a c o h)
theorem af.free {H H':Hp}(e:af H H'){l:Addr}(h:H' l=Option.none):H l=Option.none:=by
 cases q:H l with
 | none=>rfl
 | some o =>
   rw[e l o q] at h
   cases h
theorem af.seq {K:PySem.W.Frag}{H H':Hp}{a:Addr}{xs:List V}(e:af H H')(h:SqL K H a xs):SqL K H' a xs:=by
 rcases h with (h | ⟨o,h⟩) | h
 · exact .inl (.inl (e _ _ h))
 · exact .inl (.inr ⟨o,e _ _ h⟩)
 · exact .inr h

/-! ### a dict's pairs: keys that differ -/
section
variable {κ:Type} [DecidableEq κ]
theorem lJ:∀ {l:List κ}{k:κ},l.Nodup→¬k∈l→(l++[k]).Nodup
 | [],k,_,_=>by simp
 | a::r,k,h,hk=>by
   obtain⟨h1,h2⟩:=List.nodup_cons.mp h
   show(a::(r++[k])).Nodup
   refine List.nodup_cons.mpr ⟨fun m=>?_,lJ h2 fun m=>hk (List.mem_cons.mpr (Or.inr m))⟩
   rcases List.mem_append.mp m with q | q
   · exact h1 q
   · exact hk (List.mem_cons.mpr (Or.inl (List.mem_singleton.mp q).symm))
end
end L2

set_option Elab.async false
set_option linter.all false
set_option maxRecDepth 100000
set_option maxHeartbeats 4000000
namespace L2
open PySem PySem.Spec PyProof.Rows

/-! ### list comprehensions of one clause without a test -/
def iy (cells:List (Str×Addr)):List (Str×NameKind)→List (Str×Addr)→List (Str×Addr)
 | [],acc=>acc
 | (n,k)::r,acc=>iy cells r (if(k==.free)=true then(n,(cells.lookup n).getD 0)::acc else acc)
def ix (scope:Scope)(env:Env):List (Str×Addr):=iy env.cells scope.names []
theorem gc {env:Env}:∀ (names:List (Str×NameKind))(acc:List (Str×Addr)),(∀ y∈names,y.2=.free→∃ c,env.cells.lookup y.1=some c) →
   (forIn names acc (fun(x:Str×NameKind)(r:List (Str×Addr))=>if(x.2==.free)=true then(do let c ←cellOf env x.1;pure (ForInStep.yield ((x.1,c)::r))) else pure (ForInStep.yield r)):Sem (List (Str×Addr)))=pure (iy env.cells names acc)
 | [],acc,_=>by simp[iy]
 | (n,k)::r,acc,h=>by
   have hr:∀ y∈r,y.2=.free→∃ c,env.cells.lookup y.1=some c:=fun y hy=>h y (List.mem_cons_of_mem _ hy)
   by_cases hk:(k==NameKind.free)=true
   · obtain⟨c,hc⟩:=h (n,k) List.mem_cons_self (by simpa using hk)
     have e:cellOf env n=pure c:=by unfold cellOf;rw[show env.cells.lookup n=some c from hc]
     simp only[List.forIn_cons,hk,if_true,e,pure_bind,iy,hc,Option.getD_some]
     exact gc r _ hr
   · simp only[List.forIn_cons,hk,Bool.false_eq_true,if_false,pure_bind,iy]
     exact gc r _ hr
theorem gi {env:Env}{scope:Scope}(h:∀ y∈scope.names,y.2=.free→∃ c,env.cells.lookup y.1=some c):closureFor scope env=pure (ix scope env):=by
 unfold closureFor ix
 have:=gc scope.names [] h
 simpa using this
end L2

set_option Elab.async false
set_option linter.all false
set_option maxRecDepth 100000
set_option maxHeartbeats 4000000
namespace L2
open PySem PySem.Spec PyProof.Rows

theorem i9 {cells:List (Str×Addr)}{n:Str}{c:Addr}:∀ (names:List (Str×NameKind))(acc:List (Str×Addr)),(n,c)∈iy cells names acc→(n,c)∈acc∨((n,NameKind.free)∈names∧c=(cells.lookup n).getD 0)
 | [],acc,h=>.inl h
 | (y,k)::r,acc,h=>by
   have h':(n,c)∈iy cells r (if(k==.free)=true then(y,(cells.lookup y).getD 0)::acc else acc):=h
   rcases i9 r _ h' with q | ⟨q1,q2⟩
   · by_cases hk:(k==NameKind.free)=true
     · rw[if_pos hk] at q
       rcases List.mem_cons.mp q with e | q
       · injection e with e1 e2
         subst e1
         have hk':k=.free:=by simpa using hk
         subst hk'
         exact .inr ⟨List.mem_cons_self,e2⟩
       · exact .inl q
     · rw[if_neg hk] at q
       exact .inl q
   · exact .inr ⟨List.mem_cons_of_mem _ q1,q2⟩
theorem kE {cells:List (Str×Addr)}{p:Str×Addr}:∀ (names:List (Str×NameKind))(acc:List (Str×Addr)),p∈acc→p∈iy cells names acc
 | [],acc,h=>h
 | (y,k)::r,acc,h=>by
   show p∈iy cells r (if(k==.free)=true then(y,(cells.lookup y).getD 0)::acc else acc)
   refine kE r _ ?_
   split
   · exact List.mem_cons_of_mem _ h
   · exact h
theorem mF {cells:List (Str×Addr)}{n:Str}:∀ (names:List (Str×NameKind))(acc:List (Str×Addr)),(n,NameKind.free)∈names→(n,(cells.lookup n).getD 0)∈iy cells names acc
 | (y,k)::r,acc,h=>by
   show _∈iy cells r (if(k==.free)=true then(y,(cells.lookup y).getD 0)::acc else acc)
   rcases List.mem_cons.mp h with e | h
   · injection e with e1 e2
     subst e1 e2
     exact kE r _ (by rw[if_pos (by rfl)];exact List.mem_cons_self)
   · exact mF r _ h
theorem d6 {n:Str}{c:Addr}:∀ {l:List (Str×Addr)},(n,c)∈l→(∀ d,(n,d)∈l→d=c)→l.lookup n=some c
 | (y,d)::r,h,ha=>by
   by_cases e:n=y
   · subst e
     have hd:d=c:=ha d List.mem_cons_self
     simp[List.lookup_cons,hd]
   · have e':(n==y)=false:=by simpa using e
     rw[List.lookup_cons,e']
     refine d6 ?_ fun d hd=>ha d (List.mem_cons_of_mem _ hd)
     rcases List.mem_cons.mp h with z | z
     · injection z with z1 _
       exact absurd z1 e
     · exact z
theorem ik {env:Env}{scope:Scope}{n:Str}{c:Addr}(h:(n,NameKind.free)∈scope.names)(hc:env.cells.lookup n=some c):(ix scope env).lookup n=some c:=by
 unfold ix
 have h1:=mF (cells:=env.cells) scope.names [] h
 rw[hc] at h1
 refine d6 h1 fun d hd=>?_
 rcases i9 _ _ hd with q | ⟨_,q⟩
 · cases q
 · rw[hc] at q;exact q
theorem tf {env:Env}{scope:Scope}{n:Str}{c:Addr}(hf:∀ y∈scope.names,y.2=.free→∃ c,env.cells.lookup y.1=some c)(h:(ix scope env).lookup n=some c):(n,NameKind.free)∈scope.names∧env.cells.lookup n=some c:=by
 have hm:=PySem.mem_of_lookup h
 unfold ix at hm
 rcases i9 _ _ hm with q | ⟨q1,q2⟩
 · cases q
 · obtain⟨d,hd⟩:=hf _ q1 rfl
   have hd:env.cells.lookup n=some d:=hd
   rw[hd] at q2
   have e:c=d:=q2
   subst e
   exact⟨q1,hd⟩

def cxB (X:Cx)(N:List Str)(scope:Scope)(s:Shared)(H:Hp)(ex:List Addr):Cx where
 prog:=X.prog
 w:=X.w
 K:=X.K
 mg:=X.mg
 base:=X.base
 A:=X.A
 N:=N
 s₀:=s
 H₀:=H
 env:=compEnvC scope (ix scope X.env) s.heap.objs.size X.env
 outer:=X.stack
 stack:=X.stack
 ex:=ex
 calm:=X.calm
 fn:=fun _=>false
 pn:=[]
 xe:=fun _ _=>False

def f9 (pk:List (Option Nat)) (σ:St):St:=pk.map fun o=>o.bind fun j=>(σ[j]?).bind id

structure cg (N:List Str)(env:Env)(scope:Scope)(N':List Str)(pk:List (Option Nat)):Prop where
 kind:scope.kind=.function
 nocell:∀ y∈scope.names,y.2≠.cell
 names:∀ y∈scope.names,y.2=.local→scope.names.lookup y.1=some .local
 free:∀ y∈scope.names,y.2=.free→(env.scope.names.lookup y.1=some .cell∨env.scope.names.lookup y.1=some .free)
 len:pk.length=N'.length
 cap:∀ (i:Nat) (x:Str),N'[i]?=some x→∀ (j:Nat),pk[i]?=some (some j)→N[j]?=some x∧scope.names.lookup x=some .free

theorem hV {env:Env}{x:Str}{k:NameKind}:∀ {names:List (Str×NameKind)},(names.map fun(n,k)=>if(k==NameKind.free&&env.scope.kind==.function&&env.kindOf n==some .cell) then(n,NameKind.cell) else(n,k)).lookup x=some k→k=.cell∨k=.free →
   (∀ y∈names,y.2≠.cell)→(x,NameKind.free)∈names
 | [],h,_,_=>by simp at h
 | (n,k')::r,h,hk,hc=>by
   have hc':∀ y∈r,y.2≠.cell:=fun y hy=>hc y (List.mem_cons_of_mem _ hy)
   have h':List.lookup x ((if(k'==NameKind.free&&env.scope.kind==.function&&env.kindOf n==some .cell)=true then(n,NameKind.cell) else(n,k'))::(r.map fun(n,k)=>if(k==NameKind.free&&env.scope.kind==.function&&env.kindOf n==some .cell) then(n,NameKind.cell) else(n,k)))=some k:=h
   by_cases e:x=n
   · subst e
     by_cases hq:(k'==NameKind.free&&env.scope.kind==.function&&env.kindOf x==some .cell)=true
     · have:k'=.free:=by
         rw[Bool.and_eq_true,Bool.and_eq_true] at hq
         simpa using hq.1.1
       rw[←this];exact List.mem_cons_self
     · rw[if_neg hq] at h'
       simp[List.lookup_cons] at h'
       subst h'
       rcases hk with hk | hk
       · exact absurd hk (hc _ List.mem_cons_self)
       · rw[←hk];exact List.mem_cons_self
   · have e':(x==n)=false:=by simpa using e
     have h2:List.lookup x (r.map fun(n,k)=>if(k==NameKind.free&&env.scope.kind==.function&&env.kindOf n==some .cell) then(n,NameKind.cell) else(n,k))=some k:=by
       split at h'<;>(rw[List.lookup_cons,e'] at h';exact h')
     exact List.mem_cons_of_mem _ (hV h2 hk hc')
theorem jg {env:Env}{x:Str}:∀ {names:List (Str×NameKind)},names.lookup x=some .free →
   (names.map fun(n,k)=>if(k==NameKind.free&&env.scope.kind==.function&&env.kindOf n==some .cell) then(n,NameKind.cell) else(n,k)).lookup x=some .cell ∨
   (names.map fun(n,k)=>if(k==NameKind.free&&env.scope.kind==.function&&env.kindOf n==some .cell) then(n,NameKind.cell) else(n,k)).lookup x=some .free
 | [],h=>by simp at h
 | (n,k')::r,h=>by
   show List.lookup x ((if(k'==NameKind.free&&env.scope.kind==.function&&env.kindOf n==some .cell)=true then(n,NameKind.cell) else(n,k'))::(r.map fun(n,k)=>if(k==NameKind.free&&env.scope.kind==.function&&env.kindOf n==some .cell) then(n,NameKind.cell) else(n,k)))=_ ∨
     List.lookup x ((if(k'==NameKind.free&&env.scope.kind==.function&&env.kindOf n==some .cell)=true then(n,NameKind.cell) else(n,k'))::(r.map fun(n,k)=>if(k==NameKind.free&&env.scope.kind==.function&&env.kindOf n==some .cell) then(n,NameKind.cell) else(n,k)))=_
   by_cases e:x=n
   · subst e
     have hk:k'=.free:=by simpa [List.lookup_cons] using h
     subst hk
     split
     · left;simp[List.lookup_cons]
     · right;simp[List.lookup_cons]
   · have e':(x==n)=false:=by simpa using e
     rw[List.lookup_cons,e'] at h
     have ih:=jg (env:=env) (x:=x) (names:=r) h
     split<;>(simp only[List.lookup_cons,e'];exact ih)
section
variable {X:Cx}{pins:List (Addr×Obj)}{σ:St}{H:Hp}{s:Shared}{scope:Scope}{N':List Str}{pk:List (Option Nat)}{fp:List Addr}

theorem iD (I:Inv X pins σ H s)(B:cg X.N X.env scope N' pk):∀ y∈scope.names,y.2=.free→∃ c,X.env.cells.lookup y.1=some c:=fun y hy hf=>I.ok.has y.1 (B.free y hy hf)

theorem oV {h₁:Heap}{t:Nat}(I:Inv X pins σ H s)(B:cg X.N X.env scope N' pk)(hf:∀ b∈fp,d8 X pins H b)(ho:∀ b∈fp,∃ o,s.heap.get? b=some o)
   (hn:h₁.Ns s.heap.objs.size (fun _=>none))(hs:∀ b o,s.heap.get? b=some o→h₁.get? b=some o) :
   Inv (cxB X N' scope s H fp) [] (f9 pk σ) H { s with heap:=h₁,toks:=t }:=by
 have bh:=iD I B
 have clx:∀ x c,(ix scope X.env).lookup x=some c→(x,NameKind.free)∈scope.names∧X.env.cells.lookup x=some c:=fun x c h=>tf bh h
 refine⟨⟨I.ok.mod,?_,I.ok.glob,I.ok.blt,Nat.le_refl _,fun x y c h1 h2=>?_,fun x hx=>?_,fun x c h _=>?_,I.ok.hd,I.ok.frames,.inl rfl,fun b hb=>⟨?_,fun x c h=>?_⟩,I.bs,Nat.le_trans I.ok.bsz I.sz,fun b o e hb=>?_,fun b hb hfs=>?_,I.stack,I.stkFree⟩,
   rfl,I.bare,Un.kept hs,⟨_,hn,fun i x v h1 h2 h3=>?_⟩,fun x c h=>?_,I.hok.fresh (Nat.le_refl _),fun x c h=>?_,fun p hp=>absurd (show p∈([]:List (Addr×Obj)) from hp) (by simp),I.hok.kept hs,?_⟩
 · exact B.kind
 · exact I.ok.inj x y c (clx x c h1).2 (clx y c h2).2
 · have hx':(relabel scope X.env).names.lookup x=some .cell∨(relabel scope X.env).names.lookup x=some .free:=hx
   have hm:(x,NameKind.free)∈scope.names:=by
     rcases hx' with z | z
     · exact hV z (.inl rfl) B.nocell
     · exact hV z (.inr rfl) B.nocell
   obtain⟨c,hc⟩:=bh _ hm rfl
   exact⟨c,ik hm hc⟩
 · exact absurd (show false=true from h) Bool.false_ne_true
 · obtain⟨o,e⟩:=ho b hb
   exact Nat.ne_of_lt (Heap.lt_size e)
 · exact(hf b hb).2.2.2.2.1 x c (clx x c h).2
 · have:=(hf b hb)
   obtain⟨_,_,_,h4,_⟩:=this
   rcases h4 with q | q
   · exact I.ok.noex b o e q
   · exact absurd (Nat.lt_of_lt_of_le (Heap.lt_size e) (Nat.le_trans I.ok.bsz q)) (Nat.lt_irrefl _)
 · obtain⟨_,h2,h3,_⟩:=hf b hb
   rcases List.mem_cons.mp (I.stkSub b hfs) with q | q
   · exact h2 q
   · exact h3 q
 · -- a captured name
   have h2':(pk.map fun o=>o.bind fun j=>(σ[j]?).bind id)[i]?=some (some v):=h2
   rw[List.getElem?_map] at h2'
   cases ep:pk[i]? with
   | none=>rw[ep] at h2';cases h2'
   | some o =>
     rw[ep] at h2'
     have h2':o.bind (fun j=>(σ[j]?).bind id)=some v:=Option.some.inj h2'
     cases o with
     | none=>cases h2'
     | some j =>
       have h2':(σ[j]?).bind id=some v:=h2'
       have hj:σ[j]?=some (some v):=by
         cases q:σ[j]? with
         | none=>rw[q] at h2';cases h2'
         | some w=>rw[q] at h2';exact congrArg some h2'
       obtain⟨hN,hlk⟩:=B.cap i x h1 j ep
       have hm:=PySem.mem_of_lookup hlk
       obtain⟨m,_,hl⟩:=I.loc
       have hv:Vis X.env.scope x:=by
         rcases B.free _ hm rfl with z | z
         · exact .inr (.inl z)
         · exact .inr (.inr z)
       obtain⟨u,r,l⟩:=hl j x v hN hj hv
       refine⟨u,r,?_⟩
       rcases l with ⟨k,_⟩ | ⟨k,c,hc,hcell⟩
       · have k':X.env.scope.names.lookup x=some .local:=k
         rcases B.free _ hm rfl with z | z
         · rw[show X.env.scope.names.lookup x=some .cell from z] at k';cases k'
         · rw[show X.env.scope.names.lookup x=some .free from z] at k';cases k'
       · refine .inr ⟨?_,c,ik hm hc,?_⟩
         · rcases h3 with z | z
           · have z':(relabel scope X.env).names.lookup x=some .local:=z
             rcases jg (env:=X.env) hlk with y | y
             · have y':(relabel scope X.env).names.lookup x=some .cell:=y
               rw[y'] at z';cases z'
             · have y':(relabel scope X.env).names.lookup x=some .free:=y
               rw[y'] at z';cases z'
           · exact z
         · obtain⟨o,ho,hd⟩:=hcell
           exact⟨o,hs _ _ ho,hd⟩
 · obtain⟨v,o,ho,hd⟩:=I.cell x c (clx x c h).2
   exact⟨v,o,hs _ _ ho,hd⟩
 · exact I.freeC x c (clx x c h).2
 · show(f9 pk σ).length=N'.length
   unfold f9
   rw[List.length_map]
   exact B.len
end
end L2

set_option Elab.async false
set_option linter.all false
set_option maxRecDepth 100000
set_option maxHeartbeats 4000000
namespace L2
open PySem PySem.Spec PyProof.Rows

theorem lM {prog:Program}{w:World}{A:Around}{R:Result→Shared→Prop}{s:Shared}{elt target iter:Expr}{scope:Scope}{pos:Pos}{it acc:Value}{env:Env}(I:Nat→Shared→Prop)
   (turn:∀ n s,I n s→∀ E:Value→Shared→Prop,wpAny (model prog w) A (pyNext it) (fun r s₁=>match r with
     | none=>R (.ok .next) s₁
     | some v=>wpAny (model prog w) A (letOwnedTupleGo target it v) (fun _ s₁'=>wpAny (model prog w) A (assign target env v) (fun _ s₂=>wpAny (model prog w) A (eval elt env) (fun x s₃ =>
         wpAny (model prog w) A (call (.builtin "list.append") [acc,x]) (fun _ s₄=>∃ m,m < n∧I m s₄) E s₃) E s₂) E s₁') E s₁) E s)
   (n:Nat)(h:I n s) :
   codeAny (model prog w) A (.compLoop (.ListComp elt [⟨target,iter,[],0⟩] scope pos) 0 it acc env) R s:=by
 refine codeAny_loop rfl I (fun n s hI=>?_) n h
 show wpAny _ _ ((compTurn (.ListComp elt [⟨target,iter,[],0⟩] scope pos) 0 it acc env).onRaise (fun x=>do noteFrame x env;theTreesLotGoes x)) _ _ s
 refine wpAny_noted ?_
 rw[compTurn_list1]
 refine wpAny_bind (wpAny_standAt (wpAny_bind (wpAny_mono (turn n s hI _) (fun r s₁ h₁=>?_) fun _ _ h'=>h')))
 cases r with
 | none=>exact wpAny_pure h₁
 | some v =>
   refine wpAny_bind (wpAny_mono h₁ (fun _ s₁' h₁=>?_) fun _ _ h'=>h')
   exact wpAny_bind (wpAny_mono h₁ (fun _ s₂ h₂=>wpAny_bind (wpAny_bind (wpAny_mono h₂ (fun x s₃ h₃=>wpAny_bind (wpAny_mono h₃
     (fun _ s₄ h₄=>wpAny_pure (wpAny_pure ⟨rfl,h₄⟩)) fun _ _ h'=>h')) fun _ _ h'=>h'))) fun _ _ h'=>h')

def mE (J:It)(g:TG)(te:TE)(D:Addr)(Q:Hp→Prop) (σ:St)(H:Hp):Prop :=
 ∃ W:Nat→Nat→St→Hp→Prop,(∃ m,W 0 m σ H)∧∀ i m σ' H',W i m σ' H' →
   (J.stop i H'∧Q H')∨(J.go i H'∧∃ N:St→Hp→Prop,(∀ σ'' H'',N σ'' H''→∃ m',m' < m∧W (i+1) m' σ'' H'') ∧
     ∀ x H2,J.yld i H' x H2→g x σ' H2 fun σ2 H3=>te σ2 H3 fun v H4=>∃ xs,H4 D=some (.lst xs)∧xs.length < sizeLine∧N σ2 (upd H4 D (.lst (xs++[v]))))

section
variable {X:Cx}{pins:List (Addr×Obj)}{σ:St}{H:Hp}{s:Shared}{scope:Scope}{N':List Str}{pk:List (Option Nat)}{fp:List Addr}

theorem m4 {elt tg iter:Expr}{g:TG}{te:TE}{J:It}{it:Addr}{tn:Nat→Heap→Prop}{pos:Pos}{QD:Addr→Hp→Prop}{E:Value→Shared→Prop}{RR:Value→Addr→Result→Shared→Prop}
   (I:Inv X pins σ H s)(B:cg X.N X.env scope N' pk)(hc:X.calm=true)(T:lg X.prog X.w X.K tg J fp it tn)(st:tn 0 s.heap)(hf:∀ b∈fp,d8 X pins H b)
   (hg:∀ s H ex,PG (cxB X N' scope s H ex) tg g)(he:∀ s H ex,PE (cxB X N' scope s H ex) elt te)
   (hW:∀ D,H D=none→mE J g te D (QD D) (f9 pk σ) (upd H D (.lst [])))
   (fin:∀ D C s' H' m,Inv X pins σ H' s'→d8 X pins H' C→s'.heap.Ns C m→QD D H'→RR (.ref D) C (.ok .next) s') :
   wpAny (model X.prog X.w) X.A (newList []) (fun acc s₃=>wpAny (model X.prog X.w) X.A (newFunctionEnv scope X.env.globals (ix scope X.env) [] X.env.qual none .none (some X.env)) (fun cenv s₄ =>
     codeAny (model X.prog X.w) X.A (.compStart (.ListComp elt [⟨tg,iter,[],0⟩] scope pos) 0 (.ref it) acc { cenv with scope:=relabel scope X.env }) (RR acc cenv.locals) s₄) E s₃) E s:=by
 have hD0:H s.heap.objs.size=none:=I.hok.fresh (Nat.le_refl _)
 refine wpAny_newObj_type (wpAny_newFunctionEnv B.nocell (by intro y hy;simp at hy) (fun h₁ hns₁ hsb₁=>?_) B.kind)
 dsimp only at hns₁ hsb₁ ⊢
 have I3:Inv X pins σ (upd H s.heap.objs.size (.lst [])) { s with heap:=s.heap.push { cls:=.type "list",dict:=none,data:=.seq ([]:List Value).toArray } }:=I.lnew (t':=s.toks) .nil (Nat.zero_le _)
 obtain⟨W,⟨m0,w0⟩,turn⟩:=hW _ hD0
 generalize hs3:({ s with heap:=s.heap.push { cls:=.type "list",dict:=none,data:=.seq ([]:List Value).toArray } }:Shared)=s3 at I3
 have eh:s.heap.push { cls:=.type "list",dict:=none,data:=.seq ([]:List Value).toArray }=s3.heap:=by rw[←hs3]
 have hold:∀ b o,s.heap.get? b=some o→s3.heap.get? b=some o:=fun b o e=>by rw[←eh];exact Heap.get?_push_of_some _ e
 rw[eh] at hns₁ hsb₁
 have hs:∀ b o,s3.heap.get? b=some o→h₁.get? b=some o:=fun b o e=>hsb₁.extBut b o (Nat.ne_of_lt (Heap.lt_size e)) (Heap.get?_push_of_some _ e)
 have hf3:∀ b∈fp,d8 X pins (upd H s.heap.objs.size (.lst [])) b:=fun b hb=>by
   refine⟨?_,(hf b hb).2⟩
   obtain⟨o,e,_⟩:=T.obj 0 _ st b hb
   rw[ai (Nat.ne_of_lt (Heap.lt_size e))]
   exact(hf b hb).1
 have ho3:∀ b∈fp,∃ o,s3.heap.get? b=some o:=fun b hb=>by
   obtain⟨o,e,_⟩:=T.obj 0 _ st b hb
   exact⟨o,hold _ _ e⟩
 have st1:tn 0 h₁:=T.keep 0 _ _ st fun b hb o e=>hs b o (hold b o e)
 have esh:∀ t,({ s with heap:=h₁,toks:=t }:Shared)={ s3 with heap:=h₁,toks:=t }:=fun t=>by rw[←hs3]
 have loop:∀ t,codeAny (model X.prog X.w) X.A (.compLoop (.ListComp elt [⟨tg,iter,[],0⟩] scope pos) 0 (.ref it) (.ref s.heap.objs.size) (compEnvC scope (ix scope X.env) s3.heap.objs.size X.env))
     (RR (.ref s.heap.objs.size) s3.heap.objs.size) { s with heap:=h₁,toks:=t }:=fun t=>by
   rw[esh t]
   have IB:Inv (cxB X N' scope s3 (upd H s.heap.objs.size (.lst [])) fp) [] (f9 pk σ) (upd H s.heap.objs.size (.lst [])) { s3 with heap:=h₁,toks:=t }:=oV I3 B hf3 ho3 hns₁ hs
   have f2:∀ b∈fp,d8 (cxB X N' scope s3 (upd H s.heap.objs.size (.lst [])) fp) [] (upd H s.heap.objs.size (.lst [])) b:=fun b hb =>
     ⟨(hf3 b hb).1,(IB.ok.exf b hb).1,IB.ok.exfs b hb,.inl hb,(IB.ok.exf b hb).2,fun p hp=>absurd (show p∈([]:List (Addr×Obj)) from hp) (by simp)⟩
   have stat:∀ {H':Hp},(∀ b∈fp,H' b=none)→∀ b∈fp,d8 (cxB X N' scope s3 (upd H s.heap.objs.size (.lst [])) fp) [] H' b:=fun hn b hb=>⟨hn b hb,(f2 b hb).2⟩
   refine lM (fun n s'=>∃ i σ' H',Inv (cxB X N' scope s3 (upd H s.heap.objs.size (.lst [])) fp) [] σ' H' s'∧tn i s'.heap∧(∀ b∈fp,H' b=none)∧W i n σ' H') ?_ m0 ⟨0,_,_,IB,st1,fun b hb=>(f2 b hb).1,w0⟩
   rintro n s4 ⟨i,σ4,H4,I4,st4,fr4,w4⟩ E'
   rcases turn i n σ4 H4 w4 with ⟨stop,qn⟩ | ⟨go,N,hN,step⟩
   · refine thn (T.done (cxB X N' scope s3 (upd H s.heap.objs.size (.lst [])) fp) rfl rfl rfl hc i [] s4 σ4 H4 E' I4 (stat fr4) st4 stop) fun r s5 ⟨hr,I5⟩=>?_
     subst hr
     obtain⟨m5,hn5,_⟩:=I5.loc
     have IX:Inv X pins σ H4 s5:=I3.call' (ch:=fp) I5.os I5.base I5.hok I5.bare fun b hb=>⟨(hf3 b hb).2.2.2.1,(hf3 b hb).2.1,(hf3 b hb).2.2.2.2.1,(hf3 b hb).2.2.2.2.2⟩
     exact fin _ _ s5 H4 m5 IX (I3.fpOk (Nat.le_refl _) I5.free) hn5 qn
   · refine thn (T.item (cxB X N' scope s3 (upd H s.heap.objs.size (.lst [])) fp) rfl rfl rfl hc i [] s4 σ4 H4 E' I4 (stat fr4) st4 go) fun r s5 ⟨u,hr,h5⟩=>?_
     subst hr
     refine thn h5 fun _ s6 ⟨x,H6,I6,r6,y6,st6,fr6⟩=>?_
     have I6':=I6.pinned (stat fr6) (T.obj _ _ st6)
     refine wpAny_mono (hg _ _ _ s6 σ4 H6 x u _ I6' r6 (step x H6 y6)) (fun _ s7 ⟨σ7,H7,I7,q7⟩=>?_) fun _ _ z=>False.elim z
     refine wpAny_mono (he _ _ _ s7 σ7 H7 _ I7 q7) (fun w s8 ⟨v,H8,I8,r8,xs,hx8,hl8,n8⟩=>?_) fun _ _ z=>False.elim z
     refine wpAny_mono (ca (X:=cxB X N' scope s3 (upd H s.heap.objs.size (.lst [])) fp) _ s8 σ7 H8 (.ref s.heap.objs.size) [v] (.ref s.heap.objs.size) [w] (fun _ H9=>N σ7 H9) I8 rfl (.cons r8 .nil) ⟨_,xs,v,rfl,rfl,hx8,hl8,n8⟩) (fun _ s9 ⟨_,H9,I9,_,n9⟩=>?_) fun _ _ z=>False.elim z
     obtain⟨m',hm,w9⟩:=hN σ7 H9 n9
     refine⟨m',hm,i+1,σ7,H9,I9.unpinned,T.keep _ _ _ st6 fun b hb o e=>(I9.pin (b,o) (List.mem_append_right _ (List.mem_append_right _ (cZ hb e)))).1,fun b hb=>?_,w9⟩
     obtain⟨o,e,d⟩:=T.obj _ _ st6 b hb
     exact(I9.pin (b,o) (List.mem_append_right _ (List.mem_append_right _ (cZ hb e)))).2.1
 rw[←eh] at loop
 exact codeAny_compStart_list (loop _) (T.self _ _ _ _ _ st1 (loop _))

theorem Inv.gone {h':Heap}{C:Addr}(I:Inv X pins σ H s)(f:d8 X pins H C)(hs:Heap.SameBut C s.heap h'):Inv X pins σ H { s with heap:=h' } :=
 I.turned (t':=s.toks) (it:=C) (fun b o hb e=>hs.extBut b o hb e) f.1 f.2.1 f.2.2.2.1 f.2.2.2.2.1 f.2.2.2.2.2

def sv (pk:List (Option Nat))(wi:TI)(g:TG)(te:TE):TE:=fun σ H Q=>wi σ H fun J H1=>∀ D,H1 D=none→mE J g te D (fun H'=>Q (.ref D) H') (f9 pk σ) (upd H1 D (.lst []))

theorem df {elt tg iter:Expr}{wi:TI}{g:TG}{te:TE}{pos:Pos}(hc:X.calm=true)(B:cg X.N X.env scope N' pk)(hi:PI X tg iter wi)
   (hg:∀ s H ex,PG (cxB X N' scope s H ex) tg g)(he:∀ s H ex,PE (cxB X N' scope s H ex) elt te)(hs:∀ x,foldedSetIterable iter X.env x=pure x:=by intro _;rfl) :
   PE X (.ListComp elt [⟨tg,iter,[],0⟩] scope pos) (sv pk wi g te):=by
 intro pins s σ H Q I h
 rw[eval_ListComp]
 have hclos:=gi (iD I B)
 refine wpAny_comprehension_free (use:=none) rfl hs hclos B.kind B.names (thn (hi s σ H _ I h) fun v s1 h1=>thn h1 fun itv s2 h2=>?_)
 obtain⟨it,fp,tn,J,H2,e,I2,T,st2,f2,hW⟩:=h2
 subst e
 refine m4 (QD:=fun D H'=>Q (.ref D) H') (RR:=fun acc C=>compPost (model X.prog X.w) X.A X.xe none (EP X pins σ Q) acc C) I2 B hc T st2 f2 hg he hW fun D C s' H' m I' f' hn q=>?_
 exact⟨m,hn,fun h' hs'=>⟨.ref D,H',I'.gone f' hs',rfl,q⟩⟩

theorem iE {i:Nat}{y:Str}{elt tg iter:Expr}{wi:TI}{g:TG}{te:TE}{pos spos py:Pos}(hN:X.N.Nodup)(hiy:X.N[i]?=some y)(hy:Loc X.env.scope y)(hc:X.calm=true)(B:cg X.N X.env scope N' pk)(hi:PI X tg iter wi)
   (hg:∀ s H ex,PG (cxB X N' scope s H ex) tg g)(he:∀ s H ex,PE (cxB X N' scope s H ex) elt te)
   (hsw:swapsWith (.ListComp elt [⟨tg,iter,[],0⟩] scope pos) (some (.Name y py)) spos.line X.env=pure true:=by rfl)
   (hs:∀ x,foldedSetIterable iter X.env x=pure x:=by intro _;rfl)(hf:X.fn y=true∨X.env.scope.names.lookup y=some .local:=by first | exact .inl rfl | exact .inr rfl | assumption) :
   PS X (.Assign [.Name y py] (.ListComp elt [⟨tg,iter,[],0⟩] scope pos) spos) (ul (sv pk wi g te) (cO i)):=by
 intro pins s σ H D0 I h
 rw[exec_Assign_Name_used _ _ _ _ hsw]
 have hclos:=gi (iD I B)
 refine wpAny_bind (wpAny_standAt (wpAny_bind ?_))
 show wpAny _ X.A (do let _ ←comprehension (.ListComp elt [⟨tg,iter,[],0⟩] scope pos) scope X.env _ (newList []) false (eval iter X.env) (some (assign (.Name y py) X.env))) _ _ s
 refine wpAny_bind (wpAny_mono (wpAny_comprehension_free (use:=some (assign (.Name y py) X.env)) (Q:=fun _ s'=>SP X pins D0 .next s') rfl hs hclos B.kind B.names
   (thn (hi s σ H _ I h) fun v s1 h1=>thn h1 fun itv s2 h2=>?_)) (fun _ s' hq=>wpAny_pure (wpAny_pure hq)) fun _ _ e=>e)
 obtain⟨it,fp,tn,J,H2,e,I2,T,st2,f2,hW⟩:=h2
 subst e
 refine m4 (QD:=fun D H'=>D0.nx (σ.set i (some (.ref D))) H') (RR:=fun acc C=>compPost (model X.prog X.w) X.A X.xe (some (assign (.Name y py) X.env)) (fun _ s'=>SP X pins D0 .next s') acc C) I2 B hc T st2 f2 hg he hW fun D C s' H' m I' f' hn q=>?_
 show wpAny _ X.A (assign (.Name y py) X.env (.ref D)) _ _ _
 refine wpAny_assign_Name (jK (v:=.ref D) I' hN hiy hy rfl (fun s3 I3 ⟨a,hsa,ha⟩=>?_) hf)
 have hCa:C≠a:=by
   rcases ha with z | z
   · rw[z];exact f'.2.1
   · exact fun e=>f'.2.2.2.2.1 _ _ z e.symm
 exact⟨m,hn.sameBut hsa hCa,fun h' hs'=>⟨_,H',I3.gone f' hs',q⟩⟩
end
end L2

set_option Elab.async false
set_option linter.all false
set_option maxRecDepth 100000
set_option maxHeartbeats 4000000
namespace L2
open PySem PySem.Spec PyProof.Rows

/-! ### iterators by the library's Walks: n values,given by what stands at each place -/
def Itw (n:Nat)(vs:Nat→V→Prop):It:=⟨fun i _=>i < n,fun i H x H'=>H'=H∧vs i x,fun i _=>i=n⟩
theorem jW {P:Program}{w:World}{K:PySem.W.Frag}{tg:Expr}{it:Addr}{n:Nat}{PV:Nat→Value→Prop}{St:Nat→Heap→Prop}{vs:Nat→V→Prop}
   (W:∀ A':Around,A'.handled=none→Walks P w A' it [it] [it] n PV St)
   (hobj:∀ i h,St i h→∃ o nm fv,h.get? it=some o∧o.cls=.type nm∧o.data=.fields fv∧["enumerate", "zip", "dict_itemiterator", "dict_reverseitemiterator", "odict_iterator", "itertools.zip_longest", "itertools.pairwise"].contains nm=false)
   (hv:∀ i v,PV i v→∃ x,vs i x∧aW x v)(hself:∀ (A:Around) (i:Nat)(s:Shared)(Q:Value→Shared→Prop)(E:Value→Shared→Prop),St i s.heap→Q (.ref it) s→wpAny (model P w) A (pyIter (.ref it)) Q E s):lg P w K tg (Itw n vs) [it] it St where
 mem:=by simp
 obj:=fun i h st b hb=>by
   have e:b=it:=by simpa using hb
   subst e
   obtain⟨o,nm,fv,e,_,hd,_⟩:=hobj i h st
   exact⟨o,e,fun v z=>by rw[hd] at z;cases z⟩
 keep:=fun i h h' st k=>(W { depth:=0,units:=0,handled:=none,frames:=none } rfl).frame i h h' st k
 item:=by
   intro X hP hw hK hc i pins s σ H E I hf st hg
   subst hP hw hK
   obtain⟨f0,f1,f2,f3,f4,f5⟩:=hf it (by simp)
   refine(W X.A (I.ok.hd hc)).item i s _ _ hg st fun v h' tk hv' st' kk=>?_
   have I1:Inv X pins σ H { s with heap:=h',toks:=tk }:=I.turned (fun b o hb e=>kk b o (by simpa using hb) e) f0 f1 f3 f4 f5
   obtain⟨o,nm,fv,e,hcl,hd,hnm⟩:=hobj _ _ st'
   obtain⟨x,hx,rx⟩:=hv i v hv'
   exact⟨_,rfl,mm (s:={ s with heap:=h',toks:=tk }) e hcl hd hnm ⟨x,H,I1,rx,⟨rfl,hx⟩,st',fun b hb=>(hf b hb).1⟩⟩
 done:=by
   intro X hP hw hK hc i pins s σ H E I hf st hg
   subst hP hw hK
   obtain⟨f0,f1,f2,f3,f4,f5⟩:=hf it (by simp)
   have e:i=n:=hg
   subst e
   exact(W X.A (I.ok.hd hc)).done s _ _ st fun h' tk kk=>⟨rfl,I.turned (fun b o hb e=>kk b o (by simpa using hb) e) f0 f1 f3 f4 f5⟩
 self:=hself

/-! ### for c in text -/
def sgn (c:Nat):V:=.str ⟨#[c]⟩
def wP (tl:TE):TI:=fun σ H R=>tl σ H fun x H1=>∃ z:Str,x=.str z∧R (Itw z.cps.size fun i v=>∃ c,z.cps[i]?=some c∧v=sgn c) H1
theorem vN {X:Cx}{tg l:Expr}{tl:TE}(hl:PE X l tl):PI X tg l (wP tl):=by
 intro pins s σ H R I h
 refine thn (hl s σ H _ I h) fun v s1 ⟨x,H1,I1,r1,q1⟩=>?_
 obtain⟨z,e,q⟩:=q1
 subst e
 obtain⟨t,rfl⟩:=r1
 have fp:∀ o:Obj,∀ b∈[s1.heap.objs.size],d8 X pins H1 b:=fun o b hb=>by
   have e:b=s1.heap.objs.size:=by simpa using hb
   subst e
   exact I1.fpOk (Nat.le_refl _) (I1.hok.fresh (Nat.le_refl _))
 cases ha:z.cps.all (· < 128)
 · refine wpAny_pyIter_wide ha ?_
   refine⟨s1.heap.objs.size,[s1.heap.objs.size],_,_,H1,rfl,I1.kept (t':=s1.toks) fun b o e=>Heap.get?_push_of_some _ e,jW (fun A' hA=>Walks.strWide hA _ z t) ?_ ?_ ?_,⟨_,Heap.get?_push_size _ rfl,rfl,rfl⟩,fp default,q⟩
   · rintro i h ⟨o,e,hc,hd⟩
     exact⟨o,_,_,e,hc,hd,by decide⟩
   · rintro i v ⟨c,u,hc,rfl⟩
     exact⟨sgn c,⟨c,hc,rfl⟩,⟨u,rfl⟩⟩
   · exact fun A i s Q E st hq=>wpAny_pyIter_striter_wide st hq
 · refine wpAny_pyIter_ascii ha ?_
   refine⟨s1.heap.objs.size,[s1.heap.objs.size],_,_,H1,rfl,I1.kept (t':=s1.toks) fun b o e=>Heap.get?_push_of_some _ e,jW (fun A' hA=>Walks.strAscii hA _ z t) ?_ ?_ ?_,⟨_,Heap.get?_push_size _ rfl,rfl,rfl⟩,fp default,q⟩
   · rintro i h ⟨o,e,hc,hd⟩
     exact⟨o,_,_,e,hc,hd,by decide⟩
   · rintro i v ⟨c,u,hc,rfl⟩
     exact⟨sgn c,⟨c,hc,rfl⟩,⟨u,rfl⟩⟩
   · exact fun A i s Q E st hq=>wpAny_pyIter_striter_ascii st hq

/-! ### texts and bools in lists -/
theorem ge {ss:List Str}:∀ {us:List Value},Vals (ss.map V.str) us→StrsAre us ss:=by
 induction ss with
 | nil=>intro us r;rw[List.map_nil] at r;cases r;exact .nil
 | cons n ns ih =>
   intro us r
   rw[List.map_cons] at r
   cases r with
   | cons r1 r2 =>
     obtain⟨t,e⟩:=r1
     subst e
     exact .cons n t (ih r2)
theorem gY {ss:List Str}{us:List Value}(h:StrsAre us ss):Vals (ss.map V.str) us:=by
 induction h with
 | nil=>exact .nil
 | cons y t r ih=>exact .cons ⟨t,rfl⟩ ih
theorem iC {X:Cx}:MtR X "str.join" (fun x vs H Q=>∃ (z:Str)(a:Addr)(ss:List Str),x=.str z∧vs=[.ref a]∧SqL X.K H a (ss.map V.str)∧(ss.map (·.length)).sum+ss.length*z.length≤16777216∧Q (.str (Txt.join z ss)) H):=by
 intro pins s σ H x xs v us Q I rx rs h
 obtain⟨z,a,ss,rfl,rfl,ha,hz,q⟩:=h
 obtain⟨t,rfl⟩:=rx
 obtain⟨u,rfl,ru⟩:=rs.one
 cases ru
 obtain⟨its,r,pl,_⟩:=I.list ha
 exact join_list pl.isList (by simpa using ge r) hz fun t' k=>⟨.str _,H,I.tok _,⟨t',rfl⟩,q⟩
theorem uj {bs:List Bool}:∀ {us:List Value}{i:Nat}{v:Value},Vals (bs.map V.bl) us→us[i]?=some v→∃ b,bs[i]?=some b∧v=.bool b:=by
 induction bs with
 | nil=>intro us i v r h;rw[List.map_nil] at r;cases r;simp at h
 | cons b bs ih =>
   intro us i v r h
   rw[List.map_cons] at r
   cases r with
   | cons r1 r2 =>
     cases i with
     | zero=>simp at h;subst h;exact⟨b,rfl,r1⟩
     | succ i=>obtain⟨c,h1,h2⟩:=ih r2 (by simpa using h);exact⟨c,by simpa using h1,h2⟩
theorem qL {X:Cx}(hc:X.calm=true):cv X (.builtin "all") (fun xs H Q=>∃ (a:Addr)(bs:List Bool),xs=[.ref a]∧SqL X.K H a (bs.map V.bl)∧Q (.bl (bs.all id)) H):=by
 intro pins s σ H xs us Q I r h
 obtain⟨a,bs,rfl,ha,q⟩:=h
 obtain⟨u,rfl,ru⟩:=dW r
 cases ru
 obtain⟨its,rv,pl,_⟩:=I.list ha
 have hl:=pl.isList
 have hlt:a < s.heap.objs.size:=by obtain⟨_,e,_⟩:=hl;exact Heap.lt_size e
 refine call_all_walk (wpAny_pyIter_list hl ?_)
 refine⟨s.heap.objs.size,[s.heap.objs.size,a],[s.heap.objs.size],its.toArray.size,_,_,fun i=>(bs[i]?).getD true,rfl,Walks.list (A:=X.A.in1) (I.ok.hd hc) _ a (Nat.ne_of_lt hlt) its.toArray,
   ⟨⟨_,Heap.get?_push_size _ rfl,rfl,rfl⟩,hl.push _⟩,fun i v s' Q' E' hP hQ=>?_,fun h' tk hk=>?_⟩
 · obtain⟨b,e,rfl⟩:=uj rv (by simpa using hP)
   simp only[e,Option.getD_some] at hQ
   exact wpAny_truthy_bool hQ
 · have hn:=rv.length
   rw[List.length_map] at hn
   have e:((List.range its.toArray.size).all fun i=>(bs[i]?).getD true)=bs.all id:=by
     rw[List.size_toArray,←hn];exact LSm.range_all bs
   rw[e]
   exact⟨.bl _,H,I.kept (LSm.kept_iter hk),rfl,q⟩
theorem ez {X:Cx}:cv X (.builtin "isinstance") (fun xs H Q=>∃ x c t b,xs=[x,.ty c]∧eQ X.K H x t∧PySem.W.kitOne X.K t (.type c)=some b∧Q (.bl b) H):=by
 intro pins s σ H xs us Q I r h
 obtain⟨x,c,t,b,rfl,ty,e,q⟩:=h
 obtain⟨u,w',rfl,r1,r2⟩:=sf r
 cases r2
 exact qi I r1 ty e fun tk=>⟨.bl b,H,I.tok _,rfl,q⟩
theorem cf {X:Cx}:OpR X (binaryOp .FloorDiv) (rI (fun _ j=>0 < j∧j < 2 ^ 64) fun i j=>.int (i / j)):=opI fun i j _ _ _ _ _ hc q=>by
 obtain⟨h1,h2⟩:=hc
 refine floordiv_int (by omega) (by rw[Int.fdiv_eq_ediv_of_nonneg i (by omega)];exact q) (.inl (PyProof.noPylong_of_log2 ?_))
 have h0:j.natAbs≠0:=by omega
 have:j.natAbs.log2 < 64:=(Nat.log2_lt h0).mpr (by omega)
 omega
end L2

set_option Elab.async false
set_option linter.all false
set_option maxRecDepth 100000
set_option maxHeartbeats 4000000
namespace L2
open PySem PySem.Spec PyProof.Rows

/-! ### what yields n values and leaves the heap as it is -/
structure dQ (J:It)(H1:Hp) (n:Nat)(vs:Nat→V→Prop):Prop where
 go:∀ i H',i < n→af H1 H'→J.go i H'
 yld:∀ i H' x H2,i < n→af H1 H'→J.yld i H' x H2→H2=H'∧vs i x
 stop:∀ H',af H1 H'→J.stop n H'
theorem mY {H1:Hp}{n:Nat}{vs:Nat→V→Prop}:dQ (Itw n vs) H1 n vs:=⟨fun _ _ h _=>h,fun _ _ _ _ _ _ h=>h,fun _ _=>rfl⟩
theorem bu {H1:Hp}{lo:Int}{n:Nat}:dQ (Itr lo n) H1 n (fun i x=>x=.int (lo+i)):=⟨fun _ _ h _=>h,fun _ _ _ _ _ _ h=>h,fun _ _=>Nat.le_refl _⟩
theorem az {K:PySem.W.Frag}{H1:Hp}{a:Addr}{xs:List V}(h:SqL K H1 a xs):dQ (Itl K a) H1 xs.length (fun i x=>xs[i]?=some x) :=
 ⟨fun i H' hi s=>⟨xs,xs[i],s.seq h,by simp[hi]⟩,fun i H' x H2 hi s y=>⟨y.1,y.2 xs (s.seq h)⟩,fun H' s=>⟨xs,s.seq h,Nat.le_refl _⟩⟩
theorem af.sqT {K:PySem.W.Frag}{H H':Hp}{a:Addr}{xs:List V}(e:af H H')(h:SqT K H a xs):SqT K H' a xs:=by
 rcases h with (h | ⟨o,h⟩) | h
 · exact .inl (.inl (e _ _ h))
 · exact .inl (.inr ⟨o,e _ _ h⟩)
 · exact .inr h
theorem nZ {K:PySem.W.Frag}{H1:Hp}{a:Addr}{xs:List V}(h:SqT K H1 a xs):dQ (Itt K a) H1 xs.length (fun i x=>xs[i]?=some x) :=
 ⟨fun i H' hi s=>⟨xs,xs[i],s.sqT h,by simp[hi]⟩,fun i H' x H2 hi s y=>⟨y.1,y.2 xs (s.sqT h)⟩,fun H' s=>⟨xs,s.sqT h,Nat.le_refl _⟩⟩
theorem af.updN {H:Hp}{D:Addr}{o:HO}(h:H D=none):af H (upd H D o):=fun b u e=>by rw[ai (ak e h)];exact e
theorem af.step {H0 H:Hp}{D:Addr}{o:HO}(s:af H0 H)(h:H0 D=none):af H0 (upd H D o):=fun b u e=>by rw[ai (ak e h)];exact s b u e

theorem gC {J:It}{n:Nat}{vs:Nat→V→Prop}{g:TG}{te:TE}{D:Addr}{Q:Hp→Prop}{σ:St}{H0 H:Hp}(S:dQ J H0 n vs)(hn:n≤sizeLine)(Pv:Nat→List V→St→Hp→Prop)
   (h0:Pv 0 [] σ H)(hsame:∀ i xs σ' H',Pv i xs σ' H'→af H0 H'∧xs.length=i)
   (step:∀ i xs σ' H' x,i < n→vs i x→Pv i xs σ' H'→∀ R:V→St→Hp→Prop,(∀ v σ2 H4,H4 D=some (.lst xs)→Pv (i+1) (xs++[v]) σ2 (upd H4 D (.lst (xs++[v])))→R v σ2 H4)→g x σ' H' fun σ2 H3=>te σ2 H3 fun v H4=>R v σ2 H4)
   (fin:∀ xs σ' H',Pv n xs σ' H'→Q H'):mE J g te D Q σ H:=by
 refine⟨fun i m σ' H'=>m=n - i∧i≤n∧∃ xs,Pv i xs σ' H',⟨n,by simp,Nat.zero_le _,[],h0⟩,?_⟩
 rintro i m σ' H' ⟨rfl,hi,xs,p⟩
 obtain⟨sm,hl⟩:=hsame _ _ _ _ p
 by_cases hlt:i < n
 · refine .inr ⟨S.go i H' hlt sm,fun σ2 H2=>∃ ys,Pv (i+1) ys σ2 H2,fun σ2 H2 ⟨ys,p'⟩=>⟨n - (i+1),by omega,rfl,hlt,ys,p'⟩,fun x H2 y=>?_⟩
   obtain⟨e,hv⟩:=S.yld i H' x H2 hlt sm y
   subst e
   exact step i xs σ' _ x hlt hv p (fun v σ2 H4=>∃ xs,H4 D=some (.lst xs)∧xs.length < sizeLine∧∃ ys,Pv (i+1) ys σ2 (upd H4 D (.lst (xs++[v])))) fun v σ2 H4 a b=>⟨xs,a,by omega,_,b⟩
 · have e:i=n:=by omega
   subst e
   exact .inl ⟨S.stop H' sm,fin xs σ' H' p⟩
theorem cq {J:It}{n:Nat}{vs:Nat→V→Prop}{g:TG}{te:TE}{D:Addr}{Q:Hp→Prop}{σ:St}{H:Hp}(S:dQ J H n vs)(hn:n≤sizeLine)(hD:H D=none)(Pσ:St→Prop)(out:Nat→V)
   (h0:Pσ σ)(step:∀ i x σ' H',i < n→vs i x→Pσ σ'→af H H'→∀ R:V→St→Hp→Prop,(∀ σ2,Pσ σ2→R (out i) σ2 H')→g x σ' H' fun σ2 H3=>te σ2 H3 fun v H4=>R v σ2 H4)
   (fin:Q (upd H D (.lst ((List.range n).map out)))):mE J g te D Q σ (upd H D (.lst [])):=by
 refine⟨fun i m σ' H'=>m=n - i∧i≤n∧Pσ σ'∧H'=upd H D (.lst ((List.range i).map out)),⟨n,by simp,Nat.zero_le _,h0,rfl⟩,?_⟩
 rintro i m σ' H' ⟨rfl,hi,p,rfl⟩
 have sm:af H (upd H D (.lst ((List.range i).map out))):=af.updN hD
 by_cases hlt:i < n
 · refine .inr ⟨S.go i _ hlt sm,fun σ2 H2=>Pσ σ2∧H2=upd H D (.lst ((List.range (i+1)).map out)),fun σ2 H2 ⟨p',e⟩=>⟨n - (i+1),by omega,rfl,hlt,p',e⟩,fun x H2 y=>?_⟩
   obtain⟨e,hv⟩:=S.yld i _ x H2 hlt sm y
   subst e
   refine step i x σ' _ hlt hv p sm (fun v σ2 H4=>∃ xs,H4 D=some (.lst xs)∧xs.length < sizeLine∧Pσ σ2∧upd H4 D (.lst (xs++[v]))=upd H D (.lst ((List.range (i+1)).map out))) fun σ2 p2=>?_
   refine⟨(List.range i).map out,ac,by rw[List.length_map,List.length_range];omega,p2,?_⟩
   rw[iR,List.range_succ,List.map_append,List.map_singleton]
 · have e:i=n:=by omega
   subst e
   exact .inl ⟨S.stop _ sm,fin⟩
def tq (J:It)(g:TG)(tb:TS)(D:g9) (σ:St)(H:Hp):Prop :=
 ∃ W:Nat→Nat→St→Hp→Prop,(∃ m,W 0 m σ H)∧∀ i m σ H,W i m σ H →
   (J.stop i H∧D.nx σ H)∨(J.go i H∧∃ N:St→Hp→Prop,(∀ σ' H',N σ' H'→∃ m',m' < m∧W (i+1) m' σ' H')∧∀ x H',J.yld i H x H'→g x σ H' fun σ2 H2=>tb { D with nx:=N,ct:=N,bk:=D.nx } σ2 H2)
theorem tL (wi:TI)(g:TG)(tb:TS)(D:g9) (σ:St)(H:Hp):wI wi g tb D σ H=wi σ H fun J H1=>tq J g tb D σ H1:=rfl
theorem aU {J:It}{H0:Hp}{n:Nat}{vs:Nat→V→Prop}{g:TG}{tb:TS}{D:g9}{σ:St}{H:Hp}(S:dQ J H0 n vs)(Pv:Nat→St→Hp→Prop)(h0:Pv 0 σ H)(hsame:∀ i σ H,i≤n→Pv i σ H→af H0 H)
   (hs:∀ i x σ H,i < n→vs i x→Pv i σ H→g x σ H fun σ2 H2=>tb { D with nx:=Pv (i+1),ct:=Pv (i+1),bk:=D.nx } σ2 H2)(hd:∀ σ H,Pv n σ H→D.nx σ H):tq J g tb D σ H:=by
 refine⟨fun i m σ H=>m=n - i∧i≤n∧Pv i σ H,⟨n,by simp,Nat.zero_le _,h0⟩,?_⟩
 rintro i m σ H ⟨rfl,hi,p⟩
 have sm:=hsame i σ H hi p
 by_cases hlt:i < n
 · refine .inr ⟨S.go i H hlt sm,Pv (i+1),fun σ' H' p'=>⟨n - (i+1),by omega,rfl,hlt,p'⟩,fun x H' y=>?_⟩
   obtain⟨e,hv⟩:=S.yld i H x H' hlt sm y
   subst e
   exact hs i x σ _ hlt hv p
 · have e:i=n:=by omega
   subst e
   exact .inl ⟨S.stop H sm,hd σ H p⟩

/-! ### a cut between two statements -/
def vo (t u:TS):TS:=fun D σ H=>∃ Pv:St→Hp→Prop,t { D with nx:=Pv } σ H∧∀ σ' H',Pv σ' H'→u D σ' H'
theorem aj {X:Cx}{st:Stmt}{ck:List Stmt}{t u:TS}(h1:PS X st t)(h2:PSs X ck u):PSs X (st::ck) (vo t u):=by
 intro pins s σ H D I h
 obtain⟨Pv,h,k⟩:=h
 refine wpAny_execs_cons (thn (h1 s σ H { D with nx:=Pv } I h) fun f s1 q=>?_)
 cases f with
 | next =>
   obtain⟨σ',H',I',q⟩:=q
   exact h2 s1 σ' H' D I' (k _ _ q)
 | ret v=>exact q
 | brk=>exact q
 | cont=>exact q
theorem cut {t u:TS}{D:g9}{σ:St}{H:Hp}(Pv:St→Hp→Prop)(h:t { D with nx:=Pv } σ H)(k:∀ σ' H',Pv σ' H'→u D σ' H'):vo t u D σ H:=⟨Pv,h,k⟩

/-! ### what must be seen of a block's scope,by computation -/
def wN (N:List Str)(on:List (Str×NameKind))(sc:Scope)(N':List Str)(pk:List (Option Nat)):Bool :=
 (sc.kind==.function)&&(sc.names.all fun y=>!(y.2==.cell))&&(sc.names.all fun y=>!(y.2==.local)||(sc.names.lookup y.1==some .local)) &&
 (sc.names.all fun y=>!(y.2==.free)||(on.lookup y.1==some .cell)||(on.lookup y.1==some .free))&&(pk.length==N'.length) &&
 ((List.range pk.length).all fun i=>match pk[i]? with
   | some (some j)=>(match N'[i]? with | some x=>(N[j]?==some x)&&(sc.names.lookup x==some .free) | none=>false)
   | _=>true)
theorem cg.of {N:List Str}{env:Env}{sc:Scope}{N':List Str}{pk:List (Option Nat)}(h:wN N env.scope.names sc N' pk=true):cg N env sc N' pk:=by
 unfold wN at h
 simp only[Bool.and_eq_true] at h
 obtain⟨⟨⟨⟨⟨h1,h2⟩,h3⟩,h4⟩,h5⟩,h6⟩:=h
 refine⟨by simpa using h1,fun y hy e=>?_,fun y hy e=>?_,fun y hy e=>?_,by simpa using h5,fun i x hx j hj=>?_⟩
 · have:=List.all_eq_true.mp h2 y hy
   rw[e] at this
   exact absurd this (by decide)
 · have:=List.all_eq_true.mp h3 y hy
   rw[e] at this
   simpa using this
 · have:=List.all_eq_true.mp h4 y hy
   rw[e] at this
   simpa [Bool.or_eq_true] using this
 · have hi:i < pk.length:=(List.getElem?_eq_some_iff.mp hj).1
   have:=List.all_eq_true.mp h6 i (List.mem_range.mpr hi)
   rw[hj,hx] at this
   simpa [Bool.and_eq_true] using this
theorem vg {CX:CXT}{P:Program}{w:World}{K:PySem.W.Frag}{mg:Str→Option Value}{base:Heap}{N:List Str}{qual:Str}{scope:Scope}{f:Addr}{cd:Value}{A:Around}{outer:List Env}{s:Shared}{H:Hp}{E:XK}:(cu CX P w K mg base N qual scope f cd A outer s H E).K=K:=rfl
theorem wz {X:Cx}{N:List Str}{scope:Scope}{s:Shared}{H:Hp}{ex:List Addr}:(cxB X N scope s H ex).K=X.K:=rfl
theorem qO (N:List Str)(vs:List V):L2.start N vs=vs.map some++List.replicate (N.length - vs.length) none:=rfl
theorem vM (c:Nat):sgn c=.str ⟨#[c]⟩:=rfl
end L2

set_option Elab.async false
set_option linter.all false
set_option maxRecDepth 100000
set_option maxHeartbeats 8000000
namespace L2
open PySem PySem.Spec PyProof.Rows

/-! ### set(list of texts) -/
def iA (acc:List Str) (x:Str):List Str:=if x∈acc then acc else acc++[x]
def dZ (l:List Str):List Str:=l.foldl iA []
theorem kh (l:List Str) (x:Str):dZ (l++[x])=iA (dZ l) x:=by unfold dZ;rw[List.foldl_append];rfl
theorem qH (acc:List Str) (x:Str):(iA acc x).length≤acc.length+1:=by unfold iA;split<;>simp
theorem f7 (l:List Str):∀ i,(dZ (l.take i)).length≤i
 | 0=>by simp[dZ]
 | i+1=>by
   have ih:=f7 l i
   cases h:l[i]? with
   | none =>
     have:l.length≤i:=List.getElem?_eq_none_iff.mp h
     rw[List.take_of_length_le (by omega)]
     rw[List.take_of_length_le this] at ih
     omega
   | some x =>
     rw[List.take_succ,h]
     show(dZ (l.take i++[x])).length≤i+1
     rw[kh]
     have:=qH (dZ (l.take i)) x
     omega

section
variable {prog:Program}{w:World}
theorem rS {h:Heap}{S:Addr}{acc:List Str}{x:Str}(hs:h.SetOf (strKind prog w) S (fun k=>decide (k∈acc)||decide (k=x)) (if decide (x∈acc)=true then acc.length else acc.length+1)) :
   h.SetOf (strKind prog w) S (fun k=>decide (k∈iA acc x)) (iA acc x).length:=by
 refine SetOf_congr hs (fun k=>?_) ?_
 · unfold iA
   by_cases hx:x∈acc
   · rw[if_pos hx]
     by_cases hk:k=x
     · subst hk;simp[hx]
     · simp[hk]
   · rw[if_neg hx]
     rw[Bool.eq_iff_iff]
     simp
 · unfold iA
   by_cases hx:x∈acc
   · rw[if_pos hx,if_pos (by simpa using hx)]
   · rw[if_neg hx,if_neg (by simpa using hx),List.length_append];rfl

theorem sd {A:Around}{R:Result→Shared→Prop}{I S l:Addr}{items:Array Value}{ss:List Str}(hh:A.in1.handled=none)(hIl:l≠I)(hSI:S≠I)(hSl:S≠l)(hss:StrsAre items.toList ss)(hb:items.size+1 < scanBound) :
   ∀ (k i:Nat)(s:Shared),items.size - i=k→i≤items.size→s.heap.IsListIter I l i→s.heap.IsList l items→s.heap.SetOf (strKind prog w) S (fun x=>decide (x∈dZ (ss.take i))) (dZ (ss.take i)).length →
     (∀ h' tk,(∀ b o,b≠S→b≠I→s.heap.get? b=some o→h'.get? b=some o)→h'.SetOf (strKind prog w) S (fun x=>decide (x∈dZ ss)) (dZ ss).length→R (.ok (.ret .none)) { s with heap:=h',toks:=tk }) →
     codeAny (model prog w) A (.builtin "set.update.loop" ⟨[.ref S,.ref I],[]⟩) R s:=by
 have hlen:items.size=ss.length:=by rw[←hss.length];simp
 intro k
 induction k with
 | zero =>
   intro i s hk hi hit hl hS hR
   have e:i=items.size:=by omega
   subst e
   refine codeAny_builtin PyProof.Rows.F.entry_set_update_loop ?_
   rw[Around.under_plainId PyProof.Rows.F.plain_set_update_loop _]
   refine wpAny_bind (wpAny_pyNext_list_end hh hit hl (by simp) fun h' eb=>?_)
   rw[hlen,List.take_length] at hS
   refine wpAny_pure (hR h' s.toks (fun b o _ hb e=>eb b o hb e) ?_)
   obtain⟨o,es,ep,t,ho,ck⟩:=hS
   exact⟨o,es,ep,t,eb S o hSI ho,ck⟩
 | succ k ih =>
   intro i s hk hi hit hl hS hR
   have hlt:i < items.size:=by omega
   obtain⟨x,hx⟩:∃ x,ss[i]?=some x:=⟨ss[i]'(by omega),List.getElem?_eq_getElem (by omega)⟩
   obtain⟨t,ht⟩:∃ t,items[i]?=some (.str x t):=by
     obtain⟨u,hu,r⟩:=(gY hss).get (i:=i) (x:=V.str x) (by rw[List.getElem?_map,hx];rfl)
     obtain⟨t,rfl⟩:=r
     exact⟨t,by simpa using hu⟩
   refine codeAny_builtin PyProof.Rows.F.entry_set_update_loop ?_
   rw[Around.under_plainId PyProof.Rows.F.plain_set_update_loop _]
   refine wpAny_bind (wpAny_pyNext_list_item hit hl ht fun h' hit' sb=>?_)
   have hS':h'.SetOf (strKind prog w) S (fun x=>decide (x∈dZ (ss.take i))) (dZ (ss.take i)).length:=by
     obtain⟨o,es,ep,tb,ho,ck⟩:=hS
     exact⟨o,es,ep,tb,(sb.2 S hSI).trans ho,ck⟩
   show wpAny _ A.in1 (holding [Value.str x t] (setAdd S (.str x t)) >>= _) _ _ _
   refine wpAny_bind (wpAny_holding ?_)
   unfold setAdd
   refine wpAny_holding (wpAny_bind ((strKind prog w).pyHash (k:=x) (strKind_is _ _ _ _) ?_))
   have hroom:(dZ (ss.take i)).length+1 < scanBound:=by have:=f7 ss i;omega
   refine wpAny_setAddHashed_of (knd:=strKind prog w) (strKind_is _ _ _ _) rfl hS' hroom fun h2 hsb hS2=>?_
   have hS3:=rS hS2
   have et:dZ (ss.take (i+1))=iA (dZ (ss.take i)) x:=by rw[List.take_succ,hx];exact kh _ _
   rw[←et] at hS3
   refine wpAny_pure ⟨plainId_quiet PyProof.Rows.F.plain_set_update_loop _,ih (i+1) _ (by omega) hlt ?_ ?_ hS3 fun h3 tk kk hS4=>?_⟩
   · exact hit'.at fun o e=>(hsb.2 I (Ne.symm hSI)).trans e
   · exact hl.at fun o e=>(hsb.2 l (Ne.symm hSl)).trans ((sb.2 l hIl).trans e)
   · exact hR h3 tk (fun b o h1 h2' e=>kk b o h1 h2' ((hsb.2 b h1).trans ((sb.2 b h2').trans e))) hS4
end
end L2

set_option Elab.async false
set_option linter.all false
set_option maxRecDepth 100000
set_option maxHeartbeats 8000000
namespace L2
open PySem PySem.Spec PyProof.Rows
section
variable {prog:Program}{w:World}{A:Around}{E:Value→Shared→Prop}{s:Shared}
theorem pE {T newId initId:String}{Bi:Builtin}{args:List Value}{Q Q1:Value→Shared→Prop}(ft:TypeCalled T newId initId)(hct:checkTypeCall T ⟨args,[]⟩=pure ())(hI:entryFor table initId=some Bi)
   (hnew:codeAny (model prog w) A.in1 (.call (.builtin newId) ⟨.type T::args,[]⟩) (wants Q1 E) s)
   (hinit:∀ obj s1,Q1 obj s1→s1.TypeIs obj T∧∀ E':Value→Shared→Prop,wpAny (model prog w) A.in1.in1 (checkBuiltinCall initId ⟨obj::args,[]⟩) (fun _ s2=>s2=s1) E' s1)
   (hbody:∀ obj s1,Q1 obj s1→wpAny (model prog w) A.in1.in1 (Bi ⟨obj::args,[]⟩)
       (fun fin s'=>match fin with | .done f=>wants (fun r s2=>r=.none∧Q obj s2) E (.ok f) s' | .again c'=>c'.quiet=true∧codeAny (model prog w) A.in1 c' (wants (fun r s2=>r=.none∧Q obj s2) E) s')
       (fun e s'=>wants (fun r s2=>r=.none∧Q obj s2) E (.error e) s') s1):wpAny (model prog w) A (call (.type T) args) Q E s:=by
 have hmade:=ft.made;have hsub:=ft.sub;obtain⟨c,tl,hmro⟩:=ft.mro;have h1:=ft.notType;have h2:=ft.canCreate
 refine wpAny_call (codeAny_of_tree (show wpAny _ _ (callAny (.type T) _) _ _ _ from wpAny_pure ⟨Code.quiet_builtin _ (by decide +kernel),codeAny_builtin F.entry_type_call ?_⟩))
 rw[Around.under_plain (weight_type_call_type T args []) rfl]
 repeat (any_goals (first | assumption | wp_step))
 refine codeAny_mono hnew fun r s1 hr=>?_
 rcases r with e | fl
 · exact hr
 cases fl with
 | ret obj =>
   obtain⟨hT,hck⟩:=hinit _ _ hr
   have hli:=ft.init.lookup;have hbi:=ft.init.bind obj
   repeat (any_goals (first | assumption | wp_step))
   refine codeAny_mono (codeAny_call_builtin (R:=wants (fun r s2=>r=.none∧Q obj s2) E) ft.init.plain hI (wpAny_mono (hck _) (fun _ s2 e=>by subst e;exact hbody _ _ hr) fun _ _ h'=>h')) fun r2 s2 hr2=>?_
   rcases r2 with e | f2
   · exact hr2
   cases f2 with
   | ret r =>
     obtain⟨rfl,hq⟩:=hr2
     repeat (any_goals (first | assumption | wp_step))
   | _=>exact hr2.elim
 | _=>exact hr.elim

theorem rF {l:Addr}{items:Array Value}{ss:List Str}{Q:Value→Shared→Prop}(hh:A.handled=none)(hl:s.heap.IsList l items)(hss:StrsAre items.toList ss)(hb:items.size+1 < scanBound)
   (h:∀ h' tk,(∀ b o,s.heap.get? b=some o→h'.get? b=some o)→h'.SetOf (strKind prog w) s.heap.objs.size (fun x=>decide (x∈dZ ss)) (dZ ss).length→Q (.ref s.heap.objs.size) { s with heap:=h',toks:=tk }) :
   wpAny (model prog w) A (call (.type "set") [.ref l]) Q E s:=by
 refine pE (Q1:=fun obj s1=>∃ led:Bool,obj=.ref s.heap.objs.size∧s1={ s with heap:=s.heap.push { cls:=.type "set",dict:=none,data:=.set #[] 0 (.fresh 0 0 led) } }) F.called_set (F.typeCall_set_1 _) F.entry_set_init (code_set_new_1 (.ref l) fun led=>⟨led,rfl,rfl⟩) ?_ ?_
 · rintro obj s1 ⟨led,rfl,rfl⟩
   have hT:Shared.TypeIs { s with heap:=s.heap.push { cls:=.type "set",dict:=none,data:=.set #[] 0 (.fresh 0 0 led) } } (.ref s.heap.objs.size) "set":=⟨_,Heap.get?_push_size _ rfl,rfl⟩
   exact⟨hT,fun E'=>check_set_init_1 hT rfl⟩
 · rintro obj s1 ⟨led,rfl,rfl⟩
   have hlt:l < s.heap.objs.size:=by obtain⟨_,e,_⟩:=hl;exact Heap.lt_size e
   obtain⟨⟨oc,od,odt,osl⟩,hol,hcl,nl,hdl⟩:=id hl
   simp only at hcl hdl
   subst hcl;subst hdl
   have hol':(s.heap.push { cls:=.type "set",dict:=none,data:=.set #[] 0 (.fresh 0 0 led) }).get? l=some { cls:=.type "list",dict:=od,data:=.seq items nl,slots:=osl }:=Heap.get?_push_of_some _ hol
   have hS:(s.heap.push { cls:=.type "set",dict:=none,data:=.set #[] 0 (.fresh 0 0 led) }).get? s.heap.objs.size=some { cls:=.type "set",dict:=none,data:=.set #[] 0 (.fresh 0 0 led) }:=Heap.get?_push_size _ rfl
   have hl1:(s.heap.push { cls:=.type "set",dict:=none,data:=.set #[] 0 (.fresh 0 0 led) }).IsList l items:=⟨_,hol',rfl,nl,rfl⟩
   have hsls:=F.sub_list_set;have hslf:=F.sub_list_frozenset
   have hne:(Value.type "list"==Value.type "dict")=false:=by decide
   unfold Builtin.«set.__init__» noKeywords Builtin.Frozenset.updateFrom
   generalize hPI:pyIter=PI
   wp_walk
   subst hPI
   refine wpAny_pyIter_list hl1 (wpAny_bind (wpAny_runValue ?_))
   have hz:(s.heap.push { cls:=.type "set",dict:=none,data:=.set #[] 0 (.fresh 0 0 led) }).objs.size=s.heap.objs.size+1:=Heap.size_push ..
   refine sd (l:=l) (items:=items) (ss:=ss) (by simp[hh]) (by rw[hz];exact Nat.ne_of_lt (Nat.lt_succ_of_lt hlt)) (by rw[hz];exact Nat.ne_of_lt (Nat.lt_succ_self _)) (Nat.ne_of_gt hlt) hss hb (items.size - 0) 0 _ (by omega) (Nat.zero_le _) ⟨_,Heap.get?_push_size _ rfl,rfl,rfl⟩ (hl1.push _) ?_ ?_
   · exact SetOf_congr ((setObjOf_fresh (knd:=strKind prog w) led).setOf (Heap.get?_push_of_some _ hS) (by unfold scanBound;omega)) (fun _=>rfl) rfl
   · intro h' tk kk hS'
     refine wpAny_pure (wpAny_pure ⟨rfl,h h' tk (fun b o e=>?_) hS'⟩)
     have hlb:=Heap.lt_size e
     exact kk b o (Nat.ne_of_lt hlb) (by rw[hz];exact Nat.ne_of_lt (Nat.lt_succ_of_lt hlb)) (Heap.get?_push_of_some _ (Heap.get?_push_of_some _ e))
end
end L2

set_option Elab.async false
set_option linter.all false
set_option maxRecDepth 100000
set_option maxHeartbeats 8000000
namespace L2
open PySem PySem.Spec PyProof.Rows
section
variable {prog:Program}{w:World}{A:Around}{E:Value→Shared→Prop}{s:Shared}
theorem vV {a:Addr}{Q:Option Obj→Shared→Prop}(h:Q (s.heap.get? a) s):wpAny (model prog w) A (loadIfAlive a) Q E s:=fun Γ p _=>by
 show Sem.wp _ _ (.loadIfAlive a .pure) _ _ _ _
 rw[Sem.wp_loadIfAlive]
 exact h
abbrev lF (h:Heap)(z TI TO T0:Addr)(f1:Bool):Prop :=
 h.get? z=some { cls:=.type "zip",dict:=none,data:=.fields #[rawInt T0,.bool f1,.bool false,.ref TI,.ref TO],slots:=#[] }
theorem oP {z TI TO T0:Addr}{f1:Bool}{Q:Bool→Shared→Prop}(hz:lF s.heap z TI TO T0 f1)(hT:∃ o,s.heap.get? T0=some o)
   (h:∀ h',lF h' z TI TO T0 true→(∀ b o,b≠z→s.heap.get? b=some o→h'.get? b=some o)→h'.objs.size=s.heap.objs.size→Q false { s with heap:=h' }) :
   wpAny (model prog w) A (Builtin.SmallTypes.ownedTupleIsFree (.ref z)) Q E s:=by
 obtain⟨o,ho⟩:=hT
 unfold Builtin.SmallTypes.ownedTupleIsFree
 refine wpAny_bind (wpAny_field hz rfl (x:=rawInt T0) rfl ?_)
 show wpAny _ _ (loadIfAlive ((T0:Int)).toNat >>= _) _ _ _
 rw[Int.toNat_natCast]
 refine wpAny_bind (vV ?_)
 rw[ho]
 show wpAny _ _ (if(false:Bool)=true then _ else _) _ _ _
 rw[if_neg Bool.false_ne_true]
 refine wpAny_bind (wpAny_field hz rfl (x:=.bool f1) rfl ?_)
 cases f1 with
 | true=>exact wpAny_pure (h s.heap hz (fun _ _ _ e=>e) rfl)
 | false =>
   refine wpAny_bind (wpAny_setField_rec hz (by simp) fun h' hz' hs'=>wpAny_pure (h h' hz' (fun b o hb e=>hs'.extBut _ _ hb e) hs'.1))
end
end L2

set_option Elab.async false
set_option linter.all false
set_option maxRecDepth 100000
set_option maxHeartbeats 8000000
namespace L2
open PySem PySem.Spec PyProof.Rows
section
variable {prog:Program}{w:World}{A:Around}{E:Value→Shared→Prop}{s:Shared}
theorem pW {z TI TO T0 i1 i2 l1 l2:Addr}{f1:Bool}{k1 k2:Nat}{xs ys:Array Value}{x y:Value}{Q:Value→Shared→Prop}(D:ZipApart z TI TO i1 i2 l1 l2)
   (hz:lF s.heap z TI TO T0 f1)(hT:∃ o,s.heap.get? T0=some o)(hTI:IsPair s.heap TI (.ref i1) (.ref i2))
   (h1:s.heap.IsListIter i1 l1 k1)(h2:s.heap.IsListIter i2 l2 k2)(hl1:s.heap.IsList l1 xs)(hl2:s.heap.IsList l2 ys)(hx:xs[k1]?=some x)(hy:ys[k2]?=some y)
   (hQ:∀ h',lF h' z TI TO T0 true→h'.IsListIter i1 l1 (k1+1)→h'.IsListIter i2 l2 (k2+1)→IsPair h' s.heap.objs.size x y→h'.objs.size=s.heap.objs.size+1 →
     (∀ c o,c≠z→c≠i1→c≠i2→s.heap.get? c=some o→h'.get? c=some o)→Q (.ref s.heap.objs.size) { s with heap:=h' }) :
   wpAny (model prog w) A (Builtin.«zip.__next__» ⟨[.ref z],[]⟩) (fun fin s'=>∃ v,fin=.done (.ret v)∧Q v s') E s:=by
 show wpAny _ _ (field (.ref z) 2 >>= _) _ _ _
 refine wpAny_bind (wpAny_field hz rfl (x:=.bool false) rfl (show wpAny _ _ (field (.ref z) 3 >>= _) _ _ _ from wpAny_bind (wpAny_field hz rfl (x:=.ref TI) rfl (wpAny_bind (wpAny_seqItems hTI rfl ?_)))))
 show wpAny _ _ (Builtin.SmallTypes.ownedTupleIsFree (.ref z) >>= _) _ _ _
 refine wpAny_bind (oP hz hT fun ha hza ka hsa=>?_)
 simp only[Bool.false_eq_true,if_false,List.forIn_toArray,List.forIn_cons,List.forIn_nil]
 refine wpAny_bind (wpAny_bind (wpAny_bind (wpAny_holding ?_)))
 have ea:ha.objs.size=s.heap.objs.size:=hsa
 show wpAny _ _ (Builtin.SmallTypes.nextOf (.ref i1) >>= _) _ _ _
 refine wpAny_bind (wpAny_nextOf_list_item (h1.at fun o e=>ka _ o D.i1z e) (hl1.at fun o e=>ka _ o D.l1z e) hx fun hb hib sb=>wpAny_pure (wpAny_pure ?_))
 refine wpAny_bind (wpAny_bind (wpAny_holding ?_))
 show wpAny _ _ (Builtin.SmallTypes.nextOf (.ref i2) >>= _) _ _ _
 refine wpAny_bind (wpAny_nextOf_list_item ((h2.at fun o e=>ka _ o D.i2z e).extBut sb.extBut D.i12.symm) ((hl2.at fun o e=>ka _ o D.l2z e).extBut sb.extBut D.l2i1) hy fun hc hic sc=>wpAny_pure (wpAny_pure (wpAny_pure ?_)))
 refine wpAny_bind (wpAny_newTuple (wpAny_pure ⟨_,rfl,?_⟩) (by show 2≤sizeLine;rw[sizeLine_eq];decide))
 have ec:hc.objs.size=s.heap.objs.size:=by rw[sc.1,sb.1];exact ea
 have kc:∀ c o,c≠z→c≠i1→c≠i2→s.heap.get? c=some o→hc.get? c=some o:=fun c o c1 c2 c3 e=>sc.extBut _ _ c3 (sb.extBut _ _ c2 (ka c o c1 e))
 show Q (.ref hc.objs.size) { s with heap:=hc.push { cls:=.type "tuple",data:=.seq #[x,y] } }
 rw[ec]
 have up:∀ b o,hc.get? b=some o→(hc.push { cls:=.type "tuple",data:=.seq #[x,y] }).get? b=some o:=fun b o e=>Heap.get?_push_of_some _ e
 refine hQ _ (up _ _ (sc.extBut _ _ D.i2z.symm (sb.extBut _ _ D.i1z.symm hza))) ((hib.extBut sc.extBut D.i12).at fun o e=>up _ o e) (hic.at fun o e=>up _ o e) ?_ (by rw[Heap.size_push,ec]) fun c o c1 c2 c3 e=>up _ _ (kc c o c1 c2 c3 e)
 have:=Heap.get?_push_size hc (o:={ cls:=.type "tuple",data:=.seq #[x,y] }) rfl
 rwa [ec] at this
theorem rJ {z TI TO T0 i1 i2 l1 l2:Addr}{f1:Bool}{k1 k2:Nat}{xs ys:Array Value}{Q:Fin→Shared→Prop}(hh:A.handled=none)(D:ZipApart z TI TO i1 i2 l1 l2)
   (hz:lF s.heap z TI TO T0 f1)(hT:∃ o,s.heap.get? T0=some o)(hTI:IsPair s.heap TI (.ref i1) (.ref i2))
   (h1:s.heap.IsListIter i1 l1 k1)(hl1:s.heap.IsList l1 xs)(hx:xs[k1]?=none)
   (hE:∀ h' e,(∀ c o,c≠z→c≠i1→s.heap.get? c=some o→h'.get? c=some o)→(∃ o,h'.get? e=some o∧o.cls=.type "StopIteration")→E (.ref e) { s with heap:=h' }) :
   wpAny (model prog w) A (Builtin.«zip.__next__» ⟨[.ref z],[]⟩) Q E s:=by
 show wpAny _ _ (field (.ref z) 2 >>= _) _ _ _
 refine wpAny_bind (wpAny_field hz rfl (x:=.bool false) rfl (show wpAny _ _ (field (.ref z) 3 >>= _) _ _ _ from wpAny_bind (wpAny_field hz rfl (x:=.ref TI) rfl (wpAny_bind (wpAny_seqItems hTI rfl ?_)))))
 show wpAny _ _ (Builtin.SmallTypes.ownedTupleIsFree (.ref z) >>= _) _ _ _
 refine wpAny_bind (oP hz hT fun ha hza ka hsa=>?_)
 simp only[Bool.false_eq_true,if_false,List.forIn_toArray,List.forIn_cons,List.forIn_nil]
 refine wpAny_bind (wpAny_bind (wpAny_bind (wpAny_holding ?_)))
 show wpAny _ _ (Builtin.SmallTypes.nextOf (.ref i1) >>= _) _ _ _
 refine wpAny_bind (wpAny_nextOf_list_end hh (h1.at fun o e=>ka _ o D.i1z e) (hl1.at fun o e=>ka _ o D.l1z e) hx fun hb e kb he=>?_)
 exact hE hb e (fun c o c1 c2 x=>kb _ _ c2 (ka c o c1 x)) he
theorem nj {z TI TO T0 i1 i2 l1 l2:Addr}{f1:Bool}{k1 k2:Nat}{xs ys:Array Value}{x y:Value}{Q:Option Value→Shared→Prop}(D:ZipApart z TI TO i1 i2 l1 l2)
   (hz:lF s.heap z TI TO T0 f1)(hT:∃ o,s.heap.get? T0=some o)(hTI:IsPair s.heap TI (.ref i1) (.ref i2))
   (h1:s.heap.IsListIter i1 l1 k1)(h2:s.heap.IsListIter i2 l2 k2)(hl1:s.heap.IsList l1 xs)(hl2:s.heap.IsList l2 ys)(hx:xs[k1]?=some x)(hy:ys[k2]?=some y)
   (hQ:∀ h',lF h' z TI TO T0 true→h'.IsListIter i1 l1 (k1+1)→h'.IsListIter i2 l2 (k2+1)→IsPair h' s.heap.objs.size x y→h'.objs.size=s.heap.objs.size+1 →
     (∀ c o,c≠z→c≠i1→c≠i2→s.heap.get? c=some o→h'.get? c=some o)→Q (some (.ref s.heap.objs.size)) { s with heap:=h' }) :
   wpAny (model prog w) A (pyNext (.ref z)) Q E s:=by
 have hTy:s.TypeIs (.ref z) "zip":=⟨_,hz,rfl⟩
 unfold pyNext
 exact wpAny_bind (wpAny_attempt (wpAny_callSpecial?_slot (name:=Str.ofString "__next__") hTy F.slot_zip_next (wpAny_call_entry F.slot_zip_next hTy F.entry_zip_next
     (pW D hz hT hTI h1 h2 hl1 hl2 hx hy fun h' a1 a2 a3 a4 a5 a6=>wpAny_pure (hQ h' a1 a2 a3 a4 a5 a6)) (F.args_zip_next_1 _))))
theorem qj {z TI TO T0 i1 i2 l1 l2:Addr}{f1:Bool}{k1:Nat}{xs:Array Value}{Q:Option Value→Shared→Prop}(hh:A.handled=none)(D:ZipApart z TI TO i1 i2 l1 l2)
   (hz:lF s.heap z TI TO T0 f1)(hT:∃ o,s.heap.get? T0=some o)(hTI:IsPair s.heap TI (.ref i1) (.ref i2))(h1:s.heap.IsListIter i1 l1 k1)(hl1:s.heap.IsList l1 xs)(hx:xs[k1]?=none)
   (hQ:∀ h',(∀ c o,c≠z→c≠i1→s.heap.get? c=some o→h'.get? c=some o)→Q none { s with heap:=h' }):wpAny (model prog w) A (pyNext (.ref z)) Q E s:=by
 have hTy:s.TypeIs (.ref z) "zip":=⟨_,hz,rfl⟩
 unfold pyNext
 refine wpAny_bind (wpAny_attempt (wpAny_callSpecial?_slot (name:=Str.ofString "__next__") hTy F.slot_zip_next (wpAny_call_entry F.slot_zip_next hTy F.entry_zip_next
   (rJ (k2:=0) (ys:=#[]) hh D hz hT hTI h1 hl1 hx fun h' e hk he=>?_) (F.args_zip_next_1 _))))
 obtain⟨o,ho,hc⟩:=he
 exact wpAny_bind (wpAny_isInstance (T:="StopIteration") (b:=true) ⟨o,ho,hc⟩ isSubtype_stop (wpAny_pure (hQ _ hk)))
end
end L2

set_option Elab.async false
set_option linter.all false
set_option maxRecDepth 100000
set_option maxHeartbeats 8000000
namespace L2
open PySem PySem.Spec PyProof.Rows
theorem iB:typeLookup (.type "zip") "__getattr__"=pure none:=by rw[typeLookup_type,builtinLookup_eq_fast];kernel_rfl
theorem lw:typeLookup (.type "zip") "keys"=pure none:=by rw[typeLookup_type,builtinLookup_eq_fast];kernel_rfl
theorem gb:entryFor table "dict.update.loop"=some Builtin.«dict.update.loop»:=entryFor_of_tree (by kernel_rfl)
theorem dg:plainId "dict.update.loop"=true:=by decide +kernel
theorem nc:entryFor table "zip.__getattribute__"=some Builtin.«object.__getattribute__»:=entryFor_alias (id':="object.__getattribute__") (by kernel_rfl) (by decide +kernel) (by decide +kernel) (by kernel_rfl)
section
variable {prog:Program}{w:World}{A:Around}{E:Value→Shared→Prop}{s:Shared}
theorem n6 {z TI TO:Addr}{f0:Value}{Q:Option Value→Shared→Prop}(hh:A.handled=none)(hz:IsZip s.heap z TI TO f0)
   (h:∀ h' tk,(∀ b o,s.heap.get? b=some o→h'.get? b=some o)→Q none { s with heap:=h',toks:=tk }):wpAny (model prog w) A (getAttr? (.ref z) "keys") Q E s:=by
 have f1:=sub_AttributeError
 have f3:=F.slot_zip_getattribute.lookup
 have f4:=F.slot_zip_getattribute.bind (.ref z)
 have f5:=iB
 have f6:=lw
 obtain⟨hp,g,d,tk,os⟩:=s
 have hT:Shared.TypeIs ⟨hp,g,d,tk,os⟩ (.ref z) "zip":=⟨_,hz,rfl⟩
 unfold getAttr? getAttrBy? getAttrBy
 repeat (any_goals (first | assumption | wp_step))
 refine codeAny_call_builtin F.slot_zip_getattribute.plain nc (F.slot_zip_getattribute.check _ _ _ _ _ _ _ _ ⟨_,hz,rfl⟩ (F.args_zip_getattribute_2 _ _) ?_)
 unfold Builtin.«object.__getattribute__»
 repeat (any_goals (first | assumption | wp_step))
 refine wpAny_raiseAttrError (by simpa using hh) (fun h' tk' e hx=>?_) (attrMsg_fits (by decide +kernel) (by rw[sizeLine_eq];decide +kernel))
 obtain⟨t',u',he⟩:=hx.there
 show wpAny _ _ (getattributeRaised _ _ _ _ _ _ _) _ _ _
 unfold getattributeRaised
 repeat (any_goals (first | assumption | wp_step))
 exact h h' tk' hx.keeps
theorem nN {T:Addr}{x y:Value}{Q:List Value→Shared→Prop}(hT:IsPair s.heap T x y)(h:Q [x,y] s):wpAny (model prog w) A (Builtin.Dict.pairItems (.ref T)) Q E s:=by
 unfold Builtin.Dict.pairItems
 refine wpAny_bind (wpAny_typeOf (T:="tuple") ⟨_,hT,rfl⟩ ?_)
 rw[if_pos (by decide)]
 exact wpAny_bind (wpAny_seqItems hT rfl (wpAny_pure h))

def i6 (h:Heap)(z TI TO:Addr):Prop:=IsZip h z TI TO .none∨∃ T0 f1,lF h z TI TO T0 f1∧(∃ o,h.get? T0=some o)∧T0≠z
theorem t7 {z TI TO i1 i2 l1 l2:Addr}{k1 k2:Nat}{xs ys:Array Value}{x y:Value}{Q:Option Value→Shared→Prop}(D:ZipApart z TI TO i1 i2 l1 l2)
   (hz:i6 s.heap z TI TO)(hTI:IsPair s.heap TI (.ref i1) (.ref i2))(hTO:∃ a b,IsPair s.heap TO a b)
   (h1:s.heap.IsListIter i1 l1 k1)(h2:s.heap.IsListIter i2 l2 k2)(hl1:s.heap.IsList l1 xs)(hl2:s.heap.IsList l2 ys)(hx:xs[k1]?=some x)(hy:ys[k2]?=some y)
   (hQ:∀ h' T,i6 h' z TI TO→(∃ a b,IsPair h' TO a b)→h'.IsListIter i1 l1 (k1+1)→h'.IsListIter i2 l2 (k2+1)→IsPair h' T x y →
     (∀ c o,c≠z→c≠TO→c≠i1→c≠i2→s.heap.get? c=some o→h'.get? c=some o)→s.heap.objs.size≤T→Q (some (.ref T)) { s with heap:=h' }) :
   wpAny (model prog w) A (pyNext (.ref z)) Q E s:=by
 obtain⟨a,b,hTO⟩:=hTO
 rcases hz with hz | ⟨T0,f1,hz,hT0,hne⟩
 · refine wpAny_pyNext_zip_item D hz hTI hTO h1 h2 hl1 hl2 hx hy fun h' a1 a2 a3 a4 a5 a6 a7=>?_
   exact hQ h' _ (.inr ⟨_,_,a1,⟨_,a5⟩,Nat.ne_of_gt (Heap.lt_size hz)⟩) ⟨_,_,a2⟩ a3 a4 a5 a7 (Nat.le_refl _)
 · refine nj D hz hT0 hTI h1 h2 hl1 hl2 hx hy fun h' a1 a2 a3 a4 a5 a6=>?_
   have hTO':IsPair h' TO a b:=a6 _ _ D.TOz D.TOi1 D.TOi2 hTO
   have hT0':∃ o,h'.get? T0=some o:=by
     obtain⟨o,ho⟩:=hT0
     by_cases e1:T0=i1
     · subst e1;obtain⟨o',e',_⟩:=a2;exact⟨o',e'⟩
     · by_cases e2:T0=i2
       · subst e2;obtain⟨o',e',_⟩:=a3;exact⟨o',e'⟩
       · exact⟨o,a6 _ _ hne e1 e2 ho⟩
   exact hQ h' _ (.inr ⟨_,_,a1,hT0',hne⟩) ⟨_,_,hTO'⟩ a2 a3 a4 (fun c o c1 _ c3 c4 e=>a6 c o c1 c3 c4 e) (Nat.le_refl _)
theorem vw {z TI TO i1 i2 l1 l2:Addr}{k1 k2:Nat}{xs ys:Array Value}{Q:Option Value→Shared→Prop}(hh:A.handled=none)(D:ZipApart z TI TO i1 i2 l1 l2)
   (hz:i6 s.heap z TI TO)(hTI:IsPair s.heap TI (.ref i1) (.ref i2))(hTO:∃ a b,IsPair s.heap TO a b)
   (h1:s.heap.IsListIter i1 l1 k1)(h2:s.heap.IsListIter i2 l2 k2)(hl1:s.heap.IsList l1 xs)(hl2:s.heap.IsList l2 ys)(hx:xs[k1]?=none)
   (hQ:∀ h',(∀ c o,c≠z→c≠TO→c≠i1→c≠i2→s.heap.get? c=some o→h'.get? c=some o)→Q none { s with heap:=h' }):wpAny (model prog w) A (pyNext (.ref z)) Q E s:=by
 obtain⟨a,b,hTO⟩:=hTO
 rcases hz with hz | ⟨T0,f1,hz,hT0,hne⟩
 · exact wpAny_pyNext_zip_end hh D hz hTI hTO h1 h2 hl1 hl2 (.inl hx) hQ
 · exact qj hh D hz hT0 hTI h1 hl1 hx fun h' k=>hQ h' fun c o c1 _ c3 _ e=>k c o c1 c3 e
theorem i6.keep {h h':Heap}{z TI TO d:Addr}(hz:i6 h z TI TO)(hd:d≠z)(hs:Heap.SameBut d h h')(hde:∃ o,h'.get? d=some o):i6 h' z TI TO:=by
 rcases hz with hz | ⟨T0,f1,hz,⟨o,ho⟩,hne⟩
 · exact .inl (hs.extBut _ _ (Ne.symm hd) hz)
 · refine .inr ⟨T0,f1,hs.extBut _ _ (Ne.symm hd) hz,?_,hne⟩
   by_cases e:T0=d
   · subst e;exact hde
   · exact⟨o,hs.extBut _ _ e ho⟩
end
end L2

set_option Elab.async false
set_option linter.all false
set_option maxRecDepth 100000
set_option maxHeartbeats 8000000
namespace L2
open PySem PySem.Spec PyProof.Rows
section
variable {prog:Program}{w:World}{κ:Type} [DecidableEq κ]{knd:KeyKind prog w κ}
theorem tJ {A:Around}{R:Result→Shared→Prop}{d z TI TO i1 i2 l1 l2:Addr}{xs ys:Array Value}{ks:List κ}(hh:A.in1.handled=none)(D:ZipApart z TI TO i1 i2 l1 l2)(hdz:d≠z)(hdTI:d≠TI)(hdTO:d≠TO)(hd1:d≠i1)(hd2:d≠i2)(hdl1:d≠l1)(hdl2:d≠l2)
   (hks:∀ (i:Nat) x,xs[i]?=some x→∃ k,ks[i]?=some k∧knd.is k x=true)(hxy:xs.size=ys.size)(hkl:ks.length=xs.size)(hsz:xs.size≤1000) :
   ∀ (n i:Nat)(s:Shared),xs.size - i=n→i≤xs.size→i6 s.heap z TI TO→IsPair s.heap TI (.ref i1) (.ref i2)→(∃ a b,IsPair s.heap TO a b)→s.heap.IsListIter i1 l1 i→s.heap.IsListIter i2 l2 i→s.heap.IsList l1 xs→s.heap.IsList l2 ys →
     (∃ kvs,kvs.length≤i∧s.heap.DictOf knd d kvs∧kvs=merged [] ((ks.zip ys.toList).take i)) →
     (∀ h' tk,(∀ c o,c≠d→c≠z→c≠TO→c≠i1→c≠i2→s.heap.get? c=some o→h'.get? c=some o)→h'.DictOf knd d (merged [] (ks.zip ys.toList))→R (.ok (.ret .none)) { s with heap:=h',toks:=tk }) →
     codeAny (model prog w) A (.builtin "dict.update.loop" ⟨[.ref d,.ref z,rawInt i,.none],[]⟩) R s:=by
 intro n
 induction n with
 | zero =>
   intro i s hn hi hz hTI hTO h1 h2 hl1 hl2 hD hR
   have e:i=xs.size:=by omega
   refine codeAny_builtin gb ?_
   rw[Around.under_plainId dg _]
   show wpAny _ A.in1 (pyNext (.ref z) >>= _) _ _ s
   refine wpAny_bind (vw hh D hz hTI hTO h1 h2 hl1 hl2 (by rw[e];simp) fun h' kk=>?_)
   obtain⟨kvs,hkl',hdd,rfl⟩:=hD
   have et:(ks.zip ys.toList).take i=ks.zip ys.toList:=List.take_of_length_le (by rw[List.length_zip,hkl,e];exact Nat.min_le_left _ _)
   rw[et] at hdd
   refine wpAny_bind (wpAny_pure (wpAny_pure (hR h' s.toks (fun c o _ c1 c2 c3 c4 e=>kk c o c1 c2 c3 c4 e) ?_)))
   obtain⟨o,es,ep,ho,ck⟩:=hdd
   exact⟨o,es,ep,kk _ _ hdz hdTO hd1 hd2 ho,ck⟩
 | succ n ih =>
   intro i s hn hi hz hTI hTO h1 h2 hl1 hl2 hD hR
   have hlt:i < xs.size:=by omega
   have hlt2:i < ys.size:=by omega
   refine codeAny_builtin gb ?_
   rw[Around.under_plainId dg _]
   show wpAny _ A.in1 (pyNext (.ref z) >>= _) _ _ s
   refine wpAny_bind (t7 D hz hTI hTO h1 h2 hl1 hl2 (Array.getElem?_eq_getElem hlt) (Array.getElem?_eq_getElem hlt2) fun h' T a1 a2 a3 a4 a5 a6 a7=>?_)
   obtain⟨k,hk,hkis⟩:=hks i _ (Array.getElem?_eq_getElem hlt)
   obtain⟨kvs,hkl',hdd,ekv⟩:=hD
   have hdd':h'.DictOf knd d kvs:=by
     obtain⟨o,es,ep,ho,ck⟩:=hdd
     exact⟨o,es,ep,a6 _ _ hdz hdTO hd1 hd2 ho,ck⟩
   refine wpAny_bind (wpAny_holding (wpAny_bind (wpAny_tryCatch (nN a5 ?_))))
   refine wpAny_holding (wpAny_dictSet_pairs hkis hdd' (fun h2' hdd2 sb=>?_) (by rw[sizeLine_eq];omega))
   have hde:∃ o,h2'.get? d=some o:=by obtain⟨o,es,ep,ho,_⟩:=hdd2;exact⟨o,ho⟩
   have up:∀ b o,b≠d→h'.get? b=some o→h2'.get? b=some o:=fun b o hb e=>sb.extBut _ _ hb e
   have es:(ks.zip ys.toList).take (i+1)=(ks.zip ys.toList).take i++[(k,ys[i])]:=by
     have hzi:(ks.zip ys.toList)[i]?=some (k,ys[i]):=List.getElem?_zip_eq_some.mpr ⟨hk,by simp[hlt2]⟩
     rw[List.take_succ,hzi]
     rfl
   have hst:(stored kvs k ys[i]).length≤kvs.length+1:=by
     unfold stored
     split
     · rw[List.length_map];omega
     · rw[List.length_append];simp
   refine wpAny_pure ⟨plainId_quiet dg _,?_⟩
   have ei:(i:Int)+1=((i+1:Nat):Int):=by omega
   show codeAny (model prog w) A (.builtin "dict.update.loop" ⟨[.ref d,.ref z,rawInt ((i:Int)+1),.none],[]⟩) R _
   rw[ei]
   refine ih (i+1) _ (by omega) hlt (a1.keep hdz sb hde) (up _ _ (Ne.symm hdTI) (a6 _ _ D.TIz D.TITO D.TIi1 D.TIi2 hTI)) ?_ (a3.at fun o e=>up _ o (Ne.symm hd1) e) (a4.at fun o e=>up _ o (Ne.symm hd2) e) (hl1.at fun o e=>up _ o (Ne.symm hdl1) (a6 _ o D.l1z D.l1TO D.l1i1 D.l1i2 e))
     (hl2.at fun o e=>up _ o (Ne.symm hdl2) (a6 _ o D.l2z D.l2TO D.l2i1 D.l2i2 e)) ⟨_,by omega,hdd2,?_⟩ fun h3 tk kk hd3=>?_
   · obtain⟨a,b,e⟩:=a2
     exact⟨a,b,up _ _ (Ne.symm hdTO) e⟩
   · rw[es,ekv]
     unfold merged
     rw[List.foldl_append]
     rfl
   · exact hR h3 tk (fun c o c0 c1 c2 c3 c4 e=>kk c o c0 c1 c2 c3 c4 (up _ _ c0 (a6 c o c1 c2 c3 c4 e))) hd3
theorem sw {A:Around}{E:Value→Shared→Prop}{s:Shared}{Q:Value→Shared→Prop}{z TI TO i1 i2 l1 l2:Addr}{xs ys:Array Value}{ks:List κ}(hh:A.handled=none)(D:ZipApart z TI TO i1 i2 l1 l2)(hz:IsZip s.heap z TI TO .none)
   (hTI:IsPair s.heap TI (.ref i1) (.ref i2))(hTO:∃ a b,IsPair s.heap TO a b)(h1:s.heap.IsListIter i1 l1 0)(h2:s.heap.IsListIter i2 l2 0)(hl1:s.heap.IsList l1 xs)(hl2:s.heap.IsList l2 ys)
   (hks:∀ (i:Nat) x,xs[i]?=some x→∃ k,ks[i]?=some k∧knd.is k x=true)(hxy:xs.size=ys.size)(hkl:ks.length=xs.size)(hsz:xs.size≤1000)
   (h:∀ h' tk,(∀ c o,c≠z→c≠TO→c≠i1→c≠i2→s.heap.get? c=some o→h'.get? c=some o)→h'.DictOf knd s.heap.objs.size (merged [] (ks.zip ys.toList))→Q (.ref s.heap.objs.size) { s with heap:=h',toks:=tk }) :
   wpAny (model prog w) A (call (.type "dict") [.ref z]) Q E s:=by
 refine callType_codes (Q₁:=fun obj s₁=>obj=.ref s.heap.objs.size∧s₁={ s with heap:=s.heap.push { cls:=.type "dict",data:=.dict #[] } }) F.kt_called_dict (F.kt_typeCall_dict_1 _) F.entry_dict_init (kt_code_dict_new _ ⟨rfl,rfl⟩) ?_
 rintro obj s1 ⟨rfl,rfl⟩
 have hnew:(s.heap.push { cls:=.type "dict",data:=.dict #[] }).DictOf knd s.heap.objs.size []:=Heap.DictOf.new s.heap
 have up:∀ b o,s.heap.get? b=some o→(s.heap.push { cls:=.type "dict",data:=.dict #[] }).get? b=some o:=fun b o e=>Heap.get?_push_of_some _ e
 have lt:∀ {b o},s.heap.get? b=some o→s.heap.objs.size≠b:=fun e=>Nat.ne_of_gt (Heap.lt_size e)
 refine⟨hnew.typeIs,F.args_dict_init_2 _ _,?_⟩
 unfold Builtin.«dict.__init__»
 refine wpAny_bind ?_
 unfold Builtin.Dict.selfAndRest
 refine wpAny_bind (wpAny_notOrdered_dict hnew.typeIs (show wpAny _ _ (pure (s.heap.objs.size,[Value.ref z])) _ _ _ from wpAny_pure ?_))
 show wpAny _ _ (Builtin.Dict.updateFrom "dict.__init__" s.heap.objs.size (.ref z) [] .none) _ _ _
 unfold Builtin.Dict.updateFrom
 refine wpAny_bind (wpAny_typeOf (T:="zip") ⟨_,up _ _ hz,rfl⟩ ?_)
 rw[if_pos (by decide)]
 refine wpAny_bind (n6 (by simpa using hh) (up _ _ hz) fun h' tk kk=>?_)
 have kz:IsZip h' z TI TO .none:=kk _ _ (up _ _ hz)
 rw[if_pos (by rfl)]
 refine wpAny_bind (wpAny_rule (wpAny_bind (wpAny_pyIter_zip kz (wpAny_pure ⟨plainId_quiet dg _,?_⟩))))
 obtain⟨a,b,hTO⟩:=hTO
 have e1:=h1;have e2:=h2;have e3:=hl1;have e4:=hl2
 obtain⟨o1,ho1,_⟩:=e1
 obtain⟨o2,ho2,_⟩:=e2
 obtain⟨o3,ho3,_⟩:=e3
 obtain⟨o4,ho4,_⟩:=e4
 refine tJ (A:=A.in1) (knd:=knd) (ks:=ks) (by simpa using hh) D (lt hz) (lt hTI) (lt hTO) (lt ho1) (lt ho2) (lt ho3) (lt ho4) hks hxy hkl hsz (xs.size - 0) 0 _ (by omega) (Nat.zero_le _) (.inl kz) (kk _ _ (up _ _ hTI)) ⟨a,b,kk _ _ (up _ _ hTO)⟩
   (h1.at fun o e=>kk _ o (up _ o e)) (h2.at fun o e=>kk _ o (up _ o e)) (hl1.at fun o e=>kk _ o (up _ o e)) (hl2.at fun o e=>kk _ o (up _ o e)) ⟨[],Nat.le_refl _,?_,rfl⟩ fun h3 tk3 k3 hd3=>?_
 · obtain⟨o,es,ep,ho,ck⟩:=hnew
   exact⟨o,es,ep,kk _ _ ho,ck⟩
 · exact⟨rfl,h h3 tk3 (fun c o c1 c2 c3 c4 e=>k3 c o (Ne.symm (lt e)) c1 c2 c3 c4 (kk _ _ (up _ _ e))) hd3⟩
end
end L2

set_option Elab.async false
set_option linter.all false
set_option maxRecDepth 100000
set_option maxHeartbeats 8000000
namespace L2
open PySem PySem.Spec PyProof.Rows
/-! ### a set of texts -/
def vH (P:Program)(w:World)(p:Addr) (n:Nat):HO:=.ext fun h=>∃ S,h.SetOf (strKind P w) p S n
theorem SetOf.at_ {P:Program}{w:World}{h1 h2:Heap}{p:Addr}{n:Nat}(x:∃ S,h1.SetOf (strKind P w) p S n)(k:∀ o,h1.get? p=some o→h2.get? p=some o):∃ S,h2.SetOf (strKind P w) p S n:=by
 obtain⟨S,o,es,ep,t,ho,r⟩:=x
 exact⟨S,o,es,ep,t,k _ ho,r⟩
section
variable {X:Cx}
theorem rz (hc:X.calm=true):cv X (.type "set") (fun xs H Q=>∃ (a:Addr)(ss:List Str),xs=[.ref a]∧SqL X.K H a (ss.map V.str)∧ss.length≤1000∧∀ p,H p=none→Q (.ref p) (upd H p (vH X.prog X.w p (dZ ss).length))):=by
 intro pins s σ H xs us Q I r h
 obtain⟨a,ss,rfl,ha,hn,q⟩:=h
 obtain⟨u,rfl,ru⟩:=dW r
 cases ru
 obtain⟨its,rv,pl,_⟩:=I.list ha
 have hl:=rv.length
 rw[List.length_map] at hl
 refine rF (I.ok.hd hc) pl.isList (by simpa using ge rv) (by rw[List.size_toArray];unfold scanBound;omega) fun h' tk kk hS=>?_
 have he:∃ o,h'.get? s.heap.objs.size=some o:=by obtain⟨o,_,_,_,e,_⟩:=hS;exact⟨o,e⟩
 exact⟨.ref s.heap.objs.size,_,I.laid (o:=vH X.prog X.w s.heap.objs.size (dZ ss).length) kk (Nat.le_refl _) ⟨⟨_,hS⟩,he,fun h1 h2 x k=>SetOf.at_ x k⟩,rfl,q _ (I.hok.fresh (Nat.le_refl _))⟩
theorem qo:cv X (.builtin "len") (fun xs H Q=>∃ p n,xs=[V.ref p]∧H p=some (vH X.prog X.w p n)∧Q (.int (n:Nat)) H):=by
 intro pins s σ H xs us Q I r h
 obtain⟨p,n,rfl,hp,q⟩:=h
 obtain⟨u,rfl,ru⟩:=dW r
 cases ru
 obtain⟨⟨S,o,es,ep,t,ho,hex,hd,_,_,hb,hf,hn⟩,_⟩:=I.hok p _ hp
 have hfit:(es.size:Int) < 2 ^ 63:=by
   unfold scanBound at hb
   omega
 refine call_len_set ho hex hd hf hfit ?_
 rw[hn]
 exact⟨.int n,H,I.tok _,⟨_,rfl⟩,q⟩

/-! ### dict(zip(a,b)) -/
def b6 (ks:List Str)(vs:List V):List (Key×V):=(ks.map fun k=>(Sum.inr k:Key)).zip vs
theorem rY:∀ {ks:List Key}{vs:List V}{us:List Value},Vals vs us→KV (ks.zip vs) (ks.zip us)
 | [],_,_,_=>by simp;exact .nil
 | _::_,_,_,.nil=>by simp;exact .nil
 | k::ks,_,_,.cons r t=>by
   rw[List.zip_cons_cons,List.zip_cons_cons]
   exact .cons ⟨rfl,r⟩ (rY t)
def mh (K:PySem.W.Frag)(ta:TA):TE:=fun σ H Q=>ta σ H fun xs H1=>∃ (l1 l2:Addr)(ks:List Str)(vs:List V),xs=[.ref l1,.ref l2]∧SqL K H1 l1 (ks.map V.str)∧SqL K H1 l2 vs∧ks.length=vs.length∧ks.length≤1000 ∧
 ∀ p,H1 p=none→Q (.ref p) (upd H1 p (.dK (cE [] (b6 ks vs))))
theorem jj {a b:Expr}{ta:TA}{p pos p' pos':Pos}(hc:X.calm=true)(hgd:Gl X "dict")(hmd:X.mg "dict"=none)(hgz:Gl X "zip")(hmz:X.mg "zip"=none)(ha:PA X [a,b] ta)
   (hs:starEach [a,b] X.env=(false,eval a X.env)::starEach [b] X.env:=by rfl)(hpl:(backTo pos' (starEach [b] X.env)).any (·.1)=false:=by rfl)
   (hs2:starEach [.Call (.Name "zip" p') [a,b] [] pos'] X.env=(false,eval (.Call (.Name "zip" p') [a,b] [] pos') X.env)::starEach [] X.env:=by rfl) :
   PE X (.Call (.Name "dict" p) [.Call (.Name "zip" p') [a,b] [] pos'] [] pos) (mh X.K ta):=by
 intro pins s σ H Q I h
 refine wpAny_Call_Name_kw (gm I hgd hmd (u:=.type "dict") (by decide +kernel) ?_)
 refine PyProof.Rows.callWith_type1 ?_ hs2 rfl
 rw[hs2]
 show wpAny _ _ (spliced ((false,eval (.Call (.Name "zip" p') [a,b] [] pos') X.env)::backTo pos [])) _ _ s
 refine Calls.spliced_cons ?_
 refine wpAny_Call_Name_kw (gm I hgz hmz (u:=.type "zip") (by decide +kernel) ?_)
 refine PyProof.Rows.callWith_type1 (thn (ha pos' s σ H _ I h) fun us s1 ⟨xs,H1,I1,r1,q1⟩=>?_) hs hpl
 obtain⟨l1,l2,ks,vs,rfl,h1,h2,hkv,hk,q⟩:=q1
 obtain⟨u1,u2,rfl,e1,e2⟩:=r1.two
 cases e1
 cases e2
 obtain⟨i1,v1,p1,z1⟩:=I1.list h1
 obtain⟨i2,v2,p2,z2⟩:=I1.list h2
 have n1:=v1.length
 have n2:=v2.length
 rw[List.length_map] at n1
 have lt1:l1 < s1.heap.objs.size:=by obtain⟨_,_,e,_⟩:=p1;exact Heap.lt_size e
 have lt2:l2 < s1.heap.objs.size:=by obtain⟨_,_,e,_⟩:=p2;exact Heap.lt_size e
 refine call_zip_2 p1.isList p2.isList fun h' a1 a2 a3 a4 a5 a6 kk=>?_
 refine Calls.spliced_nil ?_
 have I2:Inv X pins σ H1 { s1 with heap:=h' }:=I1.kept (t':=s1.toks) kk
 have hfr:H1 h'.objs.size=none:=I2.hok.fresh (Nat.le_refl _)
 refine sw (s:={ s1 with heap:=h' }) (knd:=bE X.prog X.w) (ks:=ks.map fun k=>(Sum.inr k:Key)) (I1.ok.hd hc) (zipApart_new lt1 lt2) a1 a2 ⟨_,_,a3⟩ a4 a5 (p1.isList.at fun o e=>kk _ o e) (p2.isList.at fun o e=>kk _ o e) ?_ (by simp;omega) (by simp;omega) (by simp;omega) fun h3 tk k3 hd3=>?_
 · intro i x hx
   have hx':i1[i]?=some x:=by simpa using hx
   have hi:i < ks.length:=by rw[n1];exact(List.getElem?_eq_some_iff.mp hx').1
   obtain⟨u,hu,ru⟩:=v1.get (i:=i) (x:=V.str ks[i]) (by rw[List.getElem?_map,List.getElem?_eq_getElem hi];rfl)
   rw[hx'] at hu
   cases hu
   obtain⟨t,rfl⟩:=ru
   exact⟨Sum.inr ks[i],by rw[List.getElem?_map,List.getElem?_eq_getElem hi];rfl,iu _ _ _ _⟩
 · have he:∃ o,h3.get? h'.objs.size=some o:=by obtain⟨o,_,_,e,_⟩:=hd3;exact⟨o,e⟩
   have big:sysModules < h'.objs.size:=I2.big
   have rel:KV (cE [] (b6 ks vs)) (merged [] ((ks.map fun k=>(Sum.inr k:Key)).zip i2.toArray.toList)):=KV.merge (rY (by simpa using v2)) .nil
   have hz:(cE [] (b6 ks vs)).length≤sizeLine:=by
     have:=d9 (b6 ks vs) []
     have l:(b6 ks vs).length≤ks.length:=by unfold b6;rw[List.length_zip,List.length_map];exact Nat.min_le_left _ _
     rw[List.length_nil] at this
     rw[sizeLine_eq]
     omega
   have kall:∀ b o,s1.heap.get? b=some o→h3.get? b=some o:=fun b o e=>by
     have hlt:=Heap.lt_size e
     exact k3 b o (Nat.ne_of_lt (Nat.lt_of_lt_of_le hlt (Nat.le_add_right _ _))) (Nat.ne_of_lt (Nat.lt_of_lt_of_le hlt (Nat.le_add_right _ _))) (Nat.ne_of_lt hlt) (Nat.ne_of_lt (Nat.lt_of_lt_of_le hlt (Nat.le_add_right _ _))) (kk b o e)
   have hsz:s1.heap.objs.size≤h'.objs.size:=by rw[a6];omega
   have I3:=I1.laid (a:=h'.objs.size) (o:=.dK (cE [] (b6 ks vs))) (h':=h3) (t':=tk) kall hsz (nH hz (beq_eq_false_iff_ne.mpr (Ne.symm (Nat.ne_of_lt big))) rel hd3)
   exact⟨.ref h'.objs.size,_,I3,rfl,q _ hfr⟩
end
end L2

set_option Elab.async false
set_option linter.all false
set_option maxRecDepth 100000
set_option maxHeartbeats 8000000
namespace L2
open PySem PySem.Spec PyProof.Rows
/-! ### texts in order -/
def leS (a b:Str):Prop:=ltCps b.cps.toList a.cps.toList=false
theorem lQ {a b:Str}:leS a b↔¬b.cps.toList < a.cps.toList:=by unfold leS;rw[ltCps_eq];simp
theorem mI {a b:Str}(h1:leS a b)(h2:leS b a):a=b:=by
 rw[lQ] at h1 h2
 have e:a.cps.toList=b.cps.toList:=by
   have h1':a.cps.toList≤b.cps.toList:=h1
   have h2':b.cps.toList≤a.cps.toList:=h2
   exact List.le_antisymm h1' h2'
 have e2:a.cps=b.cps:=Array.toList_inj.mp e
 cases a
 cases b
 simp only at e2
 rw[e2]
theorem qx {a b c:Str}(h1:leS a b)(h2:leS b c):leS a c:=by
 rw[lQ] at h1 h2 ⊢
 have h1':a.cps.toList≤b.cps.toList:=h1
 have h2':b.cps.toList≤c.cps.toList:=h2
 exact List.le_trans h1' h2'
theorem gM:∀ (p:Str)(l:List Str),risingS p l=true→(p::l).Pairwise leS
 | p,[],_=>List.pairwise_singleton _ _
 | p,x::r,h=>by
   have h':(!ltCps x.cps.toList p.cps.toList&&risingS x r)=true:=h
   rw[Bool.and_eq_true] at h'
   have ih:=gM x r h'.2
   have hpx:leS p x:=by unfold leS;simpa using h'.1
   refine List.pairwise_cons.mpr ⟨fun y hy=>?_,ih⟩
   rcases List.mem_cons.mp hy with e | hy
   · subst e;exact hpx
   · exact qx hpx ((List.pairwise_cons.mp ih).1 y hy)
theorem eN:∀ (l:List Str),sortedS l=true→l.Pairwise leS
 | [],_=>List.Pairwise.nil
 | x::r,h=>gM x r h
theorem dk {a b:List Str}(ha:sortedS a=true)(hb:sortedS b=true)(h:a.Perm b):a=b :=
 List.Perm.eq_of_pairwise (fun x y _ _ h1 h2=>mI h1 h2) (eN a ha) (eN b hb) h
theorem im:∀ {l:List Value}{ks:List Str},l.length=ks.length→(∀ (i:Nat) v,l[i]?=some v→∃ x t,ks[i]?=some x∧v=.str x t)→StrsAre l ks
 | [],[],_,_=>.nil
 | [],_::_,h,_=>by simp at h
 | _::_,[],h,_=>by simp at h
 | v::l,k::ks,h,hv=>by
   obtain⟨x,t,hx,e⟩:=hv 0 v rfl
   simp at hx
   subst hx e
   exact .cons _ t (im (by simpa using h) fun i u hu=>by simpa using hv (i+1) u (by simpa using hu))
theorem mP:∀ {xs:List V}{us:List Value},xs.length=us.length→(∀ (i:Nat) u,us[i]?=some u→∃ x,xs[i]?=some x∧aW x u)→Vals xs us
 | [],[],_,_=>.nil
 | [],_::_,h,_=>by simp at h
 | _::_,[],h,_=>by simp at h
 | x::xs,u::us,h,hv=>by
   obtain⟨y,hy,r⟩:=hv 0 u rfl
   simp at hy
   subst hy
   exact .cons r (mP (by simpa using h) fun i w hw=>by simpa using hv (i+1) w (by simpa using hw))
section
variable {X:Cx}
theorem eY:cv X (.builtin "sorted") (fun xs H Q=>∃ (a:Addr)(ss:List Str),xs=[.ref a]∧SqL X.K H a (ss.map V.str)∧ss.length < 64∧∀ p ss',H p=none→ss'.Perm ss→sortedS ss'=true→Q (.ref p) (upd H p (.lst (ss'.map V.str)))):=by
 intro pins s σ H xs us Q I r h
 obtain⟨a,ss,rfl,ha,hn,q⟩:=h
 obtain⟨u,rfl,ru⟩:=dW r
 cases ru
 obtain⟨its,rv,pl,_⟩:=I.list ha
 have hl:=rv.length
 rw[List.length_map] at hl
 refine sorted_strs pl.isList (ge rv) (by omega) fun out ss' a1 a2 a3=>?_
 obtain⟨e,he⟩:=sortedAll_at s.heap its out
 have hp:=a2.length_eq
 refine⟨.ref (s.heap.objs.size+1),_,I.laid (o:=.lst (ss'.map V.str)) (t':=s.toks) (fun b o x=>sortedAll_old x) (Nat.le_succ _) ⟨by rw[List.length_map,sizeLine_eq];omega,out.toList,e,gY a1,he⟩,rfl,q _ ss' (I.hok.fresh (Nat.le_succ _)) a2 a3⟩
theorem eO (hc:X.calm=true):cv X (.builtin "sorted") (fun xs H Q=>∃ (d:Addr)(ks:List Str)(kvs:List (Key×V)),xs=[.ref d]∧Rd H d (.dK kvs)∧kvs.map (·.1)=ks.map Sum.inr∧ks.length < 64∧∀ p ss',H p=none→ss'.Perm ks→sortedS ss'=true→Q (.ref p) (upd H p (.lst (ss'.map V.str)))):=by
 intro pins s σ H xs us Q I r h
 obtain⟨d,ks,kvs,rfl,hd,hk,hn,q⟩:=h
 obtain⟨u,rfl,ru⟩:=dW r
 cases ru
 obtain⟨z,lo,vs,rel,dd⟩:=jD I.hok hd
 obtain⟨ep,hat⟩:=dd.dictAt
 have hlv:vs.length=ks.length:=by
   have:=congrArg List.length hk
   rw[List.length_map,List.length_map] at this
   rw[←rel.length];exact this
 refine Calls.call_function_entry kind_sorted plain_sorted entry_sorted (args_sorted1 _) ?_
 unfold Builtin.«sorted»
 refine wpAny_bind (m:=checkCount "sorted" 1 1 _) (wpAny_pure ?_)
 refine wpAny_bind (PySem.W.kdu_collect (A:=X.A.in1) (PySem.W.kdl_dict (knd:=bE X.prog X.w) (kvs:=vs) (ep:=ep) lo) (I.ok.hd hc) hat (by rw[hlv,sizeLine_eq];omega) fun h' tk acc kk hacc=>?_)
 have hal:acc.toList.length=ks.length:=by rw[Array.length_toList,hacc.1,hlv]
 have hst:StrsAre acc.toList ks:=by
   refine im hal fun i v hv=>?_
   obtain⟨k,x,hx,his⟩:=hacc.2 i v (by rw[←Array.getElem?_toList];exact hv)
   have e1:(vs.map (·.1))[i]?=some k:=by rw[List.getElem?_map,hx];rfl
   rw[←rel.keys,hk,List.getElem?_map] at e1
   obtain⟨y,hy,e2⟩:=Option.map_eq_some_iff.mp e1
   subst e2
   rcases bw (show il (Sum.inr y) v=true from his) with ⟨i',t,e,_⟩ | ⟨y',t,e,e'⟩
   · cases e
   · cases e;exact⟨y,t,hy,e'⟩
 refine wpAny_bind (wpAny_newList ?_ (by rw[hal,sizeLine_eq];omega))
 have hoL:(h'.push (seqObj "list" acc.toList.toArray 0)).get? h'.objs.size=some (seqObj "list" acc.toList.toArray 0):=Heap.get?_push_size _ rfl
 refine wpAny_bind (wpAny_holding (wpAny_call_entry slot_list_sort ⟨_,hoL,rfl⟩ entry_list_sort (list_sort_treeK strKind_oneLt hoL hst.keysOf (fun v1 v2 ck e=>keyKind_strs (by rw[←e];exact hst)) (by omega) fun st' a1 a2=>⟨_,rfl,?_⟩) (args_list_sort _)))
 obtain⟨ss',b1,b2,b3⟩:=sorted_out_str hst a1 a2
 have hp:=b2.length_eq
 have I1:Inv X pins σ H { s with heap:=h',toks:=tk }:=I.kept kk
 obtain⟨e,he⟩:=sortedHeap_at (out:=(arrOf st').map (·.2)) hoL
 refine wpAny_pure ⟨_,rfl,?_⟩
 refine⟨.ref h'.objs.size,_,I1.laid (o:=.lst (ss'.map V.str)) (t':=tk) (fun b o x=>?_) (Nat.le_refl _) ⟨by rw[List.length_map,sizeLine_eq];omega,_,e,gY b1,he⟩,rfl,q _ ss' (I1.hok.fresh (Nat.le_refl _)) b2 b3⟩
 have hlt:=Heap.lt_size x
 rw[sortedHeap_old (Nat.ne_of_lt hlt) (by rw[Heap.size_push];exact Nat.lt_succ_of_lt hlt)]
 exact Heap.get?_push_of_some _ x

/-! ### for k in d: the dict is known while it is walked -/
def Itd (d:Addr)(o:Obj)(kvs:List (Key×V)):It:=⟨fun i H=>H d=some (.frz o (.dK kvs))∧i < kvs.length,fun i H x H'=>H'=H∧∃ k v,kvs[i]?=some (k,v)∧x=kV k,fun i H=>H d=some (.frz o (.dK kvs))∧i=kvs.length⟩
theorem jB {X:Cx}{pins:List (Addr×Obj)}{σ:St}{H:Hp}{s:Shared}{d:Addr}{o:Obj}{kvs:List (Key×V)}(I:Inv X pins σ H s)(h:H d=some (.frz o (.dK kvs))) :
   ∃ vs ep,(∃ es,o.data=.dict es ep)∧s.heap.DictAt (bE X.prog X.w) d vs ep∧KV kvs vs∧(d==sysModules)=false:=by
 obtain⟨e,z,lo,vs,rel,o',es,ep,ho,r1,r2,r3⟩:=(show bF X.prog X.w H s.heap d (.frz o (.dK kvs)) from I.hok d _ h)
 rw[e] at ho
 cases ho
 exact⟨vs,ep,⟨es,r2⟩,⟨o,es,e,r1,r2,r3⟩,rel,lo⟩
theorem vt {k:Key}{v:Value}(h:il k v=true):aW (kV k) v:=by
 rcases bw h with ⟨i,t,rfl,rfl⟩ | ⟨x,t,rfl,rfl⟩
 · exact⟨t,rfl⟩
 · exact⟨t,rfl⟩
theorem pz {P:Program}{w:World}{K:PySem.W.Frag}{tg:Expr}(d it:Addr)(o:Obj)(kvs:List (Key×V)) (ep:Nat)(hep:∃ es,o.data=.dict es ep)(hne:d≠it):lg P w K tg (Itd d o kvs) [it] it (fun i h=>h.IsKeyIter it d i kvs.length ep) where
 mem:=by simp
 obj:=fun i h st b hb=>by
   have e:b=it:=by simpa using hb
   subst e
   obtain⟨o,e,c,dd⟩:=st
   exact⟨o,e,fun v z=>by rw[dd] at z;cases z⟩
 keep:=fun i h h' st k=>st.at fun o e=>k it (by simp) o e
 item:=by
   intro X hP hw hK hc i pins s σ H E I hf st hg
   subst hP hw hK
   obtain⟨hd,hi⟩:=hg
   obtain⟨f0,f1,f2,f3,f4,f5⟩:=hf it (by simp)
   obtain⟨vs,ep',⟨es',h1⟩,hat,rel,lo⟩:=jB I hd
   obtain⟨es,h2⟩:=hep
   rw[h1] at h2
   cases h2
   have hl:=rel.length
   have st':s.heap.IsKeyIter it d i vs.length ep:=by rw[←hl];exact st
   refine(Walks.dictKeys (knd:=bE X.prog X.w) (I.ok.hd hc) it d hne vs ep).item i s _ _ (by omega) ⟨st',hat⟩ fun v h' tk hv st2 kk=>?_
   have I1:Inv X pins σ H { s with heap:=h',toks:=tk }:=I.turned (fun b o hb e=>kk b o (by simpa using hb) e) f0 f1 f3 f4 f5
   obtain⟨k,x,hx,his⟩:=hv
   obtain⟨oi,ei,ci,di⟩:=id st2.1
   have ek:∃ v0,kvs[i]?=some (k,v0):=by
     have e1:(vs.map (·.1))[i]?=some k:=by rw[List.getElem?_map,hx];rfl
     rw[←rel.keys,List.getElem?_map] at e1
     obtain⟨p,hp,e2⟩:=Option.map_eq_some_iff.mp e1
     exact⟨p.2,by rw[hp,←e2]⟩
   obtain⟨v0,hv0⟩:=ek
   refine⟨_,rfl,mm (s:={ s with heap:=h',toks:=tk }) ei ci di (by decide) ⟨kV k,H,I1,vt his,⟨rfl,k,v0,hv0,rfl⟩,?_,fun b hb=>(hf b hb).1⟩⟩
   rw[hl];exact st2.1
 done:=by
   intro X hP hw hK hc i pins s σ H E I hf st hg
   subst hP hw hK
   obtain⟨hd,rfl⟩:=hg
   obtain⟨f0,f1,f2,f3,f4,f5⟩:=hf it (by simp)
   obtain⟨vs,ep',⟨es',h1⟩,hat,rel,lo⟩:=jB I hd
   obtain⟨es,h2⟩:=hep
   rw[h1] at h2
   cases h2
   have hl:=rel.length
   have st':s.heap.IsKeyIter it d vs.length vs.length ep:=by rw[←hl];exact st
   exact(Walks.dictKeys (knd:=bE X.prog X.w) (I.ok.hd hc) it d hne vs ep).done s _ _ ⟨st',hat⟩ fun h' tk kk=>⟨rfl,I.turned (fun b o hb e=>kk b o (by simpa using hb) e) f0 f1 f3 f4 f5⟩
 self:=fun _ _ _ _ _ st h=>wpAny_pyIter_keyiter st h
theorem Inv.freeze {pins:List (Addr×Obj)}{σ:St}{H:Hp}{s:Shared}{d:Addr}{kvs:List (Key×V)}(I:Inv X pins σ H s)(h:H d=some (.dK kvs)):∃ o,s.heap.get? d=some o∧Inv X pins σ (upd H d (.frz o (.dK kvs))) s:=by
 obtain⟨z,lo,vs,rel,o,es,ep,ho,r⟩:=(show bF X.prog X.w H s.heap d (.dK kvs) from I.hok d _ h)
 refine⟨o,ho,?_⟩
 have:=I.write (x:=d) (e:=d) (o:=.frz o (.dK kvs)) (h':=s.heap) (t':=s.toks) (by rw[h];exact True.intro) (.inl rfl) (fun b u _ e=>e) ⟨o,ho⟩ ⟨ho,z,lo,vs,rel,o,es,ep,ho,r⟩
 exact this
def uY (td:TE):TI:=fun σ H R=>td σ H fun x H1=>∃ d kvs,x=.ref d∧((H1 d=some (.dK kvs)∧∀ o,R (Itd d o kvs) (upd H1 d (.frz o (.dK kvs))))∨∃ o,H1 d=some (.frz o (.dK kvs))∧R (Itd d o kvs) H1)
theorem tY {tg l:Expr}{tl:TE}(hl:PE X l tl):PI X tg l (uY tl):=by
 intro pins s σ H R I h
 refine thn (hl s σ H _ I h) fun v s1 ⟨x,H1,I1,r1,d,kvs,e,q1⟩=>?_
 subst e
 cases r1
 have main:∀ (H2:Hp)(o:Obj),Inv X pins σ H2 s1→H2 d=some (.frz o (.dK kvs))→R (Itd d o kvs) H2→wpAny (model X.prog X.w) X.A (pyIter (.ref d)) (PIE X pins σ tg R) X.xe s1:=fun H2 o I2 hd q=>by
   obtain⟨vs,ep,hep,hat,rel,lo⟩:=jB I2 hd
   refine wpAny_pyIter_dict lo hat ?_
   have hlt:d < s1.heap.objs.size:=I2.hok.lt hd
   have hl:=rel.length
   refine⟨s1.heap.objs.size,[s1.heap.objs.size],_,_,H2,rfl,I2.kept (t':=s1.toks) fun b o e=>Heap.get?_push_of_some _ e,pz d _ o kvs ep hep (Nat.ne_of_lt hlt),⟨_,Heap.get?_push_size _ rfl,rfl,by rw[←hl];rfl⟩,fun b hb=>?_,q⟩
   have e:b=s1.heap.objs.size:=by simpa using hb
   subst e
   exact I2.fpOk (Nat.le_refl _) (I2.hok.fresh (Nat.le_refl _))
 rcases q1 with ⟨hd,q⟩ | ⟨o,hd,q⟩
 · obtain⟨o,ho,I2⟩:=I1.freeze hd
   exact main _ o I2 ac (q o)
 · exact main _ o I1 hd q
theorem mK {H1:Hp}{d:Addr}{o:Obj}{kvs:List (Key×V)}(h:H1 d=some (.frz o (.dK kvs))):dQ (Itd d o kvs) H1 kvs.length (fun i x=>∃ k v,kvs[i]?=some (k,v)∧x=kV k) :=
 ⟨fun i H' hi s=>⟨s _ _ h,hi⟩,fun i H' x H2 hi s y=>y,fun H' s=>⟨s _ _ h,rfl⟩⟩
/-! ### range objects,list(range(n)) -/
theorem ij:cv X (.type "range") (fun xs H Q=>∃ j:Int,xs=[.int j]∧∀ p,H p=none→Q (.ref p) (upd H p (.rng 0 j))):=by
 intro pins s σ H xs us Q I r h
 obtain⟨j,rfl,q⟩:=h
 obtain⟨u,rfl,t,rfl⟩:=dW r
 refine call_range_1 ?_
 refine⟨.ref s.heap.objs.size,_,I.laid (o:=.rng 0 j) (fun b u e=>Heap.get?_push_of_some _ e) (Nat.le_refl _) ⟨_,_,_,Heap.get?_push_size _ rfl⟩,rfl,q _ (I.hok.fresh (Nat.le_refl _))⟩
theorem jc (hc:X.calm=true):cv X (.type "list") (fun xs H Q=>∃ (p:Addr) (n:Nat),xs=[.ref p]∧H p=some (.rng 0 n)∧n≤1000∧∀ l,H l=none→Q (.ref l) (upd H l (.lst ((List.range n).map fun i:Nat=>V.int i)))):=by
 intro pins s σ H xs us Q I r h
 obtain⟨p,n,rfl,hp,hn,q⟩:=h
 obtain⟨u,rfl,ru⟩:=dW r
 cases ru
 obtain⟨t,u,v,e⟩:=(show bF X.prog X.w H s.heap p (.rng 0 n) from I.hok p _ hp)
 have hrs:Builtin.Range.rangeSize 0 (n:Int) 1=n:=by rw[rangeSize_one];split<;>omega
 refine call_list_range (n:=n) (I.ok.hd hc) e (small_one (by omega) (by omega) (by omega) (by omega)) hrs (by omega) fun h' tk acc c' kk hS hI=>?_
 have hal:acc.toList.length=n:=by rw[Array.length_toList];exact hI.1
 have hv:Vals ((List.range n).map fun i:Nat=>V.int i) acc.toList:=by
   refine mP (by rw[List.length_map,List.length_range,hal]) fun i u hu=>?_
   obtain⟨t,e⟩:=hI.2 i u (by rw[←Array.getElem?_toList];exact hu)
   have hi:i < n:=by rw[←hal];exact(List.getElem?_eq_some_iff.mp hu).1
   refine⟨V.int i,by rw[List.getElem?_map,List.getElem?_range hi];rfl,t,?_⟩
   rw[e];congr 1;omega
 exact⟨.ref s.heap.objs.size,_,I.laid (o:=.lst _) kk (Nat.le_refl _) ⟨by rw[List.length_map,List.length_range,sizeLine_eq];omega,acc.toList,c',hv,by simpa using hS⟩,rfl,q _ (I.hok.fresh (Nat.le_refl _))⟩
end
end L2

set_option Elab.async false
set_option linter.all false
set_option maxRecDepth 100000
set_option maxHeartbeats 8000000
namespace L2
open PySem PySem.Spec PyProof.Rows
/-! ### slices of texts -/
section
variable {X:Cx}
def wv:V→Option Int→Option Int→Hp→VK→Prop:=fun x lo hi H Q=>∃ z,x=.str z∧z.length≤sizeLine∧Q (.str (Txt.slice z lo hi)) H
theorem ny:SlR X wv:=by
 intro pins s σ H x v vl vu lo hi sl Q I rx hs pl pu h
 obtain⟨z,rfl,hz,q⟩:=h
 obtain⟨t,rfl⟩:=rx
 refine⟨"str",_,slot_str_getitem.lookup,typeIs_str s z t,?_⟩
 obtain⟨l,hl1,hl2⟩:∃ l:Option (Int×Tok),vl=partValue l∧l.map (·.1)=lo:=by
   cases pl with
   | none=>exact⟨none,rfl,rfl⟩
   | int i t=>exact⟨some (i,t),rfl,rfl⟩
 obtain⟨u,hu1,hu2⟩:∃ u:Option (Int×Tok),vu=partValue u∧u.map (·.1)=hi:=by
   cases pu with
   | none=>exact⟨none,rfl,rfl⟩
   | int i t=>exact⟨some (i,t),rfl,rfl⟩
 subst hl1 hu1 hl2 hu2
 refine wpAny_getItem_str_slice (l:=l) (u:=u) (st:=none) hs rfl ?_
 have key:∀ P:Prop,True:=fun _=>trivial
 unfold sliceMade
 have e:Txt.slice z (l.map (·.1)) (u.map (·.1))=if(((none:Option (Int×Tok)).map (·.1)).getD 1==1&&(slicePicked z l u none).length==z.length)=true then z else⟨((slicePicked z l u none).filterMap (z.cps[·]?)).toArray⟩:=rfl
 by_cases hc:(((none:Option (Int×Tok)).map (·.1)).getD 1==1&&(slicePicked z l u none).length==z.length)=true
 · rw[if_pos hc] at e ⊢
   rw[e] at q
   exact⟨.str z,H,I,⟨t,rfl⟩,q⟩
 · rw[if_neg hc] at e ⊢
   have hle:=Txt.slice_le z (l.map (·.1)) (u.map (·.1))
   rw[e] at q hle
   exact⟨Nat.le_trans hle hz,⟨.str _,H,I.tok _,⟨_,rfl⟩,q⟩⟩
theorem rp (hc:X.calm=true):MtR X "str.index" (fun x vs H Q=>∃ z y,x=.str z∧vs=[.str y]∧0≤Txt.find z y∧Q (.int (Txt.find z y)) H):=by
 intro pins s σ H x xs v us Q I rx rs h
 obtain⟨z,y,rfl,rfl,h0,q⟩:=h
 obtain⟨t,rfl⟩:=rx
 obtain⟨u,rfl,ru⟩:=rs.one
 obtain⟨t',rfl⟩:=ru
 refine index_or (I.ok.hd hc) (fun e _=>by omega) fun _ _=>⟨.int _,H,I.tok _,⟨_,rfl⟩,q⟩
end
end L2

set_option Elab.async false
set_option linter.all false
set_option maxRecDepth 100000
set_option maxHeartbeats 8000000
namespace L2
open PySem PySem.Spec PyProof.Rows
theorem uN {X:Cx}{c0 c1 c2 c3 c4 c5 c6 c7:Int} {j0 j1 j2 j3 j4 j5 j6 j7}{p0 p1 p2 p3 p4 p5 p6 p7:Pos}:PA X [.Constant (.int c0) j0 p0,.Constant (.int c1) j1 p1,.Constant (.int c2) j2 p2,.Constant (.int c3) j3 p3,.Constant (.int c4) j4 p4,.Constant (.int c5) j5 p5,.Constant (.int c6) j6 p6,.Constant (.int c7) j7 p7] (cM (tC (.int c0)) (cM (tC (.int c1)) (cM (tC (.int c2)) (cM (tC (.int c3)) (cM (tC (.int c4)) (cM (tC (.int c5)) (cM (tC (.int c6)) (cM (tC (.int c7)) nB)))))))):=(aa ah (aa ah (aa ah (aa ah (aa ah (aa ah (aa ah (aa ah ad))))))))
theorem v7 {X:Cx}{c0 c1 c2 c3 c4 c5 c6 c7:Str} {j0 j1 j2 j3 j4 j5 j6 j7}{p0 p1 p2 p3 p4 p5 p6 p7:Pos}:PA X [.Constant (.str c0) j0 p0,.Constant (.str c1) j1 p1,.Constant (.str c2) j2 p2,.Constant (.str c3) j3 p3,.Constant (.str c4) j4 p4,.Constant (.str c5) j5 p5,.Constant (.str c6) j6 p6,.Constant (.str c7) j7 p7] (cM (tC (.str c0)) (cM (tC (.str c1)) (cM (tC (.str c2)) (cM (tC (.str c3)) (cM (tC (.str c4)) (cM (tC (.str c5)) (cM (tC (.str c6)) (cM (tC (.str c7)) nB)))))))):=(aa aV (aa aV (aa aV (aa aV (aa aV (aa aV (aa aV (aa aV ad))))))))
end L2

set_option Elab.async false
set_option linter.all false
set_option maxRecDepth 100000
set_option maxHeartbeats 4000000
namespace L2
open PySem PySem.Spec PyProof.Rows
end L2

set_option Elab.async false
set_option linter.all false
set_option maxRecDepth 100000
set_option maxHeartbeats 4000000
namespace L2
open PySem PySem.Spec PyProof.Rows

def CX1 (P:Program)(w:World):CXT:=fun outer H s E ev s'=>∃ (e:Addr) (cls a0:Value)(H':Hp)(B:Heap),ev=.ref e∧s'.os=s.os∧AllBare s'.gens∧Un (frs outer) [] H H' s.heap s'.heap∧HOk P w H' s'.heap∧Heap.FlyingW B outer e cls a0 s'.heap ∧
 (∀ b o,s.heap.get? b=some o→b∉frs outer→∃ o',B.get? b=some o'∧(H b=none→o'=o))∧(∀ b u,H' b=some u→∀ o,s'.heap.get? b=some o→B.get? b=some o)∧E cls none H'
theorem HOk.by {P:Program}{w:World}{H:Hp}{h h':Heap}(x:HOk P w H h)(k:∀ b u,H b=some u→∀ o,h.get? b=some o→h'.get? b=some o):HOk P w H h':=fun a o e =>
 (x a o e).stay (fun b u hb q=>by
   rcases hb with rfl | hb
   · exact k b o e u q
   · exact k b _ hb u q) (fun _ q=>q) fun _ _ q=>q
theorem HOk.has {P:Program}{w:World}{H:Hp}{h:Heap}(x:HOk P w H h){a:Addr}{o:HO}(e:H a=some o):∃ ob,h.get? a=some ob:=by
 have y:=x a o e
 clear e
 induction o with
 | lst xs=>obtain⟨_,_,_,_,e⟩:=y;exact⟨_,e⟩
 | tup xs=>obtain⟨_,_,_,o,e,_⟩:=y;exact⟨_,e⟩
 | dK kvs=>obtain⟨_,_,_,_,o,_,_,e,_⟩:=y;exact⟨_,e⟩
 | dT kvs=>obtain⟨_,_,_,_,o,_,_,e,_⟩:=y;exact⟨_,e⟩
 | set S n=>obtain⟨o,_,_,_,e,_⟩:=y;exact⟨_,e⟩
 | ins C dx fs=>obtain⟨_,_,_,e,_⟩:=y;exact⟨_,e⟩
 | own z=>obtain⟨_,e⟩:=y;exact⟨_,e⟩
 | xd fs=>obtain⟨_,⟨_,_,_,e,_⟩,_⟩:=y;exact⟨_,e⟩
 | rng lo hi=>obtain⟨_,_,_,e⟩:=y;exact⟨_,e⟩
 | frz ob u ih=>obtain⟨e,_⟩:=y;exact⟨_,e⟩
 | tbl ps=>exact⟨_,y⟩
 | met f z=>exact⟨_,y⟩
 | ext φ=>obtain⟨_,⟨o,e⟩,_⟩:=y;exact⟨o,e⟩

section
variable {X:Cx}{pins:List (Addr×Obj)}{σ:St}{H:Hp}{s:Shared}{h' B:Heap}{e:Addr}{cls a0:Value}{E:XK}
theorem qM (I:Inv X pins σ H s)(hex:X.ex=[])(fl:Heap.FlyingW B X.outer e cls a0 h')(up:s.heap.UpToSlots h')
   (k1:∀ b o,X.s₀.heap.get? b=some o→b∉X.fs→∃ o',B.get? b=some o'∧(X.H₀ b=none→o'=o))(k2:∀ b u,H b=some u→∀ o,s.heap.get? b=some o→B.get? b=some o)(q:E cls none H) :
   CX1 X.prog X.w X.outer X.H₀ X.s₀ E (.ref e) { s with heap:=h' }:=by
 have nox:∀ b:Addr,b∉X.ex:=fun b=>by rw[hex];simp
 have k2':∀ b u,H b=some u→∀ o,s.heap.get? b=some o→h'.get? b=some o:=fun b u hb o ho=>fl.1 b o (k2 b u hb o ho)
 refine⟨e,cls,a0,H,B,rfl,I.os,I.bare,⟨fun b o ho hn hf _=>?_,fun b o ho hn hf _=>?_,fun b o ho hn _=>I.base.free b o ho hn (nox b),fun b o ho _=>?_,I.base.tups,I.base.frzs,I.base.tbls⟩,I.hok.by k2',fl,k1,fun b u hb o ho=>?_,q⟩
 · obtain⟨o',e1,e2⟩:=k1 b o ho hf
   rw[e2 hn] at e1
   exact fl.1 b o e1
 · obtain⟨sl,e1⟩:=I.base.slot b o ho hn hf (nox b)
   obtain⟨_,oo,e2,e3⟩:=I.ok.funs.mem hf
   rw[ho] at e2
   cases e2
   obtain⟨sl2,e4⟩:=up b _ e1 e3
   exact⟨sl2,e4⟩
 · by_cases hf:b∈X.fs
   · obtain⟨_,oo,e2,e3⟩:=I.ok.funs.mem hf
     rw[ho] at e2
     cases e2
     have hn:=I.ok.frf b hf
     obtain⟨sl,e1⟩:=I.base.slot b o ho hn hf (nox b)
     obtain⟨sl2,e4⟩:=up b _ e1 e3
     exact⟨_,e4⟩
   · obtain⟨o',e1,_⟩:=k1 b o ho hf
     exact⟨o',fl.1 b o' e1⟩
 · obtain⟨ob,hob⟩:=I.hok.has hb
   have e1:=k2 b u hb ob hob
   have e2:=fl.1 b ob e1
   have ho':h'.get? b=some o:=ho
   rw[e2] at ho'
   cases ho'
   exact e1
end
theorem d2 {P:Program}{w:World}{K:PySem.W.Frag}{mg:Str→Option Value}{base:Heap}{N:List Str}{qual:Str}{scope:Scope}{f:Addr}{cd:Value}{A:Around}{outer:List Env}{s0:Shared}{H0:Hp}{E:XK} :
   eU (CX1 P w) (cu (CX1 P w) P w K mg base N qual scope f cd A outer s0 H0 E) E:=by
 rintro pins σ H s ev s' I ⟨e,cls,a0,H',B,rfl,hos,hba,hun,hok,hfl,k1,k2,q⟩
 have I':=I.call' (s':=s') (ch:=[]) hos hun hok hba (fun b z=>absurd z (by simp))
 show wpAny (model P w) (A.deeper (envOfC qual scope s0.heap.objs.size f cd)) (leaving (envOfC qual scope s0.heap.objs.size f cd) (.ref e)) _ _ s'
 refine wpAny_leaves_onW (L:=s0.heap.objs.size) I.ok.frames rfl hfl fun h' fl up=>?_
 refine qM I' rfl fl up (fun b o ho hf=>?_) k2 q
 have hbl:b < s0.heap.objs.size:=Heap.lt_size ho
 obtain⟨o1,ho1⟩:=I.base.there b o ho (by simp[cu])
 have hns:b∉frs (envOfC qual scope s0.heap.objs.size f cd::outer):=fun z=>by
   rcases List.mem_cons.mp (I.stkSub b z) with e1 | e1
   · have e2:b=s0.heap.objs.size:=e1
     rw[e2] at hbl
     exact absurd hbl (Nat.lt_irrefl _)
   · exact hf e1
 obtain⟨o',e1,e2⟩:=k1 b o1 ho1 hns
 refine⟨o',e1,fun hn=>?_⟩
 have hn':H b=none:=I.base.free b o ho hn (by simp[cu])
 have:=I.base.keep b o ho hn hf (by simp[cu])
 rw[ho1] at this
 cases this
 exact e2 hn'
theorem vn {P:Program}{w:World}{K:PySem.W.Frag}{mg:Str→Option Value}{base:Heap}{N:List Str}{qual:Str}{scope:Scope}{f:Addr}{cd:Value}{A:Around}{outer:List Env}{s0:Shared}{H0:Hp}{E:XK}
   {pins:List (Addr×Obj)}{σ:St}{H:Hp}{s:Shared}{h1:Heap}{e:Addr}{cls:Value}{args:List Value}(I:Inv (cu (CX1 P w) P w K mg base N qual scope f cd A outer s0 H0 E) pins σ H s)(hx:Heap.MadeExcOf s.heap h1 e cls args)(q:E cls none H) :
   (cu (CX1 P w) P w K mg base N qual scope f cd A outer s0 H0 E).xe (.ref e) { s with heap:=h1 }:=by
 have I':=I.kept (t':=s.toks) hx.keeps
 have hfrs:=I.stack
 show wpAny (model P w) (A.deeper (envOfC qual scope s0.heap.objs.size f cd)) (leaving (envOfC qual scope s0.heap.objs.size f cd) (.ref e)) _ _ { s with heap:=h1 }
 have hin:∀ env∈(envOfC qual scope s0.heap.objs.size f cd::outer),∀ b,env.frame=some b→b∈frs (envOfC qual scope s0.heap.objs.size f cd::outer):=fun env he b hb=>List.mem_filterMap.mpr ⟨env,he,hb⟩
 refine wpAny_leaves_madeW (base:=PySem.W.hideAll s.heap (frs (envOfC qual scope s0.heap.objs.size f cd::outer))) (h:=s.heap) (L:=s0.heap.objs.size) I.ok.frames rfl (fun b o q=>PySem.W.of_hideAll _ q) (PySem.W.funFrames_hide hfrs hin) hx fun h' t fl _ _ up=>?_
 refine qM I' rfl fl up (fun b o ho hf=>?_) (fun b u hb o ho=>?_) q
 · have hbl:b < s0.heap.objs.size:=Heap.lt_size ho
   obtain⟨o1,ho1⟩:=I.base.there b o ho (by simp[cu])
   have hns:b∉frs (envOfC qual scope s0.heap.objs.size f cd::outer):=fun z=>by
     rcases List.mem_cons.mp (I.stkSub b z) with e1 | e1
     · have e2:b=s0.heap.objs.size:=e1
       rw[e2] at hbl
       exact absurd hbl (Nat.lt_irrefl _)
     · exact hf e1
   refine⟨o1,PySem.W.hideAll_get _ ho1 hns,fun hn=>?_⟩
   have:=I.base.keep b o ho hn hf (by simp[cu])
   rw[ho1] at this
   exact Option.some.inj this
 · obtain⟨ob,hob⟩:=I.hok.has hb
   have e1:h1.get? b=some ob:=hx.keeps b ob hob
   have e2:h1.get? b=some o:=ho
   rw[e1] at e2
   cases e2
   refine PySem.W.hideAll_get _ hob fun z=>?_
   have:=I.stkFree b z
   rw[hb] at this
   cases this
section
variable {P:Program}{w:World}{K:PySem.W.Frag}{mg:Str→Option Value}{base:Heap}
theorem Fun.okX {x qual:Str}{st:Stmt}{f:Addr}{fd:FuncData}{N ps:List Str}{k:Nat}{sp:Sp}(F:Fun K x qual st f fd)(S:ap N ps (ae st))(len:∀ vs H Q E,sp vs H Q E→vs.length=ps.length)
   (hbody:∀ (cdv:Value)(A:Around)(outer:List Env)(s:Shared)(H:Hp)(vs:List V)(Q:VK)(E:XK),dt k (A.deeper (envOfC qual (ae st) s.heap.objs.size f cdv))→sp vs H Q E →
     ∃ t,PSs (cu (CX1 P w) P w K mg base N qual (ae st) f cdv A outer s H E) (am st) t∧t { nx:=fun _ H'=>Q .non H',rt:=Q } (start N vs) H):ao P w K mg base (CX1 P w) (k+1) f fd ps sp:=by
 obtain⟨oc,od,kV,doc,pm,an,cdv,ct,osl,rfl,lk,hcd⟩:=F.ex
 exact uS lk hcd S len fun A outer s H vs Q E hr hsp=>hbody cdv A outer s H vs Q E hr hsp
end
end L2

set_option Elab.async false
set_option linter.all false
set_option maxRecDepth 100000
set_option maxHeartbeats 4000000
namespace L2
open PySem PySem.Spec PyProof.Rows

theorem tZ {K:PySem.W.Frag}{h:Heap}{C:Addr}{bmB:List Value}{newId:String}(X:K.In h)(q:PySem.W.excIn K C bmB newId=true) :
   ∃ bm N nm qn bs hdct sn sub ab col dd k0 k1 k2 k3 k5 mN,h.get? C=some (excClassObj nm qn C N bs bm hdct sn sub ab col dd k0 k1 k2 k3 k5 newId)∧h.Ns N mN∧mN "__init__"=none∧OwnTail h bmB bm:=by
 simp only[PySem.W.excIn] at q
 split at q
 case h_2=>cases q
 case h_1 c0 sl0 lk0 =>
   split at q
   case h_2=>cases q
   case h_1 Cc tl z0 z1 z2 z3 nn z5 hmro hslo =>
     rename_i dd0
     rw[Bool.and_eq_true,Bool.and_eq_true,Bool.and_eq_true,Bool.and_eq_true,Bool.and_eq_true] at q
     obtain⟨⟨⟨⟨⟨q1,q2⟩,q3⟩,q4⟩,q5⟩,q6⟩:=q
     obtain rfl:=beq_iff_eq.mp q1
     obtain rfl:=beq_iff_eq.mp q2
     have q3':c0.hasDel=false:=by simpa using q3
     have q6':=beq_iff_eq.mp q6
     obtain⟨c1,c2,c3,c4,c5,c6,c7,c8,c9,c10,c11⟩:=c0
     dsimp only at hmro q3' q5 q6'
     subst hmro
     subst q3'
     have hsl:sl0=#[z0,z1,z2,z3,some (.builtin nn),z5]:=by
       cases sl0
       simp only at hslo
       rw[hslo]
     subst hsl
     exact⟨tl,_,_,_,_,_,_,_,_,_,_,_,_,_,_,_,_,X _ _ lk0,.of_isNs (PySem.W.isNs_of_in X q5),PySem.W.nsMap_none_of_in X q5 q6',PySem.W.tail_of_in X q4⟩

def rA (C:Addr)(E:XK)(ta:TA):TS:=fun D σ H=>ta σ H fun vs H1=>vs.length≤1000∧E (.ref C) none H1
def wn (X:Cx)(E:XK):Prop:=∀ (pins:List (Addr×Obj)) (σ:St)(H:Hp)(s:Shared)(h1:Heap)(e:Addr) (cls:Value)(args:List Value),Inv X pins σ H s→Heap.MadeExcOf s.heap h1 e cls args→E cls none H→X.xe (.ref e) { s with heap:=h1 }
theorem gI {P:Program}{w:World}{K:PySem.W.Frag}{mg:Str→Option Value}{base:Heap}{N:List Str}{qual:Str}{scope:Scope}{f:Addr}{cd:Value}{A:Around}{outer:List Env}{s0:Shared}{H0:Hp}{E:XK} :
 wn (cu (CX1 P w) P w K mg base N qual scope f cd A outer s0 H0 E) E:=fun pins σ H s h1 e cls args I hx q=>vn I hx q
theorem cU {X:Cx}{x:Str}{C:Addr}{a1:Expr}{ta:TA}{E:XK}{bmB:List Value}{B newId initId:String}{np cpos pos:Pos}(hc:X.calm=true)(hg:Gl X x)(hm:X.mg x=some (.ref C))(he:PySem.W.excIn X.K C bmB newId=true)(FB:ExcBaseFacts B newId initId bmB)
   (ha:PA X [a1] ta)(hR:wn X E)(hs:starEach [a1] X.env=[(false,eval a1 X.env)]:=by rfl)(hd:(x==("__debug__":Str))=false:=by decide) :
   PS X (.Raise (some (.Call (.Name x np) [a1] [] cpos)) none pos) (rA C E ta):=by
 intro pins s σ H D I h
 obtain⟨tl,N,nm,q,bs,hdct,sn,sub,ab,col,dd,k0,k1,k2,k3,k5,mN,hC,hN,hni,T⟩:=tZ I.mod.kin he
 refine wpAny_Raise_call_subT (C:=C) (nm:=nm) (q:=q) (N:=N) (bs:=bs) (bm:=tl) (hdct:=hdct) (sn:=sn) (sub:=sub) (ab:=ab) (col:=col) (dd:=dd) (k0:=k0) (k1:=k1) (k2:=k2) (k3:=k3) (k5:=k5) FB (mN:=mN) (T.hasType FB.hasBase) (I.ok.hd hc) (by rw[hs];rfl) hni (iU I hg hm ⟨rfl,?_⟩ hd)
 have h2:=ha cpos s σ H _ I h
 rw[hs] at h2 ⊢
 refine Calls.evalArgs_plain (wpAny_mono h2 (fun us s2 h3=>?_) fun _ _ y=>y)
 obtain⟨vs,H1,I1,rv,hl,q1⟩:=h3
 refine⟨rfl,?_,I1.bk _ _ hC,hN.keeps I1.bk,T.keeps I1.bk,fun h' e hx=>hR pins σ H1 s2 h' e _ _ I1 hx q1⟩
 show us.length≤sizeLine
 rw[←rv.length,sizeLine_eq]
 omega
theorem gD {X:Cx}{x:Str}{j:Nat}{value:Expr}{tv:TE}{p1 p2 pos:Pos}(hv:PE X value tv)(hx:x.length≤1000:=by decide)(hev:evalEach [.Constant (.str x) j p1,.FormattedValue value 114 none p2] X.env=[eval (.Constant (.str x) j p1) X.env,eval (.FormattedValue value 114 none p2) X.env]:=by rfl) :
   PE X (.JoinedStr [.Constant (.str x) j p1,.FormattedValue value 114 none p2] pos) (fun σ H Q=>tv σ H fun v H1=>∃ z:Str,v=.str z∧z.length≤1000∧(∀ c∈z.cps.toList,c < 1114112)∧∀ y,Q (.str y) H1):=by
 intro pins s σ H Q I h
 refine wpAny_JoinedStr ?_
 rw[hev]
 have hS:(1000000:Nat)≤sizeLine:=by rw[sizeLine_eq];decide
 refine Calls.Constant_str ⟨x,_,rfl,?_,?_⟩
 · have:(Str.empty++x).length=x.length:=by rw[PySem.Str.length_append];simp[Str.empty,PySem.Str.length]
   rw[this];omega
 refine wpAny_FormattedValue_repr (thn (hv _ σ H _ (I.tok _) h) fun u s1 h1=>?_)
 obtain⟨v,H1,I1,rv,z,rfl,hz,hzc,q⟩:=h1
 obtain⟨t,rfl⟩:=(show ∃ t,u=Value.str z t from rv)
 have hl:(reprText z).length≤10*z.length+2:=StrLaws.reprText_len z (fun c hc=>Nat.lt_of_lt_of_le (hzc c hc) (by decide))
 have e0:(Str.empty++x).length=x.length:=by rw[PySem.Str.length_append];simp[Str.empty,PySem.Str.length]
 refine pyReprObj_str ?_ (by omega)
 have fin:∀ s2 t2,Inv X pins σ H1 s2→∃ y t,(Value.str (reprText z) t2)=.str y t∧(Str.empty++x++y).length≤sizeLine∧Joins (model X.prog X.w) X.A X.xe [] (Str.empty++x++y) (fun out s₁=>out.length≤sizeLine∧EP X pins σ Q (.str out s₁.toks) { s₁ with toks:=s₁.toks+1 }) s2:=fun s2 t2 I2=>by
   have hlen:(Str.empty++x++reprText z).length≤sizeLine:=by rw[PySem.Str.length_append,e0];omega
   exact⟨_,_,rfl,hlen,hlen,.str (Str.empty++x++reprText z),H1,I2.tok _,⟨_,rfl⟩,q _⟩
 exact wpAny_formatField_str (fin _ _ (I1.tok _)) (fin _ _ ((I1.tok _).tok _)) (by omega)
end L2

set_option Elab.async false
set_option linter.all false
set_option maxRecDepth 100000
set_option maxHeartbeats 4000000
namespace L2
open PySem PySem.Spec PyProof.Rows PySem.W Builtin.Getset_descriptor
section
variable {pg:Program}{wd:World}{Ar:Around}{Er:Value→Shared→Prop}{sh:Shared}{KK:Frag}{e C:Addr}
end
structure fc (K:Frag)(C:Addr):Prop where
 exc:excIn K C [.type "ValueError",.type "Exception",.type "BaseException",.type "object"] "ValueError.__new__"=true
 ga:findIn K (.ref C) "__getattribute__"=some (some (.builtin "BaseException.__getattribute__"))
 gt:findIn K (.ref C) "__getattr__"=some none
 cl:(clsIn K C).isSome=true
 ha:findIn K (.ref C) "__class__"=some (some (.builtin "object.__class__"))
 hn:specialIn K (.builtin "object.__class__") "__get__"=some (some (.builtin "getset_descriptor.__get__"))
 ht:takesIn K (.builtin "object.__class__")=some true
 hm:mroIn K C (.type "object")=some true
 hb:mroIn K C (.type "BaseException")=some true
end L2

set_option Elab.async false
set_option linter.all false
set_option maxRecDepth 100000
set_option maxHeartbeats 4000000
namespace L2
open PySem PySem.Spec PyProof.Rows PySem.W

abbrev Cx.bear (X:Cx)(pn:List (Addr×Obj))(W:Value→Shared→Prop):Cx:={ X with pn:=pn,xe:=W }
section
variable {X:Cx}{pins pins':List (Addr×Obj)}{σ:St}{H H':Hp}{s s':Shared}{W:Value→Shared→Prop}
theorem Inv.toBear (I:Inv X pins σ H s)(W:Value→Shared→Prop):Inv (X.bear (X.pn++pins) W) [] σ H s :=
 ⟨⟨I.ok.mod,I.ok.kind,I.ok.glob,I.ok.blt,I.ok.above,I.ok.inj,I.ok.has,I.ok.cab,I.ok.hd,I.ok.frames,I.ok.stk,I.ok.exf,I.ok.bs,I.ok.bsz,I.ok.noex,I.ok.exfs,I.ok.funs,I.ok.frf⟩,I.os,I.bare,I.base,I.loc,I.cell,I.free,I.freeC,fun p hp=>I.pin p (by rw[List.append_nil] at hp;exact hp),I.hok,I.len⟩
theorem Inv.ofBear (I:Inv (X.bear (X.pn++pins) W) pins' σ H s):Inv X pins σ H s :=
 ⟨⟨I.ok.mod,I.ok.kind,I.ok.glob,I.ok.blt,I.ok.above,I.ok.inj,I.ok.has,I.ok.cab,I.ok.hd,I.ok.frames,I.ok.stk,I.ok.exf,I.ok.bs,I.ok.bsz,I.ok.noex,I.ok.exfs,I.ok.funs,I.ok.frf⟩,I.os,I.bare,I.base,I.loc,I.cell,I.free,I.freeC,fun p hp=>I.pin p (List.mem_append_left _ hp),I.hok,I.len⟩
theorem SP.ofBear {D:g9}{f:Flow}(h:SP (X.bear (X.pn++pins) W) pins' D f s'):SP X pins D f s':=by
 cases f with
 | next=>obtain⟨σ',H',I,q⟩:=h;exact⟨σ',H',I.ofBear,q⟩
 | brk=>obtain⟨σ',H',I,q⟩:=h;exact⟨σ',H',I.ofBear,q⟩
 | cont=>obtain⟨σ',H',I,q⟩:=h;exact⟨σ',H',I.ofBear,q⟩
 | ret u=>obtain⟨v,σ',H',I,r,q⟩:=h;exact⟨v,σ',H',I.ofBear,r,q⟩
end
end L2

set_option Elab.async false
set_option linter.all false
set_option maxRecDepth 100000
set_option maxHeartbeats 4000000
namespace L2
open PySem PySem.Spec PyProof.Rows PySem.W

end L2

set_option Elab.async false
set_option linter.all false
set_option maxRecDepth 100000
set_option maxHeartbeats 4000000
namespace L2
open PySem PySem.Spec PyProof.Rows

/-! ### [elt for tg in iter if cnd] -/
theorem l9 {prog:Program}{w:World}{A:Around}{R:Result→Shared→Prop}{s:Shared}{elt target iter cnd:Expr}{scope:Scope}{pos:Pos}{it acc:Value}{env:Env}(I:Nat→Shared→Prop)
   (turn:∀ n s,I n s→∀ E:Value→Shared→Prop,wpAny (model prog w) A (pyNext it) (fun r s₁=>match r with
     | none=>R (.ok .next) s₁
     | some v=>wpAny (model prog w) A (letOwnedTupleGo target it v) (fun _ s₁'=>wpAny (model prog w) A (assign target env v) (fun _ s₂=>wpAny (model prog w) A (isTrue cnd env (eval cnd env)) (fun ok s₂' =>
       if ok=true then wpAny (model prog w) A (eval elt env) (fun x s₃=>wpAny (model prog w) A (call (.builtin "list.append") [acc,x]) (fun _ s₄=>∃ m,m < n∧I m s₄) E s₃) E s₂' else ∃ m,m < n∧I m s₂') E s₂) E s₁') E s₁) E s)
   (n:Nat)(h:I n s) :
   codeAny (model prog w) A (.compLoop (.ListComp elt [⟨target,iter,[cnd],0⟩] scope pos) 0 it acc env) R s:=by
 refine codeAny_loop rfl I (fun n s hI=>?_) n h
 show wpAny _ _ ((compTurn (.ListComp elt [⟨target,iter,[cnd],0⟩] scope pos) 0 it acc env).onRaise _) _ _ s
 refine wpAny_noted ?_
 rw[compTurn_list]
 refine wpAny_bind (wpAny_standAt (wpAny_bind (wpAny_mono (turn n s hI _) (fun r s₁ h₁=>?_) fun _ _ h'=>h')))
 cases r with
 | none=>exact wpAny_pure h₁
 | some v =>
   refine wpAny_bind (wpAny_mono h₁ (fun _ s₁' h₁=>?_) fun _ _ h'=>h')
   refine wpAny_bind (wpAny_mono h₁ (fun _ s₂ h₂=>?_) fun _ _ h'=>h')
   refine wpAny_bind (wpAny_tests_one (wpAny_mono h₂ (fun ok s₃ h₃=>?_) fun _ _ h'=>h'))
   cases ok with
   | false=>exact wpAny_pure ⟨rfl,h₃⟩
   | true =>
     rw[if_pos rfl] at h₃ ⊢
     exact wpAny_bind (wpAny_bind (wpAny_mono h₃ (fun x s₄ h₄=>wpAny_bind (wpAny_mono h₄ (fun _ s₅ h₅=>wpAny_pure (wpAny_pure ⟨rfl,h₅⟩)) fun _ _ h'=>h')) fun _ _ h'=>h'))
def lh (J:It)(g:TG)(tc:TT)(te:TE)(D:Addr)(Q:Hp→Prop) (σ:St)(H:Hp):Prop :=
 ∃ W:Nat→Nat→St→Hp→Prop,(∃ m,W 0 m σ H)∧∀ i m σ' H',W i m σ' H' →
   (J.stop i H'∧Q H')∨(J.go i H'∧∃ N:St→Hp→Prop,(∀ σ'' H'',N σ'' H''→∃ m',m' < m∧W (i+1) m' σ'' H'') ∧
     ∀ x H2,J.yld i H' x H2→g x σ' H2 fun σ2 H3=>tc σ2 H3 fun b H3'=>if b=true then te σ2 H3' fun v H4=>∃ xs,H4 D=some (.lst xs)∧xs.length < sizeLine∧N σ2 (upd H4 D (.lst (xs++[v]))) else N σ2 H3')
section
variable {X:Cx}{pins:List (Addr×Obj)}{σ:St}{H:Hp}{s:Shared}{scope:Scope}{N':List Str}{pk:List (Option Nat)}{fp:List Addr}
theorem qg {elt tg iter cnd:Expr}{g:TG}{tc:TT}{te:TE}{J:It}{it:Addr}{tn:Nat→Heap→Prop}{pos:Pos}{QD:Addr→Hp→Prop}{E:Value→Shared→Prop}{RR:Value→Addr→Result→Shared→Prop}
   (I:Inv X pins σ H s)(B:cg X.N X.env scope N' pk)(hc:X.calm=true)(T:lg X.prog X.w X.K tg J fp it tn)(st:tn 0 s.heap)(hf:∀ b∈fp,d8 X pins H b)
   (hg:∀ s H ex,PG (cxB X N' scope s H ex) tg g)(ht:∀ s H ex,PT (cxB X N' scope s H ex) cnd tc)(he:∀ s H ex,PE (cxB X N' scope s H ex) elt te)
   (hW:∀ D,H D=none→lh J g tc te D (QD D) (f9 pk σ) (upd H D (.lst [])))
   (fin:∀ D C s' H' m,Inv X pins σ H' s'→d8 X pins H' C→s'.heap.Ns C m→QD D H'→RR (.ref D) C (.ok .next) s') :
   wpAny (model X.prog X.w) X.A (newList []) (fun acc s₃=>wpAny (model X.prog X.w) X.A (newFunctionEnv scope X.env.globals (ix scope X.env) [] X.env.qual none .none (some X.env)) (fun cenv s₄ =>
     codeAny (model X.prog X.w) X.A (.compStart (.ListComp elt [⟨tg,iter,[cnd],0⟩] scope pos) 0 (.ref it) acc { cenv with scope:=relabel scope X.env }) (RR acc cenv.locals) s₄) E s₃) E s:=by
 have hD0:H s.heap.objs.size=none:=I.hok.fresh (Nat.le_refl _)
 refine wpAny_newObj_type (wpAny_newFunctionEnv B.nocell (by intro y hy;simp at hy) (fun h₁ hns₁ hsb₁=>?_) B.kind)
 dsimp only at hns₁ hsb₁ ⊢
 have I3:Inv X pins σ (upd H s.heap.objs.size (.lst [])) { s with heap:=s.heap.push { cls:=.type "list",dict:=none,data:=.seq ([]:List Value).toArray } }:=I.lnew (t':=s.toks) .nil (Nat.zero_le _)
 obtain⟨W,⟨m0,w0⟩,turn⟩:=hW _ hD0
 generalize hs3:({ s with heap:=s.heap.push { cls:=.type "list",dict:=none,data:=.seq ([]:List Value).toArray } }:Shared)=s3 at I3
 have eh:s.heap.push { cls:=.type "list",dict:=none,data:=.seq ([]:List Value).toArray }=s3.heap:=by rw[←hs3]
 have hold:∀ b o,s.heap.get? b=some o→s3.heap.get? b=some o:=fun b o e=>by rw[←eh];exact Heap.get?_push_of_some _ e
 rw[eh] at hns₁ hsb₁
 have hs:∀ b o,s3.heap.get? b=some o→h₁.get? b=some o:=fun b o e=>hsb₁.extBut b o (Nat.ne_of_lt (Heap.lt_size e)) (Heap.get?_push_of_some _ e)
 have hf3:∀ b∈fp,d8 X pins (upd H s.heap.objs.size (.lst [])) b:=fun b hb=>by
   refine⟨?_,(hf b hb).2⟩
   obtain⟨o,e,_⟩:=T.obj 0 _ st b hb
   rw[ai (Nat.ne_of_lt (Heap.lt_size e))]
   exact(hf b hb).1
 have ho3:∀ b∈fp,∃ o,s3.heap.get? b=some o:=fun b hb=>by
   obtain⟨o,e,_⟩:=T.obj 0 _ st b hb
   exact⟨o,hold _ _ e⟩
 have st1:tn 0 h₁:=T.keep 0 _ _ st fun b hb o e=>hs b o (hold b o e)
 have esh:∀ t,({ s with heap:=h₁,toks:=t }:Shared)={ s3 with heap:=h₁,toks:=t }:=fun t=>by rw[←hs3]
 have loop:∀ t,codeAny (model X.prog X.w) X.A (.compLoop (.ListComp elt [⟨tg,iter,[cnd],0⟩] scope pos) 0 (.ref it) (.ref s.heap.objs.size) (compEnvC scope (ix scope X.env) s3.heap.objs.size X.env))
     (RR (.ref s.heap.objs.size) s3.heap.objs.size) { s with heap:=h₁,toks:=t }:=fun t=>by
   rw[esh t]
   have IB:Inv (cxB X N' scope s3 (upd H s.heap.objs.size (.lst [])) fp) [] (f9 pk σ) (upd H s.heap.objs.size (.lst [])) { s3 with heap:=h₁,toks:=t }:=oV I3 B hf3 ho3 hns₁ hs
   have f2:∀ b∈fp,d8 (cxB X N' scope s3 (upd H s.heap.objs.size (.lst [])) fp) [] (upd H s.heap.objs.size (.lst [])) b:=fun b hb =>
     ⟨(hf3 b hb).1,(IB.ok.exf b hb).1,IB.ok.exfs b hb,.inl hb,(IB.ok.exf b hb).2,fun p hp=>absurd (show p∈([]:List (Addr×Obj)) from hp) (by simp)⟩
   have stat:∀ {H':Hp},(∀ b∈fp,H' b=none)→∀ b∈fp,d8 (cxB X N' scope s3 (upd H s.heap.objs.size (.lst [])) fp) [] H' b:=fun hn b hb=>⟨hn b hb,(f2 b hb).2⟩
   refine l9 (fun n s'=>∃ i σ' H',Inv (cxB X N' scope s3 (upd H s.heap.objs.size (.lst [])) fp) [] σ' H' s'∧tn i s'.heap∧(∀ b∈fp,H' b=none)∧W i n σ' H') ?_ m0 ⟨0,_,_,IB,st1,fun b hb=>(f2 b hb).1,w0⟩
   rintro n s4 ⟨i,σ4,H4,I4,st4,fr4,w4⟩ E'
   rcases turn i n σ4 H4 w4 with ⟨stop,qn⟩ | ⟨go,N,hN,step⟩
   · refine thn (T.done (cxB X N' scope s3 (upd H s.heap.objs.size (.lst [])) fp) rfl rfl rfl hc i [] s4 σ4 H4 E' I4 (stat fr4) st4 stop) fun r s5 ⟨hr,I5⟩=>?_
     subst hr
     obtain⟨m5,hn5,_⟩:=I5.loc
     have IX:Inv X pins σ H4 s5:=I3.call' (ch:=fp) I5.os I5.base I5.hok I5.bare fun b hb=>⟨(hf3 b hb).2.2.2.1,(hf3 b hb).2.1,(hf3 b hb).2.2.2.2.1,(hf3 b hb).2.2.2.2.2⟩
     exact fin _ _ s5 H4 m5 IX (I3.fpOk (Nat.le_refl _) I5.free) hn5 qn
   · refine thn (T.item (cxB X N' scope s3 (upd H s.heap.objs.size (.lst [])) fp) rfl rfl rfl hc i [] s4 σ4 H4 E' I4 (stat fr4) st4 go) fun r s5 ⟨u,hr,h5⟩=>?_
     subst hr
     refine thn h5 fun _ s6 ⟨x,H6,I6,r6,y6,st6,fr6⟩=>?_
     have I6':=I6.pinned (stat fr6) (T.obj _ _ st6)
     refine wpAny_mono (hg _ _ _ s6 σ4 H6 x u _ I6' r6 (step x H6 y6)) (fun _ s7 ⟨σ7,H7,I7,q7⟩=>?_) fun _ _ z=>False.elim z
     refine wpAny_mono (ht _ _ _ s7 σ7 H7 _ I7 q7) (fun bb s7' ⟨H7',I7',q7'⟩=>?_) fun _ _ z=>False.elim z
     have back:∀ H9 s9,Inv (cxB X N' scope s3 (upd H s.heap.objs.size (.lst [])) fp) ([]++ju fp s6.heap) σ7 H9 s9→N σ7 H9→∃ m,m < n∧∃ i σ' H',Inv (cxB X N' scope s3 (upd H s.heap.objs.size (.lst [])) fp) [] σ' H' s9∧tn i s9.heap∧(∀ b∈fp,H' b=none)∧W i m σ' H':=fun H9 s9 I9 n9=>by
       obtain⟨m',hm,w9⟩:=hN σ7 H9 n9
       refine⟨m',hm,i+1,σ7,H9,I9.unpinned,T.keep _ _ _ st6 fun b hb o e=>(I9.pin (b,o) (List.mem_append_right _ (List.mem_append_right _ (cZ hb e)))).1,fun b hb=>?_,w9⟩
       obtain⟨o,e,d⟩:=T.obj _ _ st6 b hb
       exact(I9.pin (b,o) (List.mem_append_right _ (List.mem_append_right _ (cZ hb e)))).2.1
     cases bb with
     | false=>exact back H7' s7' I7' q7'
     | true =>
       refine wpAny_mono (he _ _ _ s7' σ7 H7' _ I7' q7') (fun w s8 ⟨v,H8,I8,r8,xs,hx8,hl8,n8⟩=>?_) fun _ _ z=>False.elim z
       refine wpAny_mono (ca (X:=cxB X N' scope s3 (upd H s.heap.objs.size (.lst [])) fp) _ s8 σ7 H8 (.ref s.heap.objs.size) [v] (.ref s.heap.objs.size) [w] (fun _ H9=>N σ7 H9) I8 rfl (.cons r8 .nil) ⟨_,xs,v,rfl,rfl,hx8,hl8,n8⟩) (fun _ s9 ⟨_,H9,I9,_,n9⟩=>?_) fun _ _ z=>False.elim z
       exact back H9 s9 I9 n9
 rw[←eh] at loop
 exact codeAny_compStart_list (loop _) (T.self _ _ _ _ _ st1 (loop _))

def sE (pk:List (Option Nat))(wi:TI)(g:TG)(tc:TT)(te:TE):TE:=fun σ H Q=>wi σ H fun J H1=>∀ D,H1 D=none→lh J g tc te D (fun H'=>Q (.ref D) H') (f9 pk σ) (upd H1 D (.lst []))
theorem l5 {elt tg iter cnd:Expr}{wi:TI}{g:TG}{tc:TT}{te:TE}{pos:Pos}(hc:X.calm=true)(B:cg X.N X.env scope N' pk)(hi:PI X tg iter wi)
   (hg:∀ s H ex,PG (cxB X N' scope s H ex) tg g)(ht:∀ s H ex,PT (cxB X N' scope s H ex) cnd tc)(he:∀ s H ex,PE (cxB X N' scope s H ex) elt te)(hs:∀ x,foldedSetIterable iter X.env x=pure x:=by intro _;rfl) :
   PE X (.ListComp elt [⟨tg,iter,[cnd],0⟩] scope pos) (sE pk wi g tc te):=by
 intro pins s σ H Q I h
 rw[eval_ListComp]
 have hclos:=gi (iD I B)
 refine wpAny_comprehension_free (use:=none) rfl hs hclos B.kind B.names (thn (hi s σ H _ I h) fun v s1 h1=>thn h1 fun itv s2 h2=>?_)
 obtain⟨it,fp,tn,J,H2,e,I2,T,st2,f2,hW⟩:=h2
 subst e
 refine qg (QD:=fun D H'=>Q (.ref D) H') (RR:=fun acc C=>compPost (model X.prog X.w) X.A X.xe none (EP X pins σ Q) acc C) I2 B hc T st2 f2 hg ht he hW fun D C s' H' m I' f' hn q=>?_
 exact⟨m,hn,fun h' hs'=>⟨.ref D,H',I'.gone f' hs',rfl,q⟩⟩
end
end L2

set_option Elab.async false
set_option linter.all false
set_option maxRecDepth 100000
set_option maxHeartbeats 4000000
namespace L2
open PySem PySem.Spec PyProof.Rows
end L2

set_option Elab.async false
set_option linter.all false
set_option maxRecDepth 100000
set_option maxHeartbeats 8000000
namespace L2
open PySem
theorem kK:∀ (ss:List Str) (n:Nat),Vals (ss.map V.str) (strsFrom n ss)
 | [],_=>.nil
 | x::xs,n=>.cons ⟨_,rfl⟩ (kK xs (n+1))
section
variable {X:Cx}
theorem g8 {pins:List (Addr×Obj)}{σ:St}{H:Hp}{s:Shared}{Q:VK}{ss:List Str}{vs:List Value} (k:Nat)(I:Inv X pins σ H s)(hv:Vals (ss.map V.str) vs)(hz:ss.length≤sizeLine)(q:∀ p,H p=none→Q (.ref p) (upd H p (.lst (ss.map V.str)))) :
   EP X pins σ Q (.ref s.heap.objs.size) { heap:=s.heap.push { cls:=Value.type "list",data:=Data.seq vs.toArray },gens:=s.gens,drawn:=s.drawn,toks:=k,os:=s.os } :=
 ⟨.ref s.heap.objs.size,_,I.laid (t':=k) (o:=.lst (ss.map V.str)) (fun b ob q=>Heap.get?_push_of_some _ q) (Nat.le_refl _) ⟨by rw[List.length_map];exact hz,_,0,hv,Heap.get?_push_size _ rfl⟩,rfl,q _ (I.hok.fresh (Nat.le_refl _))⟩
theorem nh:MtR X "str.split" (fun x vs H Q=>∃ z y,x=.str z∧vs=[.str y]∧(y.length==0)=false∧z.length+2≤sizeLine∧∀ p,H p=none→Q (.ref p) (upd H p (.lst ((Txt.split z y).map V.str)))):=by
 intro pins s σ H x xs v us Q I rx rs h
 obtain⟨z,y,rfl,rfl,hy,hz,q⟩:=h
 obtain⟨t,rfl⟩:=rx
 obtain⟨u,rfl,ru⟩:=rs.one
 obtain⟨t',rfl⟩:=ru
 have hle:=PyProof.Rows.split_le z y
 by_cases h1:(decide (z.length < y.length)||decide (Builtin.Str.strKind z < Builtin.Str.strKind y))=true
 · have e:Txt.split z y=[z]:=by unfold Txt.split;rw[if_pos h1]
   rw[e] at q
   refine call_meets F.slot_str_split (typeIs_str _ _ _) F.entry_str_split (F.args_str_split_2 _ _) (meets_str_split_cannot_occur z y t t' h1) ?_
   exact g8 (ss:=[z]) _ I (.cons ⟨_,rfl⟩ .nil) (by show 1≤_;omega) q
 · have h1':(decide (z.length < y.length)||decide (Builtin.Str.strKind z < Builtin.Str.strKind y))=false:=by simpa using h1
   by_cases h2:(Builtin.Str.occurrences z y 0 z.length (z.length+1)).isEmpty=true
   · have e:Txt.split z y=[z]:=by unfold Txt.split;rw[if_neg h1,if_pos h2]
     rw[e] at q
     refine call_meets F.slot_str_split (typeIs_str _ _ _) F.entry_str_split (F.args_str_split_2 _ _) (meets_str_split_not_found z y t t' h1' hy h2) ?_
     exact g8 (ss:=[z]) _ I (.cons ⟨_,rfl⟩ .nil) (by show 1≤_;omega) q
   · have e:Txt.split z y=Builtin.Str.partsBetween z (Builtin.Str.occurrences z y 0 z.length (z.length+1)) y.length:=by unfold Txt.split;rw[if_neg h1,if_neg h2]
     rw[e] at hle q
     refine call_meets F.slot_str_split (typeIs_str _ _ _) F.entry_str_split (F.args_str_split_2 _ _) (meets_str_split_sep z y t t' h1' hy (by simpa using h2) (by omega) (by omega)) ?_
     exact g8 _ I (kK _ _) (by omega) q
end
end L2

set_option Elab.async false
set_option linter.all false
set_option maxRecDepth 100000
set_option maxHeartbeats 8000000
namespace L2
open PySem PySem.Spec PyProof.Rows PySem.W
theorem t9 {X:Cx}{body:List Stmt}{x n:Str}{suite:List Stmt}{b0:Stmt}{np hpos pos:Pos}{t:TS}(hb:∀ (pn:List (Addr×Obj))(W:Value→Shared→Prop),PSs (X.bear pn W) body t) :
   PS X (.Try body [.ExceptHandler (some (.Name x np)) (some n) (b0::suite) hpos] [] [] pos) t:=by
 intro pins s σ H D I h
 refine wpAny_Try_except ?_
 refine wpAny_mono (hb (X.pn++pins) _ s σ H D (I.toBear _) h) (fun f s1 q=>?_) (fun _ _ z=>z)
 have q':SP X pins D f s1:=SP.ofBear q
 cases f with
 | next=>exact wpAny_execs_nil q'
 | brk=>exact q'
 | cont=>exact q'
 | ret u=>exact q'
end L2

set_option Elab.async false
set_option linter.all false
set_option maxRecDepth 100000
set_option maxHeartbeats 8000000
namespace L2
open PySem PySem.Spec PyProof.Rows
def wD (cs:List Int):TA:=fun _ H Q=>Q (cs.map V.int) H
def mq (cs:List Str):TA:=fun _ H Q=>Q (cs.map V.str) H
theorem nV (c:Str)(cs:List Str):cM (tC (.str c)) (mq cs)=mq (c::cs):=rfl
theorem oy {X:Cx}:∀ (l:List (Str×Nat×Pos)),PA X (l.map fun q=>.Constant (.str q.1) q.2.1 q.2.2) (mq (l.map (·.1)))
 | []=>(ad:PA X [] nB)
 | q::l=>by
   rw[List.map_cons,List.map_cons,←nV]
   exact aa aV (oy l)
def vf:List Expr→List Int→Bool
 | [],[]=>true
 | .Constant (.int c) _ _::es,d::ds=>decide (c=d)&&vf es ds
 | _,_=>false
def lP:List Expr→List Str→Bool
 | [],[]=>true
 | .Constant (.str c) _ _::es,d::ds=>decide (c=d)&&lP es ds
 | _,_=>false
theorem k6:∀ {es:List Expr}{cs:List Str},lP es cs=true→∃ l:List (Str×Nat×Pos),es=l.map (fun q=>.Constant (.str q.1) q.2.1 q.2.2)∧cs=l.map (·.1)
 | [],[],_=>⟨[],rfl,rfl⟩
 | .Constant (.str c) k p::es,d::ds,h=>by
   have h':(decide (c=d)&&lP es ds)=true:=h
   rw[Bool.and_eq_true,decide_eq_true_eq] at h'
   obtain⟨rfl,h2⟩:=h'
   obtain⟨l,rfl,rfl⟩:=k6 h2
   exact⟨(c,k,p)::l,rfl,rfl⟩
theorem wA {X:Cx}{es:List Expr}(cs:List Str)(h:lP es cs=true):PA X es (mq cs):=by
 obtain⟨l,rfl,rfl⟩:=k6 h
 exact oy l
abbrev tV (K:PySem.W.Frag):List V→Hp→VK→Prop:=fun xs H Q=>∃ p ys,xs=[.ref p]∧(SqL K H p ys∨SqT K H p ys)∧∀ l,H l=none→Q (.ref l) (upd H l (.lst ys))
theorem fZ {P:Program}{w:World}{X:Cx}:eU (CX1 P w) X (fun _ _ _=>False):=fun _ _ _ _ _ _ _ ⟨_,_,_,_,_,_,_,_,_,_,_,_,_,h⟩=>h.elim
theorem qN (L:List Int){x:Int}(h0:0≤x)(h1:x < L.length):∃ y∈L,atI (L.map V.int) x=some (V.int y):=by
 obtain⟨j,rfl⟩:=Int.eq_ofNat_of_zero_le h0
 have hj:j < L.length:=by omega
 exact⟨L[j],List.getElem_mem hj,eX (by rw[List.getElem?_map,List.getElem?_eq_getElem hj];rfl)⟩
theorem bj {t u:TS}{D:g9}{σ:St}{H:Hp}(Pv:St→Hp→Prop)(h:∀ R:St→Hp→Prop,(∀ σ' H',Pv σ' H'→R σ' H')→t { D with nx:=R } σ H)(k:∀ σ' H',Pv σ' H'→u D σ' H'):vo t u D σ H:=⟨Pv,h Pv (fun _ _ x=>x),k⟩
end L2

set_option Elab.async false
set_option linter.all false
set_option maxRecDepth 100000
set_option maxHeartbeats 8000000
namespace L2
open PySem PySem.Spec PyProof.Rows
theorem k7 {ns:List Int}:∀ {us:List Value},Vals (ns.map V.int) us→IntsAre us ns:=by
 induction ns with
 | nil=>intro us r;rw[List.map_nil] at r;cases r;exact .nil
 | cons n ns ih =>
   intro us r
   rw[List.map_cons] at r
   cases r with
   | cons r1 r2 =>
     obtain⟨t,e⟩:=r1
     cases e
     exact .cons n t (ih r2)
section
variable {X:Cx}
theorem qy (hc:X.calm=true):cv X (.builtin "max") (fun xs H Q=>∃ (a:Addr)(ns:List Int),xs=[.ref a]∧SqL X.K H a (ns.map V.int)∧0 < ns.length∧∀ M,M∈ns→(∀ a∈ns,a≤M)→Q (.int M) H):=by
 intro pins s σ H xs us Q I r h
 obtain⟨a,ns,rfl,ha,hne,q⟩:=h
 obtain⟨u,rfl,ru⟩:=dW r
 cases ru
 obtain⟨its,rv,pl,_⟩:=I.list ha
 have hl:=pl.isList
 have hi:=k7 rv
 obtain⟨xs,e⟩:=hi.allInts.items
 have hns:ns=xs.toList.map (·.1):=by
   rw[←hi.numsOf,←nums_intItems,←e]
 have hsz:0 < xs.size:=by
   have h3:=hne;rw[hns,List.length_map,Array.length_toList] at h3;exact h3
 rw[e] at hl
 refine max_intList (I.ok.hd hc) hl hsz fun v h' tk hv hk=>?_
 obtain⟨t,rfl⟩:=intItems_at hv
 obtain⟨h1,h2⟩:=argBest_gt (numAt xs) (xs.size - 1)
 refine⟨.int _,H,I.kept hk,⟨t,rfl⟩,q _ ?_ fun a ha=>?_⟩
 · rw[hns,numAt_eq];exact getD_mem (by rw[List.length_map,Array.length_toList];omega)
 · rw[hns] at ha
   obtain⟨j,hj,rfl⟩:=mem_getD ha
   rw[List.length_map,Array.length_toList] at hj
   rw[←numAt_eq];exact h2 j (by omega)
end
theorem cc {J:It}{H0:Hp}{n:Nat}{vs:Nat→V→Prop}{g:TG}{tb:TS}{D:g9}{σ:St}{H:Hp}(S:dQ J H0 n vs)(Pv:Nat→St→Hp→Prop)(h0:Pv 0 σ H)(hsame:∀ i σ H,i≤n→Pv i σ H→af H0 H)
   (hs:∀ i x σ H,i < n→vs i x→Pv i σ H→∀ R:St→Hp→Prop,(∀ σ' H',Pv (i+1) σ' H'→R σ' H')→g x σ H fun σ2 H2=>tb { D with nx:=R,ct:=R,bk:=D.nx } σ2 H2)(hd:∀ σ H,Pv n σ H→D.nx σ H):tq J g tb D σ H :=
 aU S Pv h0 hsame (fun i x σ H hi hx p=>hs i x σ H hi hx p _ fun _ _ z=>z) hd
section
variable {X:Cx}
theorem Inv.thaw {pins:List (Addr×Obj)}{σ:St}{H:Hp}{s:Shared}{d:Addr}{o:Obj}{kvs:List (Key×V)}(I:Inv X pins σ H s)(h:H d=some (.frz o (.dK kvs)))(h0:∀ o u,X.H₀ d≠some (.frz o u)):Inv X pins σ (upd H d (.dK kvs)) s:=by
 have ne:∀ b,H b=none→b≠d:=fun b e z=>by rw[z,h] at e;cases e
 refine⟨I.ok,I.os,I.bare,⟨I.base.keep,I.base.slot,fun b ob e n hx=>?_,I.base.there,fun b xs e=>?_,fun b ob u e=>?_,fun b ps e=>?_⟩,I.loc,I.cell,?_,fun x c e=>?_,fun p hp=>?_,fun a u e=>?_,I.len⟩
 · have:=I.base.free b ob e n hx
   rw[ai (ne b this)];exact this
 · have:=I.base.tups b xs e
   have hb:b≠d:=fun z=>by rw[z,h] at this;cases this
   rw[ai hb];exact this
 · have:=I.base.frzs b ob u e
   have hb:b≠d:=fun z=>by rw[z] at e;exact h0 _ _ e
   rw[ai hb];exact this
 · obtain⟨more,this⟩:=I.base.tbls b ps e
   have hb:b≠d:=fun z=>by rw[z,h] at this;cases this
   exact⟨more,by rw[ai hb];exact this⟩
 · rw[ai (ne _ I.free)];exact I.free
 · rw[ai (ne _ (I.freeC x c e))];exact I.freeC x c e
 · obtain⟨e1,n,r⟩:=I.pin p hp
   exact⟨e1,by rw[ai (ne _ n)];exact n,r⟩
 · have ho:∀ b y,H b=some (.own y)→upd H d (.dK kvs) b=some (.own y):=fun b y q=>by
     have hb:b≠d:=fun z=>by rw[z,h] at q;cases q
     rw[ai hb];exact q
   have ht:∀ b xs,H b=some (.tup xs)→upd H d (.dK kvs) b=some (.tup xs):=fun b xs q=>by
     have hb:b≠d:=fun z=>by rw[z,h] at q;cases q
     rw[ai hb];exact q
   by_cases ha:a=d
   · subst ha
     rw[ac] at e
     cases e
     have:=I.hok a _ h
     exact bF.stay this.2 (fun _ _ _ q=>q) (fun b q=>ho b _ q) ht
   · rw[ai ha] at e
     exact bF.stay (I.hok a _ e) (fun _ _ _ q=>q) (fun b q=>ho b _ q) ht
def uL (H0:Hp)(te:TE):TE:=fun σ H Q=>te σ H fun v H'=>Q v H'∨∃ d o kvs,H' d=some (.frz o (.dK kvs))∧(∀ o u,H0 d≠some (.frz o u))∧Q v (upd H' d (.dK kvs))
theorem uq {e:Expr}{te:TE}(h:PE X e te):PE X e (uL X.H₀ te):=by
 intro pins s σ H Q I q
 refine thn (h s σ H _ I q) fun v s1 ⟨x,H1,I1,r1,q1⟩=>?_
 rcases q1 with q1 | ⟨d,o,kvs,hd,h0,q1⟩
 · exact⟨x,H1,I1,r1,q1⟩
 · exact⟨x,_,I1.thaw hd h0,r1,q1⟩
end
theorem tm {CX:CXT}{P:Program}{w:World}{K:PySem.W.Frag}{mg:Str→Option Value}{base:Heap}{N:List Str}{qual:Str}{scope:Scope}{f:Addr}{cd:Value}{A:Around}{outer:List Env}{s:Shared}{H:Hp}{E:XK}:(cu CX P w K mg base N qual scope f cd A outer s H E).H₀=H:=rfl
theorem vx {X:Cx}:X.nox.H₀=X.H₀:=rfl
end L2

set_option Elab.async false
set_option linter.all false
set_option maxRecDepth 100000
set_option maxHeartbeats 8000000
namespace L2
open PySem PySem.Spec PyProof.Rows
section
variable {X:Cx}
theorem oZ:∀ (xs ys:List V),xs.length=ys.length→((List.range xs.length).all fun j=>eqV (xs.getD j .non) (ys.getD j .non))=(xs.zip ys).all fun p=>eqV p.1 p.2:=by
 intro xs
 induction xs with
 | nil=>intro ys _;rfl
 | cons x xs ih =>
   intro ys h
   cases ys with
   | nil=>simp at h
   | cons y ys =>
     rw[List.length_cons,List.range_succ_eq_map,List.all_cons,List.all_map,List.zip_cons_cons,List.all_cons]
     have h':xs.length=ys.length:=by simpa using h
     rw[←ih ys h']
     rfl
theorem m9 {its its2:List Value}{xs ys:List V}{A:Around}{s:Shared}(r1:Vals xs its)(r2:Vals ys its2)(f1:xs.all cX=true)(f2:ys.all cX=true)(hl:xs.length=ys.length) :
   ∀ j (h1:j < its.toArray.size)(h2:j < its2.toArray.size),SeqAt.EqAt A s its.toArray[j] its2.toArray[j] (eqV (xs.getD j .non) (ys.getD j .non)):=by
 intro j h1 h2
 have l1:=r1.length
 have l2:=r2.length
 have hj1:j < xs.length:=by rw[l1];simpa using h1
 have hj2:j < ys.length:=by rw[l2];simpa using h2
 obtain⟨u1,hu1,ru1⟩:=r1.get (List.getElem?_eq_getElem hj1)
 obtain⟨u2,hu2,ru2⟩:=r2.get (List.getElem?_eq_getElem hj2)
 have e1:its.toArray[j]=u1:=by
   have:=(List.getElem?_eq_some_iff.mp hu1).2
   simpa using this
 have e2:its2.toArray[j]=u2:=by
   have:=(List.getElem?_eq_some_iff.mp hu2).2
   simpa using this
 rw[e1,e2,List.getD_eq_getElem?_getD,List.getD_eq_getElem?_getD,List.getElem?_eq_getElem hj1,List.getElem?_eq_getElem hj2]
 exact rl ru1 ru2 (List.all_eq_true.mp f1 _ (List.getElem_mem hj1)) (List.all_eq_true.mp f2 _ (List.getElem_mem hj2))
def gX (xs ys:List V):Bool:=decide (xs.length=ys.length)&&(xs.zip ys).all fun p=>eqV p.1 p.2
def vy (K:PySem.W.Frag)(neg:Bool):R2:=fun x y H Q=>∃ a b xs ys,x=.ref a∧y=.ref b∧SqL K H a xs∧SqL K H b ys∧((xs.all cX=true∧ys.all cX=true)∨xs.length≠ys.length∨xs=[])∧Q (.bl (neg^^gX xs ys)) H
theorem xa (hu:X.A.units < cLine):OpR X (compareOp .Eq) (vy X.K false):=by
 intro pins s σ H x y v u Q I rx ry h
 obtain⟨a,b,xs,ys,rfl,rfl,ha,hb,hf,q⟩:=h
 cases rx
 cases ry
 obtain⟨its,r1,t1,_⟩:=I.list ha
 obtain⟨its2,r2,t2,_⟩:=I.list hb
 have l1:=r1.length
 have l2:=r2.length
 by_cases hl:xs.length=ys.length
 · have hf':xs.all cX=true∧ys.all cX=true:=by
     rcases hf with h | h | h
     · exact h
     · exact absurd hl h
     · rw[h];rw[h] at hl;rw[show ys=[] from List.length_eq_zero_iff.mp hl.symm];exact⟨rfl,rfl⟩
   refine SeqAt.eq_listAt t1.isList t2.isList (by simp;omega) hu (m9 r1 r2 hf'.1 hf'.2 hl) ?_
   have e:((List.range its.toArray.size).all fun j=>eqV (xs.getD j .non) (ys.getD j .non))=gX xs ys:=by
     unfold gX
     rw[decide_eq_true hl,Bool.true_and,←oZ xs ys hl,l1]
     simp
   rw[e]
   rw[Bool.false_xor] at q
   exact⟨.bl _,H,I,rfl,q⟩
 · have e:gX xs ys=false:=by unfold gX;rw[decide_eq_false hl,Bool.false_and]
   rw[e] at q
   exact SeqAt.eq_list_lengthsAt t1.isList t2.isList (by simp;omega) hu ⟨.bl _,H,I,rfl,q⟩
theorem vk (hu:X.A.units < cLine):OpR X (compareOp .NotEq) (vy X.K true):=by
 intro pins s σ H x y v u Q I rx ry h
 obtain⟨a,b,xs,ys,rfl,rfl,ha,hb,hf,q⟩:=h
 cases rx
 cases ry
 obtain⟨its,r1,t1,_⟩:=I.list ha
 obtain⟨its2,r2,t2,_⟩:=I.list hb
 have l1:=r1.length
 have l2:=r2.length
 by_cases hl:xs.length=ys.length
 · have hf':xs.all cX=true∧ys.all cX=true:=by
     rcases hf with h | h | h
     · exact h
     · exact absurd hl h
     · rw[h];rw[h] at hl;rw[show ys=[] from List.length_eq_zero_iff.mp hl.symm];exact⟨rfl,rfl⟩
   refine SeqAt.RcNeAt.lists t1.isList t2.isList (by simp;omega) hu (m9 r1 r2 hf'.1 hf'.2 hl) _ _ _ _ ?_
   have e:((List.range its.toArray.size).all fun j=>eqV (xs.getD j .non) (ys.getD j .non))=gX xs ys:=by
     unfold gX
     rw[decide_eq_true hl,Bool.true_and,←oZ xs ys hl,l1]
     simp
   rw[e]
   rw[Bool.true_xor] at q
   exact⟨.bl _,H,I,rfl,q⟩
 · have e:gX xs ys=false:=by unfold gX;rw[decide_eq_false hl,Bool.false_and]
   rw[e] at q
   exact SeqAt.RcNeAt.lists_lengths t1.isList t2.isList (by simp;omega) hu _ _ _ _ ⟨.bl _,H,I,rfl,q⟩
theorem kC:∀ (xs ys:List Str),gX (xs.map V.str) (ys.map V.str)=decide (xs=ys)
 | [],[]=>rfl
 | [],y::ys=>by simp[gX]
 | x::xs,[]=>by simp[gX]
 | x::xs,y::ys=>by
   have ih:=kC xs ys
   unfold gX at ih ⊢
   have e:eqV (.str x) (.str y)=decide (x=y):=by
     show(x==y)=decide (x=y)
     by_cases h:x=y
     · rw[h];simp
     · simp[h]
   rw[List.map_cons,List.map_cons,List.length_cons,List.length_cons,List.zip_cons_cons,List.all_cons,e]
   by_cases h:x=y
   · subst h
     simp only[decide_true,Bool.true_and,List.cons.injEq,true_and,Nat.add_right_cancel_iff]
     exact ih
   · simp[h]
end
end L2

set_option Elab.async false
set_option linter.all false
set_option maxRecDepth 100000
set_option maxHeartbeats 8000000
namespace L2
open PySem PySem.Spec PyProof.Rows
section
variable {prog:Program}{w:World}{A:Around}{E:Value→Shared→Prop}{s:Shared}
end
section
variable {prog:Program}{w:World}{κ:Type} [DecidableEq κ]{knd:KeyKind prog w κ}
end
end L2

set_option Elab.async false
set_option linter.all false
set_option maxRecDepth 100000
set_option maxHeartbeats 8000000
namespace L2
open PySem PySem.Spec PyProof.Rows
/-! ### order of texts -/
section
variable {X:Cx}
end
end L2

set_option Elab.async false
set_option linter.all false
set_option maxRecDepth 100000
set_option maxHeartbeats 8000000
namespace L2
open PySem PySem.Spec PyProof.Rows
section
variable {X:Cx}{pins:List (Addr×Obj)}{σ:St}{H:Hp}{s:Shared}{h':Heap}
theorem Inv.turnedT {t':Nat}{ch:List Addr}{T:Addr}{o:HO}(I:Inv X pins σ H s)(hf:∀ b∈ch,d8 X pins H b)(k:∀ b o,b∉ch→s.heap.get? b=some o→h'.get? b=some o)(hp:s.heap.objs.size≤T)
   (new:bF X.prog X.w (upd H T o) h' T o):Inv X pins σ (upd H T o) { s with heap:=h',toks:=t' }:=by
 have hTn:H T=none:=I.hok.fresh hp
 have nit:∀ b u,H b=some u→b∉ch:=fun b u e z=>by rw[(hf b z).1] at e;cases e
 have nT:∀ b o,s.heap.get? b=some o→b≠T:=fun b o e=>Nat.ne_of_lt (Nat.lt_of_lt_of_le (Heap.lt_size e) hp)
 refine I.step (g':=s.gens) (d':=s.drawn) (ch:=ch) (fun b hb=>?_) (fun b o _ _ hc e _=>k b o hc e) (fun b o _ _ hc e _=>⟨o.slots,k b o hc e⟩) (fun b u _ e n=>by rw[ai (nT b u e)];exact n)
   (fun b o hc e=>⟨o,k b o hc e⟩) (fun b xs e=>by rw[ai (ak e hTn)];exact e) (fun b u v e=>by rw[ai (ak e hTn)];exact e) (fun b ps e=>⟨#[],by rw[ai (ak e hTn),e];simp⟩) (fun m hm=>?_) (fun b u e=>?_) I.bare
 · obtain⟨f0,f1,f2,f3,f4,f5⟩:=hf b hb
   exact⟨f3,f1,f4,f5⟩
 · obtain⟨o,es,ep,ho,r⟩:=hm
   exact⟨o,es,ep,k _ o (fun z=>(hf _ z).2.1 rfl) ho,r⟩
 · by_cases hb:b=T
   · subst hb
     rw[ac] at e
     cases e
     exact new
   · rw[ai hb] at e
     refine(I.hok b u e).stay (fun c v hc q=>k c v ?_ q) (fun c q=>by rw[ai (ak q hTn)];exact q) fun c xs q=>by rw[ai (ak q hTn)];exact q
     rcases hc with z | z
     · rw[z];exact nit b u e
     · exact nit c _ z
theorem Inv.turnedN {t':Nat}{ch:List Addr}(I:Inv X pins σ H s)(hf:∀ b∈ch,d8 X pins H b)(k:∀ b o,b∉ch→s.heap.get? b=some o→h'.get? b=some o):Inv X pins σ H { s with heap:=h',toks:=t' }:=by
 have nit:∀ b u,H b=some u→b∉ch:=fun b u e z=>by rw[(hf b z).1] at e;cases e
 refine I.step (g':=s.gens) (d':=s.drawn) (ch:=ch) (fun b hb=>?_) (fun b o _ _ hc e _=>k b o hc e) (fun b o _ _ hc e _=>⟨o.slots,k b o hc e⟩) (fun b u _ e n=>n)
   (fun b o hc e=>⟨o,k b o hc e⟩) (fun b xs e=>e) (fun b u v e=>e) (fun b ps e=>⟨#[],by rw[e];simp⟩) (fun m hm=>?_) (fun b u e=>?_) I.bare
 · obtain⟨f0,f1,f2,f3,f4,f5⟩:=hf b hb
   exact⟨f3,f1,f4,f5⟩
 · obtain⟨o,es,ep,ho,r⟩:=hm
   exact⟨o,es,ep,k _ o (fun z=>(hf _ z).2.1 rfl) ho,r⟩
 · refine(I.hok b u e).stay (fun c v hc q=>k c v ?_ q) (fun _ q=>q) fun _ _ q=>q
   rcases hc with z | z
   · rw[z];exact nit b u e
   · exact nit c _ z
end
theorem uc {P:Program}{w:World}{H:Hp}{h:Heap}{T:Addr}{x y:V}{u v:Value}(hT:h.get? T=some { cls:=.type "tuple",data:=.seq #[u,v] })(rx:aW x u)(ry:aW y v):bF P w H h T (.tup [x,y]) :=
 ⟨by show 2≤sizeLine;rw[sizeLine_eq];decide,[u,v],.cons rx (.cons ry .nil),_,hT,rfl,_,rfl⟩
def Ite (K:PySem.W.Frag)(a:Addr):It :=
 ⟨fun i H=>∃ xs x,SqL K H a xs∧xs[i]?=some x,fun i H v H'=>∃ T x,H T=none∧v=.ref T∧H'=upd H T (.tup [.int i,x])∧∀ xs,SqL K H a xs→xs[i]?=some x,fun i H=>∃ xs,SqL K H a xs∧xs.length≤i⟩
def wq (K:PySem.W.Frag)(ta:TA):TI:=fun σ H R=>ta σ H fun vs H1=>∃ a,vs=[.ref a]∧(∃ xs,SqL K H1 a xs)∧R (Ite K a) H1
section
variable {X:Cx}
end
def Itz (K:PySem.W.Frag)(a b:Addr):It :=
 ⟨fun i H=>∃ xs x ys y,SqL K H a xs∧xs[i]?=some x∧SqL K H b ys∧ys[i]?=some y,fun i H v H'=>∃ T x y,H T=none∧v=.ref T∧H'=upd H T (.tup [x,y])∧(∀ xs,SqL K H a xs→xs[i]?=some x)∧∀ ys,SqL K H b ys→ys[i]?=some y,
   fun i H=>∃ xs ys,SqL K H a xs∧SqL K H b ys∧(xs.length≤i∨ys.length≤i)⟩
theorem cy {h:Heap}{a z:Addr}{xs:Array Value}{o:Obj}(p:PlainL h a xs)(hz:h.get? z=some o)(hc:o.cls≠.type "list"):a≠z:=fun e=>by
 obtain⟨o2,n,h1,h2,_⟩:=p
 rw[e,hz] at h1
 cases h1
 exact hc h2
theorem uM {h:Heap}{z TI TO i1 i2 a b:Addr}{x y:Value}{k1 k2:Nat}{xs ys:Array Value}(h12:i1≠i2)(hTT:TI≠TO)(hz:IsZip h z TI TO .none)(hTI:IsPair h TI (.ref i1) (.ref i2))(hTO:IsPair h TO x y)(h1:h.IsListIter i1 a k1)(h2:h.IsListIter i2 b k2)(p:PlainL h a xs)(p2:PlainL h b ys):ZipApart z TI TO i1 i2 a b:=by
 obtain⟨o1,a1,a2,a3⟩:=h1
 obtain⟨o2,b1,b2,b3⟩:=h2
 have dd:∀ {c d:Addr}{o o':Obj},h.get? c=some o→h.get? d=some o'→o.cls≠o'.cls→c≠d:=fun e1 e2 n z=>by
   rw[z,e2] at e1;cases e1;exact n rfl
 have ctz:Value.type "tuple"≠Value.type "zip":=by decide +kernel
 have clz:Value.type "list_iterator"≠Value.type "zip":=by decide +kernel
 have clt:Value.type "list_iterator"≠Value.type "tuple":=by decide +kernel
 have cLz:Value.type "zip"≠Value.type "list":=by decide +kernel
 have cLt:Value.type "tuple"≠Value.type "list":=by decide +kernel
 have cLl:Value.type "list_iterator"≠Value.type "list":=by decide +kernel
 constructor
 all_goals first
   | exact h12
   | exact hTT
   | exact dd hTI hz ctz
   | exact dd hTO hz ctz
   | exact dd a1 hz (by rw[a2];exact clz)
   | exact dd b1 hz (by rw[b2];exact clz)
   | exact dd hTI a1 (by rw[a2];exact Ne.symm clt)
   | exact dd hTI b1 (by rw[b2];exact Ne.symm clt)
   | exact dd hTO a1 (by rw[a2];exact Ne.symm clt)
   | exact dd hTO b1 (by rw[b2];exact Ne.symm clt)
   | exact cy p hz cLz
   | exact cy p2 hz cLz
   | exact cy p hTI cLt
   | exact cy p2 hTI cLt
   | exact cy p hTO cLt
   | exact cy p2 hTO cLt
   | exact cy p a1 (by rw[a2];exact cLl)
   | exact cy p2 a1 (by rw[a2];exact cLl)
   | exact cy p b1 (by rw[b2];exact cLl)
   | exact cy p2 b1 (by rw[b2];exact cLl)
theorem sO {P:Program}{w:World}{K:PySem.W.Frag}{elts:List Expr}{k:Nat}{pos:Pos}(a b z TI TO i1 i2:Addr)(h12:i1≠i2)(hTT:TI≠TO):lg P w K (.Tuple elts k pos) (Itz K a b) [z,TI,TO,i1,i2] z
   (fun i h=>IsZip h z TI TO .none∧IsPair h TI (.ref i1) (.ref i2)∧(∃ a b,IsPair h TO a b)∧h.IsListIter i1 a i∧h.IsListIter i2 b i) where
 mem:=by simp
 obj:=fun i h st c hb=>by
   obtain⟨hz,hTI,⟨x,y,hTO⟩,⟨o1,h1,h2,h3⟩,o2,k1,k2,k3⟩:=st
   have fl:∀ {o:Obj}{vs:Array Value},o.data=.fields vs→∀ v,o.data≠.cell v:=fun e v z=>by rw[e] at z;cases z
   have sq:∀ {o:Obj}{vs:Array Value}{n:Nat},o.data=.seq vs n→∀ v,o.data≠.cell v:=fun e v z=>by rw[e] at z;cases z
   simp only[List.mem_cons,List.not_mem_nil,or_false] at hb
   rcases hb with rfl | rfl | rfl | rfl | rfl
   · exact⟨_,hz,fl rfl⟩
   · exact⟨_,hTI,sq rfl⟩
   · exact⟨_,hTO,sq rfl⟩
   · exact⟨o1,h1,fl h3⟩
   · exact⟨o2,k1,fl k3⟩
 keep:=fun i h h' st k=>by
   obtain⟨hz,hTI,⟨x,y,hTO⟩,h1,h2⟩:=st
   exact⟨k z (by simp) _ hz,k TI (by simp) _ hTI,⟨x,y,k TO (by simp) _ hTO⟩,h1.at fun o e=>k i1 (by simp) o e,h2.at fun o e=>k i2 (by simp) o e⟩
 item:=by
   intro X hP hw hK hc i pins s σ H E I hf st hg
   subst hP hw hK
   obtain⟨xs,x,ys,y,hq,hx,hr,hy⟩:=hg
   obtain⟨its,rv,p,hz1⟩:=I.list hq
   obtain⟨its2,rv2,p2,hz2⟩:=I.list hr
   obtain⟨u,hu,ru⟩:=rv.get hx
   obtain⟨u2,hu2,ru2⟩:=rv2.get hy
   obtain⟨hz,hTI,⟨tx,ty,hTO⟩,h1,h2⟩:=st
   have z1:=hz
   have D:=uM h12 hTT hz hTI hTO h1 h2 p p2
   refine wpAny_pyNext_zip_item D hz hTI hTO h1 h2 p.isList p2.isList (x:=u) (y:=u2) (by simpa using hu) (by simpa using hu2) fun h' a1 a2 a3 a4 a5 a6 hk=>⟨_,rfl,?_⟩
   have lt:∀ {c o},s.heap.get? c=some o→c < s.heap.objs.size:=fun e=>Heap.lt_size e
   refine wpAny_letOwnedTupleGo_zip (s:={ s with heap:=h' }) a1 fun h3 hz3 hs3=>?_
   have up:∀ c o,c≠z→h'.get? c=some o→h3.get? c=some o:=fun c o n e=>hs3.extBut _ _ n e
   have hT2:h3.get? s.heap.objs.size=some { cls:=.type "tuple",data:=.seq #[u,u2] }:=up _ _ (Nat.ne_of_gt (lt hz)) a5
   have I1:Inv X pins σ (upd H s.heap.objs.size (.tup [x,y])) { s with heap:=h3 }:=I.turnedT (t':=s.toks) hf (fun c o hb e0=>up c o (fun n=>hb (by simp[n])) (hk c o (fun n=>hb (by simp[n])) (fun n=>hb (by simp[n])) (fun n=>hb (by simp[n])) (fun n=>hb (by simp[n])) e0)) (Nat.le_refl _) (uc hT2 ru ru2)
   refine⟨.ref s.heap.objs.size,_,I1,rfl,⟨_,x,y,I.hok.fresh (Nat.le_refl _),rfl,rfl,fun zs hy=>by rw[I.list_inj hy hq];exact hx,fun zs hy0=>by rw[I.list_inj hy0 hr];exact hy⟩,
     ⟨hz3,up _ _ D.TIz (hk _ _ D.TIz D.TITO D.TIi1 D.TIi2 hTI),⟨_,_,up _ _ D.TOz a2⟩,a3.at fun o e=>up _ o D.i1z e,a4.at fun o e=>up _ o D.i2z e⟩,fun c hb=>?_⟩
   have hlt:c < s.heap.objs.size:=by
     simp only[List.mem_cons,List.not_mem_nil,or_false] at hb
     rcases hb with rfl | rfl | rfl | rfl | rfl
     · exact lt hz
     · exact lt hTI
     · exact lt hTO
     · obtain⟨_,e,_⟩:=h1;exact lt e
     · obtain⟨_,e,_⟩:=h2;exact lt e
   rw[ai (Nat.ne_of_lt hlt)]
   exact(hf c hb).1
 done:=by
   intro X hP hw hK hc i pins s σ H E I hf st hg
   subst hP hw hK
   obtain⟨xs,ys,hq,hr,hx⟩:=hg
   obtain⟨its,rv,p,hz1⟩:=I.list hq
   obtain⟨its2,rv2,p2,hz2⟩:=I.list hr
   obtain⟨hz,hTI,⟨tx,ty,hTO⟩,h1,h2⟩:=st
   have hl:=rv.length
   have hl2:=rv2.length
   have D:=uM h12 hTT hz hTI hTO h1 h2 p p2
   refine wpAny_pyNext_zip_end (I.ok.hd hc) D hz hTI hTO h1 h2 p.isList p2.isList (hx.elim (fun h=>.inl (by simp;omega)) fun h=>.inr (by simp;omega)) fun h' hk=>⟨rfl,I.turnedN hf (t':=s.toks) fun c o hb e0=>hk c o (fun n=>hb (by simp[n])) (fun n=>hb (by simp[n])) (fun n=>hb (by simp[n])) (fun n=>hb (by simp[n])) e0⟩
 self:=fun _ _ _ _ _ st h=>wpAny_pyIter_zip st.1 h
def uX (K:PySem.W.Frag)(ta:TA):TI:=fun σ H R=>ta σ H fun vs H1=>∃ a b,vs=[.ref a,.ref b]∧(∃ xs,SqL K H1 a xs)∧(∃ ys,SqL K H1 b ys)∧R (Itz K a b) H1
section
variable {X:Cx}
theorem ug {a b:Expr}{ta:TA}{p pos:Pos}{elts:List Expr}{k:Nat}{tpos:Pos}(hg:Gl X "zip")(hm:X.mg "zip"=none)(ha:PA X [a,b] ta)(hs:starEach [a,b] X.env=(false,eval a X.env)::starEach [b] X.env:=by rfl)(hpl:(backTo pos (starEach [b] X.env)).any (·.1)=false:=by rfl) :
   PI X (.Tuple elts k tpos) (.Call (.Name "zip" p) [a,b] [] pos) (uX X.K ta):=by
 intro pins s σ H R I h
 refine Call_ (gm I hg hm (u:=.type "zip") (by decide +kernel) (PyProof.Rows.callWith_type1 (thn (ha pos s σ H _ I h) fun us s1 ⟨vs,H1,I1,r1,q1⟩=>?_) hs hpl))
 obtain⟨l1,l2,e,⟨xs,hq⟩,⟨ys,hr⟩,q⟩:=q1
 subst e
 obtain⟨u1,u2,rfl,e1,e2⟩:=r1.two
 cases e1
 cases e2
 obtain⟨its,rv,pl,hz⟩:=I1.list hq
 obtain⟨its2,rv2,pl2,hz2⟩:=I1.list hr
 refine call_zip_2 pl.isList pl2.isList fun h' hZ hTI hTO h1 h2 hsz hk=>wpAny_pyIter_zip hZ ?_
 have I2:Inv X pins σ H1 { s1 with heap:=h' }:=I1.kept (t':=s1.toks) hk
 refine⟨s1.heap.objs.size+4,[s1.heap.objs.size+4,s1.heap.objs.size+2,s1.heap.objs.size+3,s1.heap.objs.size,s1.heap.objs.size+1],_,_,H1,rfl,I2,sO l1 l2 _ _ _ _ _ (Nat.ne_of_lt (Nat.lt_succ_self _)) (Nat.ne_of_lt (Nat.lt_succ_self _)),⟨hZ,hTI,⟨_,_,hTO⟩,h1,h2⟩,fun b hb=>?_,q⟩
 simp only[List.mem_cons,List.not_mem_nil,or_false] at hb
 have hle:s1.heap.objs.size≤b:=by
   rcases hb with rfl | rfl | rfl | rfl | rfl<;>omega
 exact I1.fpOk hle (I1.hok.fresh hle)
end
end L2

set_option Elab.async false
set_option linter.all false
set_option maxRecDepth 100000
set_option maxHeartbeats 8000000
namespace L2
open PySem PySem.Spec PyProof.Rows
theorem sN {K:PySem.W.Frag}{a b:Addr}{H0:Hp}{xs ys:List V}{g:TG}{tb:TS}{D:g9}{σ:St}{H:Hp}(ha:SqL K H0 a xs)(hb:SqL K H0 b ys)(hl:xs.length=ys.length)(Pv:Nat→St→Hp→Prop)(h0:Pv 0 σ H)(hsame:∀ i σ H,i≤xs.length→Pv i σ H→af H0 H)
   (hs:∀ i x y T σ H,xs[i]?=some x→ys[i]?=some y→H T=none→Pv i σ H→∀ R:St→Hp→Prop,(∀ σ' H',Pv (i+1) σ' H'→R σ' H')→g (.ref T) σ (upd H T (.tup [x,y])) fun σ2 H2=>tb { D with nx:=R,ct:=R,bk:=D.nx } σ2 H2)(hd:∀ σ H,Pv xs.length σ H→D.nx σ H):tq (Itz K a b) g tb D σ H:=by
 refine⟨fun i m σ H=>m=xs.length - i∧i≤xs.length∧Pv i σ H,⟨xs.length,by simp,Nat.zero_le _,h0⟩,?_⟩
 rintro i m σ H ⟨rfl,hi,p⟩
 have sm:=hsame i σ H hi p
 by_cases hlt:i < xs.length
 · obtain⟨x,hx⟩:∃ x,xs[i]?=some x:=⟨_,List.getElem?_eq_getElem hlt⟩
   obtain⟨y,hy⟩:∃ y,ys[i]?=some y:=⟨_,List.getElem?_eq_getElem (by omega)⟩
   refine .inr ⟨⟨xs,x,ys,y,sm.seq ha,hx,sm.seq hb,hy⟩,Pv (i+1),fun σ' H' p'=>⟨xs.length - (i+1),by omega,rfl,hlt,p'⟩,?_⟩
   rintro v H' ⟨T,x1,y1,hT,rfl,rfl,e1,e2⟩
   have:=e1 xs (sm.seq ha)
   have:=e2 ys (sm.seq hb)
   exact hs i x1 y1 T σ H (e1 xs (sm.seq ha)) (e2 ys (sm.seq hb)) hT p _ fun _ _ z=>z
 · have e:i=xs.length:=by omega
   subst e
   exact .inl ⟨⟨xs,ys,sm.seq ha,sm.seq hb,.inl (Nat.le_refl _)⟩,hd σ H p⟩
end L2

set_option Elab.async false
set_option linter.all false
set_option maxRecDepth 100000
set_option maxHeartbeats 8000000
namespace L2
open PySem PySem.Spec PyProof.Rows
section
variable {X:Cx}
end
end L2

set_option Elab.async false
set_option linter.all false
set_option maxRecDepth 100000
set_option maxHeartbeats 8000000
namespace L2
open PySem PySem.Spec PyProof.Rows

/-! ### a set's table: its places rise -/
end L2

set_option Elab.async false
set_option linter.all false
set_option maxRecDepth 100000
set_option maxHeartbeats 8000000
namespace L2
open PySem PySem.Spec PyProof.Rows
section
variable {prog:Program}{w:World}{K:Type} [DecidableEq K](knd:KeyKind prog w K)
variable {knd}
variable {A:Around}{E:Value→Shared→Prop}{s:Shared}

end
end L2

set_option Elab.async false
set_option linter.all false
set_option maxRecDepth 100000
set_option maxHeartbeats 8000000
namespace L2
open PySem PySem.Spec PyProof.Rows
section
variable {K:Type} [DecidableEq K]
end

section
variable {prog:Program}{w:World}{K:Type} [DecidableEq K]{knd:KeyKind prog w K}{led:Bool}
end
end L2

set_option Elab.async false
set_option linter.all false
set_option maxRecDepth 100000
set_option maxHeartbeats 8000000
namespace L2
open PySem PySem.Spec PyProof.Rows
section
variable {prog:Program}{w:World}{A:Around}{E:Value→Shared→Prop}{s:Shared}
end
end L2

set_option Elab.async false
set_option linter.all false
set_option maxRecDepth 100000
set_option maxHeartbeats 8000000
namespace L2
open PySem PySem.Spec PyProof.Rows
/-! ### orders -/
section
variable {prog:Program}{w:World}{A:Around}{E:Value→Shared→Prop}{s:Shared}
end
end L2

set_option Elab.async false
set_option linter.all false
set_option maxRecDepth 100000
set_option maxHeartbeats 8000000
namespace L2
open PySem PySem.Spec PyProof.Rows
section
variable {prog:Program}{w:World}{A:Around}{E:Value→Shared→Prop}{s:Shared}{I a:Addr}{n ep k:Nat}{oS:Obj}{es:Array (Int×Value)}{t:SetTable}
end
end L2

set_option Elab.async false
set_option linter.all false
set_option maxRecDepth 100000
set_option maxHeartbeats 8000000
namespace L2
open PySem PySem.Spec PyProof.Rows
section
variable {prog:Program}{w:World}{A:Around}{E:Value→Shared→Prop}{s:Shared}{I a:Addr}{n ep k:Nat}{oS:Obj}{es:Array (Int×Value)}{t:SetTable}
end
end L2

set_option Elab.async false
set_option linter.all false
set_option maxRecDepth 100000
set_option maxHeartbeats 8000000
namespace L2
open PySem PySem.Spec PyProof.Rows PySem.W
section
variable {prog:Program}{w:World}{A:Around}{E:Value→Shared→Prop}{s:Shared}{a:Addr}{n:Nat}{K:Type} [DecidableEq K]{knd:KeyKind prog w K}{S:K→Bool}
end
end L2

set_option Elab.async false
set_option linter.all false
set_option maxRecDepth 100000
set_option maxHeartbeats 8000000
namespace L2
open PySem PySem.Spec PyProof.Rows PySem.W
section
variable {prog:Program}{w:World}{A:Around}{E:Value→Shared→Prop}{s:Shared}{a:Addr}{n:Nat}{K:Type} [DecidableEq K]{knd:KeyKind prog w K}{S:K→Bool}
end
end L2

set_option Elab.async false
set_option linter.all false
set_option maxRecDepth 100000
set_option maxHeartbeats 8000000
namespace L2
open PySem PySem.Spec PyProof.Rows PySem.W
section
variable {X:Cx}
end
end L2

set_option Elab.async false
set_option linter.all false
set_option maxRecDepth 100000
set_option maxHeartbeats 8000000
namespace L2
open PySem PySem.Spec PyProof.Rows
section
variable {X:Cx}{N':List Str}{pk:List (Option Nat)}{scope:Scope}
end
end L2

set_option Elab.async false
set_option linter.all false
set_option maxRecDepth 100000
set_option maxHeartbeats 8000000
namespace L2
open PySem PySem.Spec PyProof.Rows
/-! ### zip of three lists -/
section
variable {prog:Program}{w:World}{A:Around}{E:Value→Shared→Prop}{s:Shared}
end
end L2

set_option Elab.async false
set_option linter.all false
set_option maxRecDepth 100000
set_option maxHeartbeats 8000000
namespace L2
open PySem PySem.Spec PyProof.Rows
section
variable {prog:Program}{w:World}{A:Around}{E:Value→Shared→Prop}{s:Shared}{z TI TO i1 i2 i3 l1 l2 l3:Addr}{k:Nat}{xs ys us:Array Value}{x y u a b c:Value}
end
end L2

set_option Elab.async false
set_option linter.all false
set_option maxRecDepth 100000
set_option maxHeartbeats 8000000
namespace L2
open PySem PySem.Spec PyProof.Rows
section
variable {prog:Program}{w:World}{A:Around}{E:Value→Shared→Prop}{s:Shared}{z TI TO i1 i2 i3 l1 l2 l3:Addr}{k:Nat}{xs ys us:Array Value}{x y u a b c:Value}
end
def It3 (K:PySem.W.Frag)(a b c:Addr):It :=
 ⟨fun i H=>∃ xs x ys y us u,SqL K H a xs∧xs[i]?=some x∧SqL K H b ys∧ys[i]?=some y∧SqL K H c us∧us[i]?=some u,
   fun i H v H'=>∃ T x y u,H T=none∧v=.ref T∧H'=upd H T (.tup [x,y,u])∧(∀ xs,SqL K H a xs→xs[i]?=some x)∧(∀ ys,SqL K H b ys→ys[i]?=some y)∧∀ us,SqL K H c us→us[i]?=some u,
   fun i H=>∃ xs ys us,SqL K H a xs∧SqL K H b ys∧SqL K H c us∧xs.length≤i⟩
def wL (K:PySem.W.Frag)(ta:TA):TI:=fun σ H R=>ta σ H fun vs H1=>∃ a b c,vs=[.ref a,.ref b,.ref c]∧(∃ xs,SqL K H1 a xs)∧(∃ ys,SqL K H1 b ys)∧(∃ us,SqL K H1 c us)∧R (It3 K a b c) H1
section
variable {X:Cx}
end
end L2

set_option Elab.async false
set_option linter.all false
set_option maxRecDepth 100000
set_option maxHeartbeats 8000000
namespace L2
open PySem PySem.Spec PyProof.Rows
def wV (K:PySem.W.Frag)(te:TE)(ts:TO):TE:=fun σ H Q=>te σ H fun x H1=>ts σ H1 fun st H2=>st=some (-1)∧∃ a xs,x=.ref a∧SqL K H2 a xs∧∀ p,H2 p=none→Q (.ref p) (upd H2 p (.lst xs.reverse))
section
variable {X:Cx}{te:TE}{ts:TO}{e ce:Expr}{p2 p3 pos:Pos}
end
end L2

set_option Elab.async false
set_option linter.all false
namespace L2
open PySem
section
variable {X:Cx}
end
end L2

set_option Elab.async false
set_option linter.all false
set_option maxRecDepth 100000
set_option maxHeartbeats 8000000
namespace DM
open PySem L2
def top (i:Nat):Stmt:=PySem.Challenge.pw_dipmaps_k41_whole_dips_taken_out.main.body.getD i (.Pass ⟨0,0,0,0⟩)
abbrev hJ:Stmt:=b9 (top 43) 0
abbrev eT:Stmt:=b9 (top 43) 1
abbrev jT:Stmt:=b9 (top 43) 4
abbrev gh:Stmt:=b9 (top 43) 7
abbrev eW:Stmt:=b9 (top 43) 8
abbrev fi:Stmt:=b9 (top 43) 9
abbrev eu:Stmt:=b9 (top 43) 11
abbrev dR:Stmt:=b9 (top 43) 12
abbrev gP:Stmt:=b9 (top 43) 13
abbrev jV:Stmt:=top 42
abbrev fM:Stmt:=top 62
abbrev kX:Stmt:=top 28
abbrev sAt:Stmt:=top 51
abbrev ic:Stmt:=top 52
abbrev kZ:Stmt:=top 53
abbrev gS:Stmt:=top 54
abbrev fJ:Stmt:=top 55
abbrev jY:Stmt:=top 56
abbrev g6:Stmt:=top 57
abbrev gO:Stmt:=top 58
abbrev gN:Stmt:=top 59
abbrev eG:Stmt:=top 60
abbrev fE:Stmt:=top 61
abbrev k9:Stmt:=top 70
abbrev fj:Stmt:=top 32
abbrev er:Stmt:=top 33
abbrev hU:Stmt:=top 34
abbrev fK:Stmt:=top 35
abbrev jp:Stmt:=b9 (top 36) 0
abbrev eB:Stmt:=b9 (top 36) 1
abbrev fr:Stmt:=b9 (top 36) 2
abbrev eE:Stmt:=b9 (top 36) 3
abbrev jb:Stmt:=b9 (top 36) 4
abbrev dC:Stmt:=b9 (top 36) 6
abbrev dU:Stmt:=b9 (top 36) 7
abbrev kr:Stmt:=top 45
abbrev g0:Stmt:=top 46
abbrev jh:Stmt:=top 65
abbrev j8:Stmt:=top 16
abbrev kU:Stmt:=top 17
abbrev jQ:Stmt:=top 18
abbrev gU:Stmt:=top 19
abbrev eA:Stmt:=top 20
abbrev pT:Stmt:=top 64
abbrev gf:Stmt:=top 63
abbrev fw:Stmt:=top 47
abbrev gW:Stmt:=top 48
abbrev kQ:Stmt:=top 49
abbrev jN:Stmt:=top 67
abbrev dz:Stmt:=top 66
abbrev eS:Stmt:=top 22
abbrev dM:Stmt:=top 23
abbrev g7:Stmt:=top 24
abbrev de:Stmt:=top 68
abbrev eC:Stmt:=top 69
local macro_rules | `(tactic| walk_at "dm")=>`(tactic| simp only[wK,v9,uQ,tOp,pG,tCB,cM,nB,wg,tC,rI0,rI,ot,wb,wc,ul,cO,ux,uG,tOr,wa,wQ,tB,uI,wT,wG,tIf,wM,ve,sv,uU,tL,tUn,rU,tSl,wv,pi,uJ,rIn,wE,su,oJ,pc,mh,uY,uF,si,vA,rA,sE,ve,wu,oC,uz,wR,uC,vF,  uP,uX,wL,wV,wq,wx,ipI,wC,uT,wl,wP,dw,nE,wo,tBM,w5,vb,q0,wD,mq,tV,vy,uL,uD,lK,tm,vx,f9,rEq,rNe,uV,tD,wW,vM,vg,wz,qO,List.map_cons,List.map_nil,List.length_cons,List.length_nil,List.cons_append,List.nil_append,Nat.sub_self,Nat.reduceSub,Nat.reduceAdd,List.replicate,List.getElem?_cons_zero,List.getElem?_cons_succ,List.getElem?_nil,Option.bind_some,Option.bind_none,id_eq,Option.some.injEq,exists_eq_left',exists_eq_left,V.int.injEq,V.ref.injEq,V.str.injEq,V.bl.injEq,V.ty.injEq,List.cons.injEq,and_true,true_and,List.set_cons_zero,List.set_cons_succ,List.append_nil,exists_and_left,exists_and_right,and_assoc,exists_const,decide_eq_true_eq,Bool.not_eq_true',decide_eq_false_iff_not,if_true,if_false,Bool.false_eq_true])
def bv:Str:="abcdefghijklmnopqrstuvwxyz"
def inS (z:Str):Bool:=!(Builtin.Str.occurrences bv z 0 bv.length 1).isEmpty
def inL (c:Nat):Bool:=inS ⟨#[c]⟩
def bp (z:Str):Bool:=(decide (1≤z.length)&&decide (z.length≤8))&&z.cps.toList.all inL
def atL (ns:List Int) (k:Int):Int:=if k < ns.length then ns.getD k.toNat 0 else 0
def sx (K:PySem.W.Frag):Sp:=fun vs H Q _=>∃ (a:Addr)(ns:List Int) (k:Int),vs=[.ref a,.int k]∧SqL K H a (ns.map V.int)∧0≤k∧Q (.int (atL ns k)) H
def om:Sp:=fun vs H Q _=>∃ z:Str,vs=[.str z]∧z.length≤1000∧∀ H',af H H'→Q (.bl (bp z)) H'
theorem ff {K:PySem.W.Frag}{H:Hp}{a:Addr}{ns:List Int}{k:Int}{Q:VK}{E:XK}(ha:SqL K H a (ns.map V.int))(h0:0≤k)(q:Q (.int (atL ns k)) H):sx K [.ref a,.int k] H Q E:=⟨a,ns,k,rfl,ha,h0,q⟩
structure Txt (mg:Str→Option Value):Prop where
 len:mg "len"=none
 all:mg "all"=none
 range:mg "range"=none
 isi:mg "isinstance"=none
 list:mg "list"=none
 str:mg "str"=none
 sorted:mg "sorted"=none
 tuple:mg "tuple"=none
 dict:mg "dict"=none
 zip:mg "zip"=none
 set:mg "set"=none
 min:mg "min"=none
 int:mg "int"=none
 lett:∃ t,mg "LETTERS"=some (.str bv t)
 long:∃ t,mg "LONGEST"=some (.int 8 t)
theorem aQ:(1000:Nat)≤sizeLine:=by rw[sizeLine_eq];decide
theorem dF {α:Type} (n:Nat)(l:List α)(f:Nat→V)(h:α→V)(hl:l.length=n)(e:∀ i x,l[i]?=some x→f i=h x):(List.range n).map f=l.map h:=by
 refine List.ext_getElem? fun i=>?_
 rw[List.getElem?_map,List.getElem?_map]
 by_cases hi:i < n
 · rw[List.getElem?_range hi,List.getElem?_eq_getElem (by omega)]
   show some (f i)=some (h _)
   rw[e i _ (List.getElem?_eq_getElem (by omega))]
 · rw[List.getElem?_eq_none (by simpa using hi),List.getElem?_eq_none (by omega)]
   rfl
section
variable {P:Program}{w:World}{K:PySem.W.Frag}{mg:Str→Option Value}{base:Heap}
theorem wU:ap ["_law_script", "_law_k"] ["_law_script", "_law_k"] (ae sAt):=⟨rfl,rfl,rfl,by decide +kernel,rfl,by decide +kernel,by decide +kernel⟩
theorem wt {f:Addr}{fd:FuncData}(F:Fun K "_law_at" "_law_at" sAt f fd)(T:Txt mg):ao P w K mg base CX0 1 f fd ["_law_script", "_law_k"] (sx K):=by
 refine F.ok wU (fun vs H Q E h=>?_) (fun cdv A outer s H vs Q E hr h=>?_)
 · obtain⟨a,ns,k,rfl,_⟩:=h
   rfl
 · obtain⟨a,ns,k,rfl,ha,h0,q⟩:=h
   refine⟨_,al (aZ (aF i0 (pv 1) (av aE (by rfl) T.len PySem.boot_len (aa (pv 0) ad)) (aK _)) (ag (ax (aM aG (pv 0) (pv 1) (fun _ _=>rfl)))) aB) (ag (ax ah)),?_⟩
   walk_at "dm"
   refine⟨_,.inl ha,?_⟩
   rw[List.length_map]
   unfold atL at q
   refine bn (fun hk=>?_) (fun hk=>?_)
   · rw[if_pos hk] at q
     refine⟨_,ha,_,?_,q⟩
     obtain⟨j,rfl⟩:=Int.eq_ofNat_of_zero_le h0
     have hl:j < ns.length:=by omega
     refine eX ?_
     rw[List.getElem?_map,List.getD_eq_getElem?_getD,Int.toNat_natCast,List.getElem?_eq_getElem hl]
     rfl
   · rw[if_neg hk] at q
     exact q
theorem vj:ap ["text"] ["text"] (ae kX):=⟨rfl,rfl,rfl,by decide +kernel,rfl,by decide +kernel,by decide +kernel⟩
theorem ue {f:Addr}{fd:FuncData}(F:Fun K "good_name" "good_name" kX f fd)(T:Txt mg):ao P w K mg base CX0 1 f fd ["text"] om:=by
 refine F.ok vj (fun vs H Q E h=>?_) (fun cdv A outer s H vs Q E hr h=>?_)
 · obtain⟨z,rfl,_⟩:=h
   rfl
 · obtain⟨z,rfl,hz,q⟩:=h
   obtain⟨tl,hlett⟩:=T.lett
   obtain⟨tg,hlong⟩:=T.long
   refine⟨_,al (aZ (PW.pt (ir (aF i0 (av gz (by rfl) T.len PySem.boot_len (aa (pv 0) ad)) ah (aK _)) (fh (aF js (av gz (by rfl) T.len PySem.boot_len (aa (pv 0) ad)) (cz (v:=.int 8) rfl hlong ⟨_,rfl⟩) (aK _))))) (ag (ax eD)) aB)
     (ag (ax (av (qL rfl) (by rfl) T.all (by decide +kernel) (aa (df (N':=["sign"]) (pk:=[none]) rfl (cg.of (by rfl)) (vN (pv 0)) (fun s H ex=>au (i:=0) (by show(["sign"]:List Str).Nodup;decide) rfl (Or.inl rfl)) (fun s H ex=>cT pZ (pv 0) (cz (v:=.str bv) rfl hlett ⟨_,rfl⟩) (by with_unfolding_all rfl))) ad)))),?_⟩
   have hsz:=aQ
   walk_at "dm"
   have main:1≤z.length→z.length≤8→∀ (D:Addr),H D=none→mE (Itw z.cps.size fun i v=>∃ c,z.cps[i]?=some c∧v=V.str ⟨#[c]⟩) (cO 0)
         (tOp (fun x y H Q=>∃ i,x=V.str i∧∃ x,y=V.str x∧Q (V.bl !(Builtin.Str.occurrences x i 0 x.length 1).isEmpty) H) (pG 0) (tC (V.str bv)))
         D (fun H'=>∃ x,SqL K H' D (List.map V.bl x)∧Q (V.bl (x.all id)) H') [none] (upd H D (HO.lst [])):=fun h1 h8 D hD=>by
     have hsize:z.cps.size=z.length:=rfl
     refine cq mY (by omega) hD (fun σ=>∃ o,σ=[o]) (fun i=>.bl (inL (z.cps.getD i 0))) ⟨none,rfl⟩ ?_ ?_
     · rintro i x σ' H' hi ⟨c,hc,rfl⟩ ⟨o,rfl⟩ hS R hR
       walk_at "dm"
       have e:inL (z.cps.getD i 0)=!(Builtin.Str.occurrences bv ⟨#[c]⟩ 0 bv.length 1).isEmpty:=by
         rw[Array.getD_eq_getD_getElem?,hc]
         rfl
       rw[←e]
       exact hR _ ⟨_,rfl⟩
     · have e:(List.range z.cps.size).map (fun i=>V.bl (inL (z.cps.getD i 0)))=(z.cps.toList.map inL).map V.bl:=by
         rw[List.map_map]
         refine dF _ z.cps.toList _ _ (by simp) fun i x hx=>?_
         have hx':z.cps[i]?=some x:=by simpa using hx
         rw[Array.getD_eq_getD_getElem?,hx']
         rfl
       rw[e]
       refine⟨z.cps.toList.map inL,SqL.of ac,?_⟩
       have e2:(z.cps.toList.map inL).all id=bp z:=by
         unfold bp
         rw[List.all_map,decide_eq_true h1,decide_eq_true h8]
         rfl
       rw[e2]
       exact q _ (af.updN hD)
   have f0:¬(1≤z.length∧z.length≤8)→bp z=false:=fun h=>by
     unfold bp
     by_cases h1:1≤z.length
     · rw[decide_eq_false (p:=z.length≤8) (fun h8=>h ⟨h1,h8⟩)];simp
     · rw[decide_eq_false h1];simp
   refine⟨by omega,bn (fun h1=>?_) (fun h1=>⟨by omega,bn (fun h2=>?_) (fun h2=>main (by omega) (by omega))⟩)⟩
   · rw[←f0 (by omega)];exact q H (af.refl H)
   · rw[←f0 (by omega)];exact q H (af.refl H)
def dst (cell bound mixed:Int):Nat→Int×Int×List Int
 | 0=>(cell,(cell % 2147483647*48271+11) % 2147483647,[])
 | i+1=>((dst cell bound mixed i).1 / bound,((dst cell bound mixed i).2.1*69621+40014+i) % 2147483647,
     (dst cell bound mixed i).2.2++[if mixed=0 then(dst cell bound mixed i).1 % bound else((dst cell bound mixed i).2.1*69621+40014+i) % 2147483647 / 8 % bound])
def gd (cell bound mixed:Int) (n:Nat):List Int:=(dst cell bound mixed n).2.2
theorem dE (cell bound mixed:Int):∀ n,(gd cell bound mixed n).length=n
 | 0=>rfl
 | n+1=>by
   have ih:=dE cell bound mixed n
   unfold gd at ih ⊢
   show((dst cell bound mixed n).2.2++_).length=n+1
   rw[List.length_append,ih]
   rfl
theorem ib {cell bound mixed:Int}(hb:0 < bound):∀ n,∀ x∈gd cell bound mixed n,0≤x∧x < bound
 | 0,x,h=>by cases h
 | n+1,x,h=>by
   have h':x∈(dst cell bound mixed n).2.2++[if mixed=0 then(dst cell bound mixed n).1 % bound else((dst cell bound mixed n).2.1*69621+40014+n) % 2147483647 / 8 % bound]:=h
   rcases List.mem_append.mp h' with q | q
   · exact ib hb n x q
   · rw[List.mem_singleton.mp q]
     split
     · exact⟨Int.emod_nonneg _ (by omega),Int.emod_lt_of_pos _ hb⟩
     · exact⟨Int.emod_nonneg _ (by omega),Int.emod_lt_of_pos _ hb⟩
def iL:Sp:=fun vs H Q _=>∃ cell many bound mixed:Int,vs=[.int cell,.int many,.int bound,.int mixed]∧0≤many∧many≤1000∧0 < bound∧bound < 2 ^ 62∧(mixed=0∨mixed=1) ∧
 ∀ l H',H l=none→af H H'→H' l=some (.lst ((gd cell bound mixed many.toNat).map V.int))→Q (.ref l) H'
theorem eP:ap ["_law_cell", "_law_many", "_law_bound", "_law_mixed", "_law_drawn", "_law_rest", "_law_spun", "_law_k"] ["_law_cell", "_law_many", "_law_bound", "_law_mixed"] (ae ic):=⟨rfl,rfl,rfl,by decide +kernel,rfl,by decide +kernel,by decide +kernel⟩
theorem qQ {f:Addr}{fd:FuncData}(F:Fun K "_law_draws" "_law_draws" ic f fd)(T:Txt mg):ao P w K mg base CX0 1 f fd ["_law_cell", "_law_many", "_law_bound", "_law_mixed"] iL:=by
 refine F.ok eP (fun vs H Q E h=>?_) (fun cdv A outer s H vs Q E hr h=>?_)
 · obtain⟨_,_,_,_,rfl,_⟩:=h
   rfl
 · obtain⟨cell,many,bound,mixed,rfl,hm0,hm1,hb0,hb1,hmix,q⟩:=h
   refine⟨_,al (aC (i:=4) eP.nd rfl (Or.inl rfl) (bx ad))
     (al (aC (i:=5) eP.nd rfl (Or.inl rfl) (pv 0))
     (al (aC (i:=6) eP.nd rfl (Or.inl rfl) (aw bi (aw bJ (aw gk (aw bi (pv 0) ah) ah) ah) ah))
     (al (bz PassesOwn.never rfl (cj rfl T.range (aa (pv 1) ad)) (au (i:=7) eP.nd rfl (Or.inl rfl))
       (al (aC (i:=6) eP.nd rfl (Or.inl rfl) (aw bi (aw bJ (aw bJ (aw gk (pv 6) ah) ah) (pv 7)) ah))
       (al (aO (dm PySem.F.plainAttrs_list PySem.F.slot_list_append PySem.F.type_list_append ca (pv 4) (aa (aM aG (bx (aa (aw bi (pv 5) (pv 2)) (aa (aw bi (aw cf (pv 6) ah) (pv 2)) ad))) (pv 3) (fun _ _=>rfl)) ad)))
       (ag (aC (i:=5) eP.nd rfl (Or.inl rfl) (aw cf (pv 5) (pv 2)))))))
     (ag (ax (pv 4)))))),?_⟩
   have hs:=aQ
   walk_at "dm"
   refine⟨by omega,fun l hl=>⟨by omega,.inr ⟨by omega,by omega⟩,by omega,by omega,by omega,?_⟩⟩
   refine aU (H0:=H) bu (fun i σ H'=>∃ o,σ=[some (V.int cell),some (V.int many),some (V.int bound),some (V.int mixed),some (V.ref l),some (V.int (dst cell bound mixed i).1),some (V.int (dst cell bound mixed i).2.1),o]∧af H H'∧H' l=some (.lst ((gd cell bound mixed i).map V.int)))
     ⟨none,rfl,af.updN hl,ac⟩ (fun _ _ _ _ ⟨_,_,h,_⟩=>h) ?_ ?_
   · rintro i x σ H' hi rfl ⟨o,rfl,hS,hH⟩
     walk_at "dm"
     have ne:∀ p,H' p=none→l≠p:=fun p hp=>ak hH hp
     refine⟨.inr ⟨by omega,by omega⟩,by omega,.inl ⟨rfl,_,SqL.of hH⟩,hb0,by omega,by omega,hb0,by omega,fun p hp=>?_⟩
     have hz:(0:Int)+(i:Int)=i:=by omega
     rw[hz]
     refine⟨_,SqL.of ac,(V.int (if mixed=0 then(dst cell bound mixed i).1 % bound else((dst cell bound mixed i).2.1*69621+40014+i) % 2147483647 / 8 % bound)),?_,_,by rw[ai (ne p hp)];exact hH,?_,hb0,by omega,rfl,rfl,?_,?_⟩
     · rcases hmix with rfl | rfl
       · rfl
       · rfl
     · rw[List.length_map,dE];omega
     · exact(hS.step (hS.free hp)).step hl
     · rw[ac]
       unfold gd
       rw[show(dst cell bound mixed (i+1)).2.2=(dst cell bound mixed i).2.2++[if mixed=0 then(dst cell bound mixed i).1 % bound else((dst cell bound mixed i).2.1*69621+40014+i) % 2147483647 / 8 % bound] from rfl,List.map_append]
       rfl
   · rintro σ H' ⟨o,rfl,hS,hH⟩
     walk_at "dm"
     exact q l H' hl hS hH
end

section
variable {P:Program}{w:World}{K:PySem.W.Frag}{mg:Str→Option Value}{base:Heap}
def cK (c:Nat):Prop:=97≤c∧c≤122
theorem sK:bv.cps.toList=(List.range 26).map (fun i=>97+i):=by decide +kernel
theorem t4 {j:Nat}(h:j < 26):bv.cps.toList[j]?=some (97+j):=by rw[sK,List.getElem?_map,List.getElem?_range h];rfl
theorem ou {i:Int}(h0:0≤i)(h1:i < 26):atI bv.cps.toList i=some (97+i.toNat):=by
 obtain⟨j,rfl⟩:=Int.eq_ofNat_of_zero_le h0
 exact eX (t4 (by omega))
theorem tu {c:Nat}(h:cK c):inL c=true:=by
 have key:∀ i:_root_.Fin 26,inL (97+i.val)=true:=by decide +kernel
 have:=key ⟨c - 97,by unfold cK at h;omega⟩
 have e:97+(c - 97)=c:=by unfold cK at h;omega
 rw[show(97+(⟨c - 97,by unfold cK at h;omega⟩:_root_.Fin 26).val)=c from e] at this
 exact this
theorem rQ {c:Nat}(h:cK c):Txt.find bv ⟨#[c]⟩=((c - 97:Nat):Int):=by
 have key:∀ i:_root_.Fin 26,Txt.find bv ⟨#[97+i.val]⟩=(i.val:Int):=by decide +kernel
 have:=key ⟨c - 97,by unfold cK at h;omega⟩
 have e:97+(c - 97)=c:=by unfold cK at h;omega
 rw[show(97+(⟨c - 97,by unfold cK at h;omega⟩:_root_.Fin 26).val)=c from e] at this
 exact this
structure Nm (z:Str):Prop where
 lo:1≤z.length
 hi:z.length≤8
 all:∀ c∈z.cps.toList,cK c
theorem Nm.good {z:Str}(h:Nm z):bp z=true:=by
 unfold bp
 rw[decide_eq_true h.lo,decide_eq_true h.hi,Bool.true_and,Bool.true_and]
 exact List.all_eq_true.mpr fun c hc=>tu (h.all c hc)
theorem Nm.of_list {z:Str}{l:List Nat}(e:z.cps.toList=l)(h1:1≤l.length)(h8:l.length≤8)(ha:∀ c∈l,cK c):Nm z:=by
 have hl:z.length=l.length:=by rw[←e];exact Array.length_toList.symm
 exact⟨by omega,by omega,by rw[e];exact ha⟩
theorem gL (a y:Str):(a++y).cps.toList=a.cps.toList++y.cps.toList:=by
 rw[Str.cps_append,Array.toList_append]
theorem d5 (a y:Str):(a++y).length=a.length+y.length:=PySem.Str.length_append a y
theorem dJ (z:Str):z.length=z.cps.toList.length:=Array.length_toList.symm
theorem nu:(Str.ofString "").cps.toList=[]:=by decide +kernel
def rD:Sp:=fun vs H Q _=>∃ seed style:Int,vs=[.int seed,.int style]∧0≤style∧style < 4∧∀ z H',Nm z→af H H'→Q (.str z) H'
theorem pI:∀ (i:_root_.Fin 8),(Txt.slice (Str.ofString "mmmmmmmm") none (some (i.val:Int))).cps.toList=List.replicate i.val 109∧(Txt.slice (Str.ofString "mmmmmmmm") (some ((i.val:Int)+1)) none).cps.toList=List.replicate (7 - i.val) 109:=by decide +kernel
end

section
variable {P:Program}{w:World}{K:PySem.W.Frag}{mg:Str→Option Value}{base:Heap}
theorem e9:ap ["_law_seed", "_law_style", "_law_letters", "_law_rest", "_law_wide", "_law_word", "_law_k"] ["_law_seed", "_law_style"] (ae kZ):=⟨rfl,rfl,rfl,by decide +kernel,rfl,by decide +kernel,by decide +kernel⟩
theorem t5 {f:Addr}{fd:FuncData}(F:Fun K "_law_name" "_law_name" kZ f fd)(T:Txt mg):ao P w K mg base CX0 1 f fd ["_law_seed", "_law_style"] rD:=by
 refine F.ok e9 (fun vs H Q E h=>?_) (fun cdv A outer s H vs Q E hr h=>?_)
 · obtain⟨_,_,rfl,_⟩:=h
   rfl
 · obtain⟨seed,style,rfl,h0,h4,q⟩:=h
   refine⟨_,al (aC (i:=2) e9.nd rfl (Or.inl rfl) aV)
     (al (aC (i:=3) e9.nd rfl (Or.inl rfl) (aw cf (pv 0) ah))
     (aj (aZ (aF dn (pv 1) ah (aK _)) (ag (ax (aw cn (aw cn (dj ny aV eI (dB (aw bi (pv 3) ah))) (aM lE (pv 2) (aw bi (aw cf (pv 3) ah) ah) (fun _ _=>rfl))) (dj ny aV (dB (aw bJ (aw bi (pv 3) ah) ah)) eI)))) aB)
     (aj (aZ (aF dn (pv 1) ah (aK _)) (ag (ax (aM aG (bx v7) (aw bi (pv 0) ah) (fun _ _=>rfl)))) aB)
     (aj (aC (i:=4) e9.nd rfl (Or.inl rfl) (aM aG (bx (aa ah (aa ah ad))) (pv 1) (fun _ _=>rfl)))
     (al (aC (i:=5) e9.nd rfl (Or.inl rfl) aV)
     (al (bz PassesOwn.never rfl (cj rfl T.range (aa (aw bJ ah (aw bi (pv 0) ah)) ad)) (au (i:=6) e9.nd rfl (Or.inl rfl))
       (al (aC (i:=5) e9.nd rfl (Or.inl rfl) (aw cn (pv 5) (aM lE (pv 2) (aw bi (pv 3) (pv 4)) (fun _ _=>rfl))))
       (ag (aC (i:=3) e9.nd rfl (Or.inl rfl) (aw cf (pv 3) (pv 4))))))
     (ag (ax (pv 5))))))))),?_⟩
   have hs:=aQ
   walk_at "dm"
   refine⟨by decide,by decide,?_⟩
   refine cut (fun σ' H'=>σ'=[some (.int seed),some (.int style),some (.str bv),some (.int (seed / 8)),none,none,none]∧H'=H∧style≠2) ?_ ?_
   · walk_at "dm"
     refine⟨rfl,bn (fun _=>?_) (fun h=>⟨rfl,h⟩)⟩
     have hi:∃ i:_root_.Fin 8,seed / 8 % 8=(i.val:Int):=⟨⟨(seed / 8 % 8).toNat,by omega⟩,by show seed / 8 % 8=(((seed / 8 % 8).toNat:Nat):Int);omega⟩
     obtain⟨i,hi⟩:=hi
     rw[hi]
     obtain⟨m1,m2⟩:=pI i
     have l1:(Txt.slice (Str.ofString "mmmmmmmm") none (some (i.val:Int))).length=i.val:=by rw[dJ,m1,List.length_replicate]
     have l2:(Txt.slice (Str.ofString "mmmmmmmm") (some ((i.val:Int)+1)) none).length=7 - i.val:=by rw[dJ,m2,List.length_replicate]
     have hl:=i.isLt
     refine⟨by decide,by decide +kernel,by decide,by decide,by decide,by decide +kernel,_,ou (by omega) (by omega),?_⟩
     have l3:∀ c:Nat,(⟨#[c]⟩:Str).length=1:=fun _=>rfl
     rw[l1,l3,d5,l1,l3,l2]
     refine⟨by omega,by decide,by decide +kernel,by omega,q _ H (Nm.of_list (l:=List.replicate i.val 109++[97+(seed / 8 / 8 % 26).toNat]++List.replicate (7 - i.val) 109) ?_ ?_ ?_ ?_) (af.refl H)⟩
     · rw[gL,gL,m1,m2]
     · simp only[List.length_append,List.length_replicate,List.length_singleton];omega
     · simp only[List.length_append,List.length_replicate,List.length_singleton];omega
     · intro c hc
       rcases List.mem_append.mp hc with hc | hc
       · rcases List.mem_append.mp hc with hc | hc
         · rw[(List.mem_replicate.mp hc).2];exact⟨by decide,by decide⟩
         · rw[List.mem_singleton.mp hc];unfold cK;omega
       · rw[(List.mem_replicate.mp hc).2];exact⟨by decide,by decide⟩
   rintro σ1 H1 ⟨rfl,rfl,h2⟩
   refine cut (fun σ' H'=>σ'=[some (.int seed),some (.int style),some (.str bv),some (.int (seed / 8)),none,none,none]∧H'=H1∧style≠3) ?_ ?_
   · walk_at "dm"
     refine⟨rfl,bn (fun _=>⟨by omega,fun p hp=>⟨by decide,_,SqL.of ac,?_⟩⟩) (fun h=>h)⟩
     have h8:seed % 8=0∨seed % 8=1∨seed % 8=2∨seed % 8=3∨seed % 8=4∨seed % 8=5∨seed % 8=6∨seed % 8=7:=by omega
     have nm:∀ z:Str,(decide (1≤z.length)&&decide (z.length≤8)&&z.cps.toList.all fun c=>decide (97≤c)&&decide (c≤122))=true→Nm z:=fun z h=>by
       rw[Bool.and_eq_true,Bool.and_eq_true] at h
       refine⟨by simpa using h.1.1,by simpa using h.1.2,fun c hc=>?_⟩
       have:=List.all_eq_true.mp h.2 c hc
       simpa [cK] using this
     rcases h8 with e | e | e | e | e | e | e | e<;>(rw[e];exact⟨_,rfl,q _ _ (nm _ (by decide +kernel)) (af.updN hp)⟩)
   rintro σ2 H2 ⟨rfl,rfl,h3⟩
   refine cut (fun σ' H'=>∃ wd:Int,(wd=26∨wd=2)∧σ'=[some (.int seed),some (.int style),some (.str bv),some (.int (seed / 8)),some (.int wd),none,none]∧af H2 H') ?_ ?_
   · walk_at "dm"
     refine⟨by omega,fun p hp=>⟨_,SqL.of ac,?_⟩⟩
     have h01:style=0∨style=1:=by omega
     rcases h01 with e | e
     · rw[e];exact⟨_,rfl,26,.inl rfl,rfl,af.updN hp⟩
     · rw[e];exact⟨_,rfl,2,.inr rfl,rfl,af.updN hp⟩
   rintro σ3 H3 ⟨wd,hwd,rfl,S3⟩
   walk_at "dm"
   refine⟨by decide,by omega,by omega,?_⟩
   refine aU (H0:=H3) bu (fun i σ' H'=>∃ (ck:Int) (z:Str)(o:Option V),σ'=[some (.int seed),some (.int style),some (.str bv),some (.int ck),some (.int wd),some (.str z),o]∧H'=H3∧z.length=i∧∀ c∈z.cps.toList,cK c)
     ⟨_,_,none,rfl,rfl,by decide +kernel,fun c hc=>by rw[nu] at hc;cases hc⟩ (fun _ _ _ _ ⟨_,_,_,_,e,_⟩=>by rw[e];exact af.refl _) ?_ ?_
   · rintro i x σ H' hi rfl ⟨ck,z,o,rfl,rfl,hl,ha⟩
     have hw0:0 < wd:=by omega
     have hm0:=Int.emod_nonneg ck (show wd≠0 by omega)
     have hm1:=Int.emod_lt_of_pos ck hw0
     have hi8:i < 8:=by omega
     have l3:∀ c:Nat,(⟨#[c]⟩:Str).length=1:=fun _=>rfl
     walk_at "dm"
     refine⟨hw0,by decide +kernel,_,ou hm0 (by omega),by rw[l3];omega,⟨_,rfl⟩,hw0,by omega,by rw[d5,l3,hl],fun c hc=>?_⟩
     rw[gL] at hc
     rcases List.mem_append.mp hc with hc | hc
     · exact ha c hc
     · rw[List.mem_singleton.mp hc];unfold cK;omega
   · rintro σ H' ⟨ck,z,o,rfl,rfl,hl,ha⟩
     walk_at "dm"
     exact q z _ ⟨by omega,by omega,ha⟩ S3
end

section
variable {P:Program}{w:World}{K:PySem.W.Frag}{mg:Str→Option Value}{base:Heap}
theorem jF (l:List Nat):∀ n,n≤l.length→(List.range n).filterMap (fun i=>l[i]?)=l.take n
 | 0,_=>by simp
 | n+1,h=>by
   rw[List.range_succ,List.filterMap_append,jF l n (by omega),List.take_succ,List.getElem?_eq_getElem (by omega)]
   simp[List.getElem?_eq_getElem (show n < l.length by omega)]
theorem sD (n:Nat)(h:1≤n):Builtin.Str.strSliceIndices none (some (-1)) 1 n=List.range (n - 1):=by
 rw[StrLaws.sliceIdx_neg_hi none n (by decide) (by omega)]
 have e:(-1:Int)+(n:Int)=((n - 1:Nat):Int):=by omega
 rw[e]
 have h0:=StrLaws.strSliceIndices_plain (a:=0) (b:=n - 1) (len:=n) (by omega) (by omega)
 have e0:Builtin.Str.strSliceIndices none (some ((n - 1:Nat):Int)) 1 n=Builtin.Str.strSliceIndices (some ((0:Nat):Int)) (some ((n - 1:Nat):Int)) 1 n:=by
   have m0:max (0:Int) (min (0:Int) (n:Int))=0:=by omega
   simp[Builtin.Str.strSliceIndices,m0]
 rw[e0,h0]
 simp
theorem nK (z:Str)(h:1≤z.length):(Txt.slice z none (some (-1))).cps.toList=z.cps.toList.dropLast:=by
 unfold Txt.slice
 rw[sD _ h,List.length_range]
 have hne:¬((1:Int)==1&&(z.length - 1)==z.length)=true:=by
   rw[Bool.and_eq_true]
   intro hh
   have:=of_decide_eq_true hh.2
   omega
 rw[if_neg hne]
 show(List.filterMap (fun i=>z.cps[i]?) (List.range (z.length - 1))).toArray.toList=_
 have e:(fun i:Nat=>z.cps[i]?)=fun i=>z.cps.toList[i]?:=by funext i;simp
 rw[e,jF _ _ (by rw[Array.length_toList];exact Nat.sub_le _ _),List.dropLast_eq_take,←dJ]
def mkN (p:List Nat) (k:Nat):Str:=⟨(p++[97+k % 26]).toArray⟩
theorem dP (p:List Nat) (k:Nat):(mkN p k).cps.toList=p++[97+k % 26]:=by simp[mkN]
theorem oG (p:List Nat) (k:Nat):(mkN p k).length=p.length+1:=by rw[dJ,dP];simp
theorem uf {p:List Nat}{j k:Nat}(h:mkN p j=mkN p k):j % 26=k % 26:=by
 have:=congrArg (fun z:Str=>z.cps.toList) h
 simp only[dP] at this
 have:=List.append_cancel_left this
 simp at this
 exact this
theorem fH {a b:Str}(h:a.cps.toList=b.cps.toList):a=b:=by
 have e2:a.cps=b.cps:=Array.toList_inj.mp h
 cases a
 cases b
 simp only at e2
 rw[e2]
theorem Nm.toMk {z:Str}(h:Nm z):∃ p k,z=mkN p k∧p.length≤7∧∀ c∈p,cK c:=by
 have hne:z.cps.toList≠[]:=by
   intro e
   have:=h.lo
   rw[dJ,e] at this
   simp at this
 have hl:=h.all _ (List.getLast_mem hne)
 refine⟨z.cps.toList.dropLast,z.cps.toList.getLast hne - 97,fH ?_,?_,fun c hc=>h.all c (List.dropLast_subset _ hc)⟩
 · rw[dP]
   have e:97+(z.cps.toList.getLast hne - 97) % 26=z.cps.toList.getLast hne:=by unfold cK at hl;omega
   rw[e];exact(List.dropLast_concat_getLast hne).symm
 · have:=h.hi
   rw[dJ] at this
   rw[List.length_dropLast]
   omega
theorem Nm.of_mk {p:List Nat}{k:Nat}(hp:p.length≤7)(ha:∀ c∈p,cK c):Nm (mkN p k):=by
 refine Nm.of_list (dP p k) (by simp) (by simp;omega) fun c hc=>?_
 rcases List.mem_append.mp hc with hc | hc
 · exact ha c hc
 · rw[List.mem_singleton.mp hc];unfold cK;omega
theorem k8:∀ {l m:List Str},l.Nodup→(∀ x∈l,x∈m)→l.length≤m.length
 | [],m,_,_=>Nat.zero_le _
 | a::l,m,hn,hs=>by
   obtain⟨h1,h2⟩:=List.nodup_cons.mp hn
   have ham:a∈m:=hs a List.mem_cons_self
   have:=k8 (l:=l) (m:=m.erase a) h2 fun x hx=>(List.mem_erase_of_ne (fun e=>h1 (by rw[←e];exact hx))).mpr (hs x (List.mem_cons_of_mem _ hx))
   rw[List.length_erase_of_mem ham] at this
   have hpos:=List.length_pos_of_mem ham
   rw[List.length_cons]
   omega
theorem l4 (p:List Nat) (k:Nat)(ws:List Str)(h:ws.length≤25):∃ t,t≤25∧mkN p (k+t)∉ws:=by
 refine Classical.byContradiction fun hno=>?_
 have hall:∀ t,t≤25→mkN p (k+t)∈ws:=fun t ht=>Classical.byContradiction fun hn=>hno ⟨t,ht,hn⟩
 have hnd:((List.range 26).map fun t=>mkN p (k+t)).Nodup:=by
   refine List.pairwise_map.mpr ?_
   refine List.Pairwise.imp_of_mem ?_ List.nodup_range
   intro a b ha hb hab e
   have:=uf e
   have:=List.mem_range.mp ha
   have:=List.mem_range.mp hb
   omega
 have:=k8 hnd fun x hx=>by
   obtain⟨t,ht,rfl⟩:=List.mem_map.mp hx
   exact hall t (by have:=List.mem_range.mp ht;omega)
 rw[List.length_map,List.length_range] at this
 omega
theorem eF (x:Str):∀ ws:List Str,inV (.str x) (ws.map V.str)=decide (x∈ws)
 | []=>rfl
 | y::r=>by
   have ih:=eF x r
   unfold inV at ih ⊢
   rw[List.map_cons,List.any_cons,ih]
   show((y==x)||decide (x∈r))=decide (x∈y::r)
   rw[Bool.eq_iff_iff]
   simp only[Bool.or_eq_true,beq_iff_eq,decide_eq_true_eq,List.mem_cons]
   constructor
   · rintro(h | h)
     · exact .inl h.symm
     · exact .inr h
   · rintro(h | h)
     · exact .inl h.symm
     · exact .inr h
theorem dH (ws:List Str):(ws.map V.str).all cX=true:=by
 rw[List.all_map]
 exact List.all_eq_true.mpr fun _ _=>rfl
end

section
variable {P:Program}{w:World}{K:PySem.W.Frag}{mg:Str→Option Value}{base:Heap}
def oK:Sp:=fun vs H Q _=>∃ cell many style mixed:Int,vs=[.int cell,.int many,.int style,.int mixed]∧0≤many∧many≤20∧0≤style∧style < 4∧(mixed=0∨mixed=1) ∧
 ∀ l (ws:List Str) H',H l=none→af H H'→H' l=some (.lst (ws.map V.str))→(ws.length:Int)=many→ws.Nodup→(∀ x∈ws,Nm x)→Q (.ref l) H'
theorem fQ:ap ["_law_cell", "_law_many", "_law_style", "_law_mixed", "_law_letters", "_law_words", "_law_seed", "_law_one"] ["_law_cell", "_law_many", "_law_style", "_law_mixed"] (ae gS):=⟨rfl,rfl,rfl,by decide +kernel,rfl,by decide +kernel,by decide +kernel⟩
theorem sF {f fD fN:Addr}{fd fdD fdN:FuncData}(F:Fun K "_law_names" "_law_names" gS f fd)(T:Txt mg)(GD:ao P w K mg base CX0 1 fD fdD ["_law_cell", "_law_many", "_law_bound", "_law_mixed"] iL)(kD:PySem.W.keepIn K (.ref fD)=true)(bD:ay K fdD ["_law_cell", "_law_many", "_law_bound", "_law_mixed"] [])(mD:mg "_law_draws"=some (.ref fD))
   (GN:ao P w K mg base CX0 1 fN fdN ["_law_seed", "_law_style"] rD)(kN:PySem.W.keepIn K (.ref fN)=true)(bN:ay K fdN ["_law_seed", "_law_style"] [])(mN:mg "_law_name"=some (.ref fN)) :
   ao P w K mg base CX0 2 f fd ["_law_cell", "_law_many", "_law_style", "_law_mixed"] oK:=by
 refine F.ok fQ (fun vs H Q E h=>?_) (fun cdv A outer s H vs Q E hr h=>?_)
 · obtain⟨_,_,_,_,rfl,_⟩:=h
   rfl
 · obtain⟨cell,many,style,mixed,rfl,hm0,hm1,hs0,hs4,hmix,q⟩:=h
   refine⟨_,al (aC (i:=4) fQ.nd rfl (Or.inl rfl) aV)
     (al (aC (i:=5) fQ.nd rfl (Or.inl rfl) (bx ad))
     (al (bz PassesOwn.never rfl (a9 (ar GD hr rfl mD kD bD .nil aJ (aa (pv 0) (aa (pv 1) (aa (aw gk ah (aw vS ah ah)) (aa (pv 3) ad)))))) (au (i:=6) fQ.nd rfl (Or.inl rfl))
       (al (aC (i:=7) fQ.nd rfl (Or.inl rfl) (ar GN hr rfl mN kN bN .nil aJ (aa (pv 6) (aa (pv 2) ad))))
       (aj (nb PassesOwn.never (aF qC (pv 7) (pv 5) (by with_unfolding_all rfl)) (ag (aC (i:=7) fQ.nd rfl (Or.inl rfl) (aw cn (dj ny (pv 7) eI (dB (iW gn ah))) (aM lE (pv 4) (aw bi (aw bJ (dm PySem.F.plainAttrs_str PySem.F.slot_str_index PySem.F.type_str_index (rp rfl) (pv 4) (aa (aM lE (pv 7) (iW gn ah) (fun _ _=>rfl)) ad)) ah) ah) (fun _ _=>rfl))))))
       (ag (aO (dm PySem.F.plainAttrs_list PySem.F.slot_list_append PySem.F.type_list_append ca (pv 5) (aa (pv 7) ad)))))))
     (ag (ax (pv 5))))),?_⟩
   have hs:=aQ
   walk_at "dm"
   refine⟨by omega,fun p hp=>⟨⟨by decide,by decide,by decide⟩,.inl ⟨by decide,by decide⟩,_,_,_,_,rfl,hm0,by omega,by decide,by decide,hmix,fun l H1 hl S1 hH1=>?_⟩⟩
   walk_at "dm"
   have hpl:p≠l:=fun e=>by rw[e,ac] at hl;cases hl
   have hHl:H l=none:=by rw[ai (Ne.symm hpl)] at hl;exact hl
   have hL:=dE cell (8*26 ^ Int.toNat 8) mixed many.toNat
   generalize gd cell (8*26 ^ Int.toNat 8) mixed many.toNat=L at hH1 hL
   have S0:af (upd H l (.lst (L.map V.int))) H1:=fun b o e=>by
     by_cases hb:b=l
     · rw[hb,ac] at e;rw[hb,←e];exact hH1
     · rw[ai hb] at e
       exact S1 b o (by rw[ai (ak e hp)];exact e)
   have hp0:(upd H l (.lst (L.map V.int))) p=none:=by rw[ai hpl];exact hp
   refine⟨⟨_,SqL.of hH1⟩,?_⟩
   refine aU (H0:=upd H l (.lst (L.map V.int))) (az (SqL.of ac)) (fun i σ' H'=>∃ (ws:List Str)(o1 o2:Option V),σ'=[some (.int cell),some (.int many),some (.int style),some (.int mixed),some (.str bv),some (.ref p),o1,o2] ∧
     af (upd H l (.lst (L.map V.int))) H'∧H' p=some (.lst (ws.map V.str))∧ws.length=i∧ws.Nodup∧∀ x∈ws,Nm x)
     ⟨[],none,none,rfl,S0,S1 _ _ ac,rfl,List.nodup_nil,fun x hx=>by cases hx⟩ (fun _ _ _ _ ⟨_,_,_,_,h,_⟩=>h) ?_ ?_
   · rintro i x σ H' hi hx ⟨ws,o1,o2,rfl,hS,hH,hwl,hnd,hnm⟩
     rw[List.getElem?_map] at hx
     obtain⟨y,hy,rfl⟩:=Option.map_eq_some_iff.mp hx
     rw[List.length_map] at hi
     walk_at "dm"
     refine⟨_,_,rfl,hs0,hs4,fun z H2 hz S2=>?_⟩
     have hH2:H2 p=some (.lst (ws.map V.str)):=S2 _ _ hH
     refine cut (fun σ' H'=>∃ z',Nm z'∧z'∉ws∧σ'=[some (.int cell),some (.int many),some (.int style),some (.int mixed),some (.str bv),some (.ref p),some (.int y),some (.str z')]∧H'=H2) ?_ ?_
     · obtain⟨pp,k0,rfl,hp7,hpa⟩:=hz.toMk
       obtain⟨t0,ht0,hfree⟩:=l4 pp k0 ws (by omega)
       refine⟨fun m σ' H'=>∃ k t,t≤m∧mkN pp (k+t)∉ws∧σ'=[some (.int cell),some (.int many),some (.int style),some (.int mixed),some (.str bv),some (.ref p),some (.int y),some (.str (mkN pp k))]∧H'=H2,⟨25,k0,t0,ht0,hfree,rfl,rfl⟩,?_⟩
       rintro m σ' H' ⟨k,t,htm,hfr,rfl,rfl⟩
       walk_at "dm"
       refine⟨_,.inl (SqL.of hH2),rfl,dH ws,?_⟩
       rw[eF]
       refine bn (fun hin=>?_) (fun hin=>?_)
       · have hin':mkN pp k∈ws:=of_decide_eq_true hin
         have ht:t≠0:=fun e=>hfr (by rw[e];exact hin')
         have hlen8:(mkN pp k).length≤8:=by rw[oG];omega
         have hlet:cK (97+k % 26):=by unfold cK;omega
         have hf:=rQ hlet
         have hn1:97+k % 26 - 97=k % 26:=by omega
         rw[hn1] at hf
         have hsl:(Txt.slice (mkN pp k) none (some (-1))).cps.toList=pp:=by rw[nK _ (by rw[oG];omega),dP,List.dropLast_concat]
         have hsll:(Txt.slice (mkN pp k) none (some (-1))).length=pp.length:=by rw[dJ,hsl]
         have e1:(((k % 26:Nat):Int)+1) % 26=(((k+1) % 26:Nat):Int):=by omega
         have hnew:Txt.slice (mkN pp k) none (some (-1))++(⟨#[97+(((k+1) % 26:Nat):Int).toNat]⟩:Str)=mkN pp (k+1):=by
           refine fH ?_
           rw[gL,hsl,dP,Int.toNat_natCast]
         refine⟨fun σ' H''=>σ'=[some (.int cell),some (.int many),some (.int style),some (.int mixed),some (.str bv),some (.ref p),some (.int y),some (.str (mkN pp (k+1)))]∧H''=H',?_,by omega,rfl,by omega,_,by rw[dP];exact gv _ _,by rw[hf];omega,by decide,by decide +kernel,_,by rw[hf,e1];exact ou (by omega) (by omega),?_,?_⟩
         · rintro σ' H'' ⟨rfl,rfl⟩
           refine⟨m - 1,by omega,k+1,t - 1,by omega,?_,rfl,rfl⟩
           rw[show k+1+(t - 1)=k+t by omega]
           exact hfr
         · rw[hsll];show pp.length+1≤sizeLine;omega
         · rw[hnew];exact⟨rfl,rfl⟩
       · have hin':mkN pp k∉ws:=of_decide_eq_false (by simpa using hin)
         exact⟨mkN pp k,Nm.of_mk hp7 hpa,hin',rfl⟩
     rintro σ2 H3 ⟨z',hz',hnin,rfl,rfl⟩
     walk_at "dm"
     have hnd':(ws++[z']).Nodup:=lJ hnd hnin
     refine⟨.inl ⟨rfl,_,SqL.of hH2⟩,_,hH2,by rw[List.length_map];omega,⟨_,rfl⟩,(fun b o e=>by rw[ai (ak e hp0)];exact S2 b o (hS b o e)),ws++[z'],?_,?_,hnd',?_⟩
     · rw[ac,List.map_append];rfl
     · rw[List.length_append,hwl];rfl
     · intro x hx
       rcases List.mem_append.mp hx with hx | hx
       · exact hnm x hx
       · rw[List.mem_singleton.mp hx];exact hz'
   · rintro σ H' ⟨ws,o1,o2,rfl,hS,hH,hwl,hnd,hnm⟩
     walk_at "dm"
     refine q p ws H' hp (fun b o e=>hS b o (by rw[ai (ak e hHl)];exact e)) hH ?_ hnd hnm
     rw[hwl,List.length_map];omega
end

section
variable {P:Program}{w:World}{K:PySem.W.Frag}{mg:Str→Option Value}{base:Heap}
def inR (n:Nat)(l:List Int):Prop:=l.length=n∧∀ x∈l,0≤x∧x < n
def ma (K:PySem.W.Frag):Sp:=fun vs H Q _=>∃ (n:Nat) (shape:Int)(a:Addr)(L:List Int),vs=[.int n,.int shape,.ref a]∧1≤n∧n≤12∧SqL K H a (L.map V.int)∧inR n L ∧
 ∀ l (os:List Int) H',H l=none→af H H'→H' l=some (.lst (os.map V.int))→inR n os→Q (.ref l) H'
theorem iK {n:Nat}{l:List Int}(h:inR n l){i:Nat}(hi:i < n):∃ x,l[i]?=some x∧0≤x∧x < n:=by
 have hl:i < l.length:=by rw[h.1];exact hi
 exact⟨l[i],List.getElem?_eq_getElem hl,h.2 _ (List.getElem_mem hl)⟩
theorem je {n k:Nat}{l:List Int}{x:Int}(h:l.length=k∧∀ y∈l,0≤y∧y < n)(h0:0≤x)(h1:x < n):(l++[x]).length=k+1∧∀ y∈l++[x],0≤y∧y < n:=by
 refine⟨by rw[List.length_append,h.1];rfl,fun y hy=>?_⟩
 rcases List.mem_append.mp hy with hy | hy
 · exact h.2 y hy
 · rw[List.mem_singleton.mp hy];exact⟨h0,h1⟩
theorem iH {L:List Int}{i:Nat}{x:Int}(h:L[i]?=some x):atI (L.map V.int) (i:Int)=some (V.int x):=eX (by rw[List.getElem?_map,h];rfl)
theorem dL:ap ["_law_many", "_law_shape_here", "_law_drawn", "_law_outs_here", "_law_k", "_law_low", "_law_high"] ["_law_many", "_law_shape_here", "_law_drawn"] (ae fJ):=⟨rfl,rfl,rfl,by decide +kernel,rfl,by decide +kernel,by decide +kernel⟩
theorem pN {f:Addr}{fd:FuncData}(F:Fun K "_law_turned" "_law_turned" fJ f fd)(T:Txt mg):ao P w K mg base CX0 1 f fd ["_law_many", "_law_shape_here", "_law_drawn"] (ma K):=by
 refine F.ok dL (fun vs H Q E h=>?_) (fun cdv A outer s H vs Q E hr h=>?_)
 · obtain⟨_,_,_,_,rfl,_⟩:=h
   rfl
 · obtain⟨n,shape,a,L,rfl,hn1,hn12,ha,hL,q⟩:=h
   refine⟨_,aj (aZ (aF dn (pv 1) ah (aK _)) (ag (ax (df (N':=["_law_k", "_law_many", "_law_drawn"]) (pk:=[none,some 0,some 2]) rfl (cg.of (by rfl)) (cj rfl T.range (aa (pv 0) ad)) (fun s H ex=>au (i:=0) (by show(["_law_k", "_law_many", "_law_drawn"]:List Str).Nodup;decide +kernel) rfl (Or.inl rfl))
         (fun s H ex=>av (fF rfl) (by rfl) T.min (by decide +kernel) (aa (aw bJ (pv 0) (aw bi (aM (aG:IxR _ (ot K)) (pv 2) (pv 0) (fun _ _=>rfl)) ah)) (aa (aw rj (pv 1) ah) ad)))))) aB)
     (aj (aZ (aF dn (pv 1) ah (aK _)) (ag (ax (aw ra (bx (aa (aM aG (pv 2) ah (fun _ _=>rfl)) ad)) (pv 0)))) aB)
     (al (aC (i:=3) dL.nd rfl (Or.inl rfl) (bx ad))
     (al (bz PassesOwn.never rfl (cj rfl T.range (aa (pv 0) ad)) (au (i:=4) dL.nd rfl (Or.inl rfl))
       (aj (aC (i:=5) dL.nd rfl (Or.inl rfl) (aM aG (bx (aa ah (aa (aw cf (pv 0) ah) ad))) (bg da (by rfl) T.int (by decide +kernel) (aa (cT io (pv 4) (aw cf (pv 0) ah) (aK _)) ad)) (fun _ _=>rfl)))
       (aj (aC (i:=6) dL.nd rfl (Or.inl rfl) (aM aG (bx (aa (aw cf (pv 0) ah) (aa (pv 0) ad))) (bg da (by rfl) T.int (by decide +kernel) (aa (cT io (pv 4) (aw cf (pv 0) ah) (aK _)) ad)) (fun _ _=>rfl)))
       (ag (aZ (aF dn (pv 1) ah (aK _))
         (aj (aC (i:=5) dL.nd rfl (Or.inl rfl) (aM aG (bx (aa ah (aa ah (aa ah ad)))) (aw bJ (bg da (by rfl) T.int (by decide +kernel) (aa (cT io (pv 4) ah (aK _)) ad)) (bg da (by rfl) T.int (by decide +kernel) (aa (cT io (pv 4) ah (aK _)) ad))) (fun _ _=>rfl)))
         (aj (aC (i:=6) dL.nd rfl (Or.inl rfl) (av (fF rfl) (by rfl) T.min (by decide +kernel) (aa (aM aG (bx (aa ah (aa ah (aa ah ad)))) (aw bJ (bg da (by rfl) T.int (by decide +kernel) (aa (cT io (pv 4) ah (aK _)) ad)) (bg da (by rfl) T.int (by decide +kernel) (aa (cT io (pv 4) ah (aK _)) ad))) (fun _ _=>rfl)) (aa (pv 0) ad))))
         (ag (aO (dm PySem.F.plainAttrs_list PySem.F.slot_list_append PySem.F.type_list_append ca (pv 3) (aa (aM aG (bx (aa (pv 5) (aa (aw bJ (pv 4) ah) ad))) (bg da (by rfl) T.int (by decide +kernel) (aa (cT i0 (aw bJ (pv 4) ah) (pv 6) (aK _)) ad)) (fun _ _=>rfl)) ad))))))
         (ag (aO (dm PySem.F.plainAttrs_list PySem.F.slot_list_append PySem.F.type_list_append ca (pv 3) (aa (aw bJ (pv 5) (aw bi (aM aG (pv 2) (pv 4) (fun _ _=>rfl)) (aw rj (pv 6) (pv 5)))) ad)))))))))
     (ag (ax (pv 3)))))),?_⟩
   have hs:=aQ
   refine cut (fun σ' H'=>σ'=[some (.int n),some (.int shape),some (.ref a),none,none,none,none]∧H'=H) ?_ ?_
   · walk_at "dm"
     refine⟨rfl,bn (fun h4=>⟨by omega,by omega,fun D hD=>?_⟩) (fun _=>trivial)⟩
     have out:∀ i,∃ y:Int,i < n→∃ x,L[i]?=some x∧(0≤y∧y < n)∧y=(if(n:Int) - 1 < (0+(i:Int))+x % 2 then(n:Int) - 1 else(0+(i:Int))+x % 2):=fun i=>by
       by_cases hi:i < n
       · obtain⟨x,hx,h0,h1⟩:=iK hL hi
         refine⟨_,fun _=>⟨x,hx,?_,rfl⟩⟩
         split<;>omega
       · exact⟨0,fun h=>absurd h hi⟩
     refine cq bu (by omega) hD (fun σ=>∃ o,σ=[o,some (.int n),some (.ref a)]) (fun i=>.int (out i).choose) ⟨none,rfl⟩ ?_ ?_
     · rintro i x σ' H' hi rfl ⟨o,rfl⟩ hS R hR
       obtain⟨x,hx,_,e⟩:=(out i).choose_spec (by omega)
       walk_at "dm"
       refine⟨_,hS.seq ha,V.int x,?_,_,rfl,by decide,?_⟩
       · rw[show(0:Int)+(i:Int)=(i:Int) by omega];exact iH hx
       · rw[←e];exact hR _ ⟨_,rfl⟩
     · have en:((n:Int)).toNat=n:=by omega
       rw[en]
       refine q D ((List.range n).map fun i=>(out i).choose) _ hD (af.updN hD) ?_ ⟨by rw[List.length_map,List.length_range],fun x hx=>?_⟩
       · rw[ac,List.map_map];rfl
       · obtain⟨i,hi,rfl⟩:=List.mem_map.mp hx
         obtain⟨_,_,h,_⟩:=(out i).choose_spec (List.mem_range.mp hi)
         exact h
   rintro σ1 H1 ⟨rfl,rfl⟩
   refine cut (fun σ' H'=>σ'=[some (.int n),some (.int shape),some (.ref a),none,none,none,none]∧H'=H1) ?_ ?_
   · walk_at "dm"
     refine⟨rfl,bn (fun h6=>?_) (fun _=>trivial)⟩
     obtain⟨x,hx,h0,h1⟩:=iK hL (show 0 < n by omega)
     refine⟨_,ha,_,iH hx,by omega,fun p hp=>⟨_,ac,by omega,by omega,?_,fun p1 hp1=>?_⟩⟩
     · rw[List.length_singleton];omega
     · have en:((n:Int)).toNat=n:=by omega
       rw[en]
       have hp1':H1 p1=none:=(af.updN hp).free hp1
       refine q p1 (List.replicate n x) _ hp1' ((af.updN hp).step hp1') ?_ ⟨List.length_replicate,fun y hy=>?_⟩
       · rw[ac,List.map_replicate,List.flatten_replicate_singleton]
       · rw[(List.mem_replicate.mp hy).2];exact⟨h0,h1⟩
   rintro σ2 H2 ⟨rfl,rfl⟩
   walk_at "dm"
   refine⟨by omega,fun p hp=>⟨by omega,by omega,?_⟩⟩
   refine aU (H0:=H2) bu (fun i σ' H'=>∃ (os:List Int)(o4 o5 o6:Option V),σ'=[some (.int n),some (.int shape),some (.ref a),some (.ref p),o4,o5,o6]∧af H2 H'∧H' p=some (.lst (os.map V.int))∧os.length=i∧∀ y∈os,0≤y∧y < n)
     ⟨[],none,none,none,rfl,af.updN hp,ac,rfl,fun y hy=>by cases hy⟩ (fun _ _ _ _ ⟨_,_,_,_,_,h,_⟩=>h) ?_ ?_
   · rintro i x σ H' hi rfl ⟨os,o4,o5,o6,rfl,hS,hH,hl⟩
     have hin:i < n:=by omega
     have ei:(0:Int)+(i:Int)=i:=by omega
     rw[ei]
     walk_at "dm"
     refine cut (fun σ' H''=>∃ lo:Int,lo=(if(n:Int) / 2≤i then(n:Int) / 2 else 0)∧σ'=[some (.int n),some (.int shape),some (.ref a),some (.ref p),some (.int i),some (.int lo),o6]∧af H2 H''∧H'' p=some (.lst (os.map V.int))) ?_ ?_
     · walk_at "dm"
       refine⟨by decide,by decide,by omega,fun p1 hp1=>⟨by decide,by decide,.inr ⟨_,SqL.of ac,V.int (if(n:Int) / 2≤i then(n:Int) / 2 else 0),?_,rfl,hS.step (hS.free hp1),?_⟩⟩⟩
       · split<;>rfl
       · rw[ai (ak hH hp1)];exact hH
     rintro σ3 H3 ⟨lo,hlo,rfl,S3,hH3⟩
     refine cut (fun σ' H''=>∃ hi:Int,hi=(if(n:Int) / 2≤i then(n:Int) else(n:Int) / 2)∧σ'=[some (.int n),some (.int shape),some (.ref a),some (.ref p),some (.int i),some (.int lo),some (.int hi)]∧af H2 H''∧H'' p=some (.lst (os.map V.int))) ?_ ?_
     · walk_at "dm"
       refine⟨by decide,by decide,by omega,fun p1 hp1=>⟨by decide,by decide,.inr ⟨_,SqL.of ac,V.int (if(n:Int) / 2≤i then(n:Int) else(n:Int) / 2),?_,rfl,S3.step (S3.free hp1),?_⟩⟩⟩
       · split<;>rfl
       · rw[ai (ak hH3 hp1)];exact hH3
     rintro σ4 H4 ⟨hi,hhi,rfl,S4,hH4⟩
     walk_at "dm"
     refine⟨rfl,bn (fun h7=>?_) (fun h7=>?_)⟩
     · refine cut (fun σ' H''=>∃ lo:Int,(0≤lo∧lo≤i)∧σ'=[some (.int n),some (.int shape),some (.ref a),some (.ref p),some (.int i),some (.int lo),some (.int hi)]∧af H2 H''∧H'' p=some (.lst (os.map V.int))) ?_ ?_
       · walk_at "dm"
         refine⟨by omega,fun p1 hp1=>.inr (.inr ?_)⟩
         refine⟨_,SqL.of ac,V.int (if(7:Int)≤i then 7 else if(3:Int)≤i then 3 else 0),?_,_,?_,?_,rfl,S4.step (S4.free hp1),?_⟩
         · by_cases c7:(7:Int)≤i
           · rw[if_pos c7,if_pos c7,if_pos (show(3:Int)≤i by omega)];rfl
           · rw[if_neg c7,if_neg c7];split<;>rfl
         · split<;>(try split)<;>omega
         · split<;>(try split)<;>omega
         · rw[ai (ak hH4 hp1)];exact hH4
       rintro σ5 H5 ⟨lo',hlo',rfl,S5,hH5⟩
       refine cut (fun σ' H''=>∃ hi:Int,hi≤n∧σ'=[some (.int n),some (.int shape),some (.ref a),some (.ref p),some (.int i),some (.int lo'),some (.int hi)]∧af H2 H''∧H'' p=some (.lst (os.map V.int))) ?_ ?_
       · walk_at "dm"
         refine⟨by omega,fun p1 hp1=>.inr (.inr ?_)⟩
         refine⟨_,SqL.of ac,V.int (if(7:Int)≤i then 12 else if(3:Int)≤i then 7 else 3),?_,_,rfl,_,?_,rfl,S5.step (S5.free hp1),?_⟩
         · by_cases c7:(7:Int)≤i
           · rw[if_pos c7,if_pos c7,if_pos (show(3:Int)≤i by omega)];rfl
           · rw[if_neg c7,if_neg c7];split<;>rfl
         · split<;>omega
         · rw[ai (ak hH5 hp1)];exact hH5
       rintro σ6 H6 ⟨hi',hhi',rfl,S6,hH6⟩
       walk_at "dm"
       refine⟨.inl ⟨rfl,_,SqL.of hH6⟩,by omega,fun p1 hp1=>.inr ⟨_,SqL.of ac,V.int (if(i:Int)+1 < hi' then(i:Int)+1 else lo'),?_,_,by rw[ai (ak hH6 hp1)];exact hH6,by rw[List.length_map];omega,⟨_,rfl⟩,(S6.step (S6.free hp1)).step hp,os++[if(i:Int)+1 < hi' then(i:Int)+1 else lo'],?_,je hl ?_ ?_⟩⟩
       · split<;>rfl
       · rw[ac,List.map_append];rfl
       · split<;>omega
       · split<;>omega
     · obtain⟨x,hx,h0,h1⟩:=iK hL hin
       have hpos:0 < hi - lo:=by rw[hhi,hlo];split<;>omega
       have hm0:=Int.emod_nonneg x (show hi - lo≠0 by omega)
       have hm1:=Int.emod_lt_of_pos x hpos
       have hlo0:0≤lo:=by rw[hlo];split<;>omega
       have hhin:hi≤n:=by rw[hhi];split<;>omega
       refine⟨.inl ⟨rfl,_,SqL.of hH4⟩,_,S4.seq ha,_,iH hx,_,rfl,hpos,_,hH4,by rw[List.length_map];omega,⟨_,rfl⟩,S4.step hp,os++[lo+x % (hi - lo)],?_,je hl (by omega) (by omega)⟩
       rw[ac,List.map_append];rfl
   · rintro σ H' ⟨os,o4,o5,o6,rfl,hS,hH,hl⟩
     walk_at "dm"
     have en:((n:Int)).toNat=n:=by omega
     rw[en] at hl
     exact q p os H' hp hS hH hl
end

section
variable {P:Program}{w:World}{K:PySem.W.Frag}{mg:Str→Option Value}{base:Heap}
def qT:Sp:=fun vs H Q _=>∃ (cell:Int) (n:Nat) (shape mixed:Int),vs=[.int cell,.int n,.int shape,.int mixed]∧1≤n∧n≤12∧(mixed=0∨mixed=1) ∧
 ∀ l (os:List Int) H',H l=none→af H H'→H' l=some (.lst (os.map V.int))→inR n os→Q (.ref l) H'
theorem pb {n j:Nat}(h:j < n):ixN n (j:Int)=some j:=by
 unfold ixN
 rw[if_pos (by omega),if_pos (by omega)]
 simp
theorem vK {n:Nat}{k:Int}(h0:0≤k)(h1:k < n):seqIndex? k n=some k.toNat:=by
 obtain⟨j,rfl⟩:=Int.eq_ofNat_of_zero_le h0
 rw[Int.toNat_natCast]
 exact(ly (pb (by omega))).1
theorem tj {n i:Nat}{l:List Int}{x:Int}(h:inR n l)(h0:0≤x)(h1:x < n):inR n (l.set i x):=by
 refine⟨by rw[List.length_set];exact h.1,fun y hy=>?_⟩
 rcases List.mem_or_eq_of_mem_set hy with hy | hy
 · exact h.2 y hy
 · rw[hy];exact⟨h0,h1⟩
theorem px {L:List Int}(h:1≤L.length):∃ x∈L,atI (L.map V.int) (-1)=some (V.int x):=by
 have hne:L≠[]:=fun e=>by rw[e] at h;simp at h
 refine⟨L.getLast hne,List.getLast_mem hne,?_⟩
 have e:L.map V.int=L.dropLast.map V.int++[V.int (L.getLast hne)]:=by
   rw[←List.map_singleton,←List.map_append,List.dropLast_concat_getLast hne]
 rw[e]
 exact gv _ _
theorem pX {n m i:Nat}{l:List Int}(h:l.length=m+1∧∀ y∈l,0≤y∧y < n)(hi:i < m+1):(l.eraseIdx i).length=m∧∀ y∈l.eraseIdx i,0≤y∧y < n:=by
 refine⟨by rw[List.length_eraseIdx_of_lt (by omega)];omega,fun y hy=>h.2 y (List.mem_of_mem_eraseIdx hy)⟩
theorem qZ {α β:Type}(f:α→β):∀ (l:List α) (i:Nat),(l.map f).eraseIdx i=(l.eraseIdx i).map f
 | [],_=>rfl
 | _::_,0=>rfl
 | x::r,i+1=>congrArg (f x::·) (qZ f r i)
theorem mf (n:Nat):(List.range n).map (fun i:Nat=>V.int i)=((List.range n).map fun i:Nat=>(i:Int)).map V.int:=by rw[List.map_map];rfl
theorem rV (n:Nat):inR n ((List.range n).map fun i:Nat=>(i:Int)):=⟨by rw[List.length_map,List.length_range],fun x hx=>by
 obtain⟨i,hi,rfl⟩:=List.mem_map.mp hx
 have:=List.mem_range.mp hi
 omega⟩
theorem gT:ap ["_law_cell", "_law_many", "_law_shape_here", "_law_mixed", "_law_drawn", "_law_left", "_law_outs_here", "_law_one"] ["_law_cell", "_law_many", "_law_shape_here", "_law_mixed"] (ae jY):=⟨rfl,rfl,rfl,by decide +kernel,rfl,by decide +kernel,by decide +kernel⟩
theorem ua {f fD fT:Addr}{fd fdD fdT:FuncData}(F:Fun K "_law_outs" "_law_outs" jY f fd)(T:Txt mg)(GD:ao P w K mg base CX0 1 fD fdD ["_law_cell", "_law_many", "_law_bound", "_law_mixed"] iL)(kD:PySem.W.keepIn K (.ref fD)=true)(bD:ay K fdD ["_law_cell", "_law_many", "_law_bound", "_law_mixed"] [])(mD:mg "_law_draws"=some (.ref fD))
   (GT:ao P w K mg base CX0 1 fT fdT ["_law_many", "_law_shape_here", "_law_drawn"] (ma K))(kT:PySem.W.keepIn K (.ref fT)=true)(bT:ay K fdT ["_law_many", "_law_shape_here", "_law_drawn"] [])(mT:mg "_law_turned"=some (.ref fT)) :
   ao P w K mg base CX0 2 f fd ["_law_cell", "_law_many", "_law_shape_here", "_law_mixed"] qT:=by
 refine F.ok gT (fun vs H Q E h=>?_) (fun cdv A outer s H vs Q E hr h=>?_)
 · obtain⟨_,_,_,_,rfl,_⟩:=h
   rfl
 · obtain⟨cell,n,shape,mixed,rfl,hn1,hn12,hmix,q⟩:=h
   refine⟨_,aj (aC (i:=4) gT.nd rfl (Or.inl rfl) (ar GD hr rfl mD kD bD .nil aJ (aa (pv 0) (aa (pv 1) (aa (pv 1) (aa (pv 3) ad))))))
     (aj (aZ (aF dn (pv 2) ah (aK _)) (ag (ax (pv 4))) aB)
     (aj (aZ (aF dn (pv 2) ah (aK _))
       (al (aC (i:=5) gT.nd rfl (Or.inl rfl) (bg (jc rfl) (by rfl) T.list (by decide +kernel) (aa (bg ij (by rfl) T.range (by decide +kernel) (aa (pv 1) ad)) ad)))
       (al (aC (i:=6) gT.nd rfl (Or.inl rfl) (bx ad))
       (al (bz PassesOwn.never rfl (a9 (pv 4)) (au (i:=7) gT.nd rfl (Or.inl rfl))
         (ag (aO (dm PySem.F.plainAttrs_list PySem.F.slot_list_append PySem.F.type_list_append ca (pv 6) (aa (dm PySem.F.plainAttrs_list PySem.F.slot_list_pop PySem.F.type_list_pop rH (pv 5) (aa (aw bi (pv 7) (av aE (by rfl) T.len PySem.boot_len (aa (pv 5) ad))) ad)) ad)))))
       (ag (ax (pv 6)))))) aB)
     (aj (aZ (aF dn (pv 2) ah (aK _)) (ag (ax (df (N':=["_law_k", "_law_many"]) (pk:=[none,some 1]) rfl (cg.of (by rfl)) (cj rfl T.range (aa (pv 1) ad)) (fun s H ex=>au (i:=0) (by show(["_law_k", "_law_many"]:List Str).Nodup;decide +kernel) rfl (Or.inl rfl))
         (fun s H ex=>aw bi (aw bJ (pv 0) ah) (pv 1))))) aB)
     (aj (aZ (aF dn (pv 2) ah (aK _))
       (al (aC (i:=6) gT.nd rfl (Or.inl rfl) (bg (jc rfl) (by rfl) T.list (by decide +kernel) (aa (bg ij (by rfl) T.range (by decide +kernel) (aa (pv 1) ad)) ad)))
       (al (lU (aM aG (pv 4) (iW gn ah) (fun _ _=>rfl)) (rm (pv 6) (aM aG (pv 4) ah (fun _ _=>rfl)) m3))
       (ag (ax (pv 6))))) aB)
     (ag (ax (ar GT hr rfl mT kT bT .nil aJ (aa (pv 1) (aa (pv 2) (aa (pv 4) ad)))))))))),?_⟩
   have hs:=aQ
   refine cut (fun σ' H'=>∃ d L,σ'=[some (.int cell),some (.int n),some (.int shape),some (.int mixed),some (.ref d),none,none,none]∧H d=none∧af H H'∧H' d=some (.lst (L.map V.int))∧inR n L) ?_ ?_
   · walk_at "dm"
     refine⟨_,_,_,_,rfl,by omega,by omega,by omega,by omega,hmix,fun l H' hl S1 hH=>⟨l,rfl,hl,S1,_,hH,?_⟩⟩
     have en:((n:Int)).toNat=n:=by omega
     rw[en]
     exact⟨dE _ _ _ _,ib (by omega) _⟩
   rintro σ1 H1 ⟨d,L,rfl,hd,S1,hH1,hL⟩
   refine cut (fun σ' H'=>σ'=[some (.int cell),some (.int n),some (.int shape),some (.int mixed),some (.ref d),none,none,none]∧H'=H1) ?_ ?_
   · walk_at "dm"
     exact⟨rfl,bn (fun _=>q d L H1 hd S1 hH1 hL) (fun _=>trivial)⟩
   rintro σ2 H2 ⟨rfl,rfl⟩
   refine cut (fun σ' H'=>σ'=[some (.int cell),some (.int n),some (.int shape),some (.int mixed),some (.ref d),none,none,none]∧H'=H2) ?_ ?_
   · walk_at "dm"
     refine⟨rfl,bn (fun _ p hp=>⟨n,ac,by omega,fun l hl=>⟨by omega,fun p1 hp1=>?_⟩⟩) (fun _=>trivial)⟩
     have Sa:af H2 (upd H2 p (.rng 0 n)):=af.updN hp
     have hl2:H2 l=none:=Sa.free hl
     have Sb:af H2 (upd (upd H2 p (.rng 0 n)) l (.lst ((List.range n).map fun i:Nat=>V.int i))):=Sa.step hl2
     have hp12:H2 p1=none:=Sb.free hp1
     have hlp1:l≠p1:=fun e=>by rw[←e,ac] at hp1;cases hp1
     have Sc:=Sb.step (o:=HO.lst []) hp12
     refine⟨⟨_,SqL.of (Sc _ _ hH1)⟩,?_⟩
     refine aU (H0:=H2) (az (SqL.of hH1)) (fun i σ' H'=>∃ (ls os:List Int)(o:Option V),σ'=[some (.int cell),some (.int n),some (.int shape),some (.int mixed),some (.ref d),some (.ref l),some (.ref p1),o]∧af H2 H'∧H' l=some (.lst (ls.map V.int))∧H' p1=some (.lst (os.map V.int)) ∧
       (ls.length=n - i∧∀ y∈ls,0≤y∧y < n)∧(os.length=i∧∀ y∈os,0≤y∧y < n))
       ⟨(List.range n).map fun i:Nat=>(i:Int),[],none,rfl,Sc,?_,ac,rV n,rfl,fun y hy=>by cases hy⟩ (fun _ _ _ _ ⟨_,_,_,_,h,_⟩=>h) ?_ ?_
     · rw[ai hlp1,ac,mf]
     · rintro i x σ H' hi hx ⟨ls,os,o,rfl,hS,hHl,hHp,hls,hos⟩
       rw[List.getElem?_map] at hx
       obtain⟨y,hy,rfl⟩:=Option.map_eq_some_iff.mp hx
       rw[List.length_map,hL.1] at hi
       have hpos:(0:Int) < (ls.length:Nat):=by rw[hls.1];omega
       have hm0:=Int.emod_nonneg y (show((ls.length:Nat):Int)≠0 by omega)
       have hm1:=Int.emod_lt_of_pos y hpos
       have hk:(y % (ls.length:Nat)).toNat < ls.length:=by omega
       obtain⟨z,hz⟩:∃ z,ls[(y % (ls.length:Nat)).toNat]?=some z:=⟨_,List.getElem?_eq_getElem hk⟩
       have hzm:z∈ls:=List.mem_of_getElem? hz
       walk_at "dm"
       refine⟨.inl ⟨rfl,_,SqL.of hHp⟩,.inl ⟨rfl,_,SqL.of hHl⟩,_,.inl (SqL.of hHl),?_⟩
       rw[List.length_map]
       refine⟨hpos,_,hHl,by omega,by omega,_,by rw[List.length_map];exact vK hm0 hm1,_,by rw[List.getElem?_map,hz];rfl,_,by rw[ai (Ne.symm hlp1)];exact hHp,by rw[List.length_map];omega,(hS.step hl2).step hp12,ls.eraseIdx (y % (ls.length:Nat)).toNat,?_,?_⟩
       · rw[ai hlp1,ac,qZ]
       · have e1:=pX (m:=n - (i+1)) (n:=n) (l:=ls) (i:=(y % (ls.length:Nat)).toNat) ⟨by omega,hls.2⟩ (by omega)
         have e2:=je hos (hls.2 z hzm).1 (hls.2 z hzm).2
         exact⟨os++[z],by rw[ac,List.map_append];rfl,e1.1,e1.2,e2.1,e2.2⟩
     · rintro σ H' ⟨ls,os,o,rfl,hS,hHl,hHp,hls,hos⟩
       walk_at "dm"
       rw[List.length_map,hL.1] at hos
       exact q p1 os H' (S1.free hp12) (S1.trans hS) hHp hos
   rintro σ3 H3 ⟨rfl,rfl⟩
   refine cut (fun σ' H'=>σ'=[some (.int cell),some (.int n),some (.int shape),some (.int mixed),some (.ref d),none,none,none]∧H'=H3) ?_ ?_
   · walk_at "dm"
     refine⟨rfl,bn (fun _=>⟨by omega,by omega,fun D hD=>?_⟩) (fun _=>trivial)⟩
     refine cq bu (by omega) hD (fun σ=>∃ o,σ=[o,some (.int n)]) (fun i=>.int ((0+(i:Int)+1) % n)) ⟨none,rfl⟩ ?_ ?_
     · rintro i x σ' H' hi rfl ⟨o,rfl⟩ hS R hR
       walk_at "dm"
       exact⟨by omega,hR _ ⟨_,rfl⟩⟩
     · have en:((n:Int)).toNat=n:=by omega
       rw[en]
       refine q D ((List.range n).map fun i:Nat=>(0+(i:Int)+1) % n) _ (S1.free hD) (S1.step (S1.free hD)) ?_ ⟨by rw[List.length_map,List.length_range],fun x hx=>?_⟩
       · rw[ac,List.map_map];rfl
       · obtain⟨i,hi,rfl⟩:=List.mem_map.mp hx
         exact⟨Int.emod_nonneg _ (by omega),Int.emod_lt_of_pos _ (by omega)⟩
   rintro σ4 H4 ⟨rfl,rfl⟩
   refine cut (fun σ' H'=>σ'=[some (.int cell),some (.int n),some (.int shape),some (.int mixed),some (.ref d),none,none,none]∧H'=H4) ?_ ?_
   · walk_at "dm"
     refine⟨rfl,bn (fun _ p hp=>⟨n,ac,by omega,fun l hl=>?_⟩) (fun _=>trivial)⟩
     have Sa:af H4 (upd H4 p (.rng 0 n)):=af.updN hp
     have hl2:H4 l=none:=Sa.free hl
     have Sb:af H4 (upd (upd H4 p (.rng 0 n)) l (.lst ((List.range n).map fun i:Nat=>V.int i))):=Sa.step hl2
     obtain⟨z,hzm,hz⟩:=px (L:=L) (by rw[hL.1];omega)
     obtain⟨y,hy,hy0,hy1⟩:=iK hL (show 0 < n by omega)
     refine⟨_,SqL.of (Sb _ _ hH1),_,hz,_,SqL.of (Sb _ _ hH1),_,iH hy,_,_,rfl,ac,y.toNat,?_,?_⟩
     · rw[List.length_map,List.length_range]
       have:=pb (n:=n) (j:=y.toNat) (by omega)
       rwa [Int.toNat_of_nonneg hy0] at this
     · refine q l (((List.range n).map fun i:Nat=>(i:Int)).set y.toNat z) _ (S1.free hl2) (S1.trans (Sb.step hl2)) ?_ (tj (rV n) (hL.2 z hzm).1 (hL.2 z hzm).2)
       rw[ac,mf,List.map_set]
   rintro σ5 H5 ⟨rfl,rfl⟩
   walk_at "dm"
   refine⟨_,_,_,_,rfl,hn1,hn12,SqL.of hH1,hL,fun l os H' hl S2 hH hos=>q l os H' (S1.free hl) (S1.trans S2) hH hos⟩
end

section
variable {P:Program}{w:World}{K:PySem.W.Frag}{mg:Str→Option Value}{base:Heap}
def oX:Sp:=fun vs H Q _=>∃ pick k:Int,vs=[.int pick,.int k]∧∀ r H',af H H'→Q (.int r) H'
theorem tw:ap ["_law_pick", "_law_k"] ["_law_pick", "_law_k"] (ae g6):=⟨rfl,rfl,rfl,by decide +kernel,rfl,by decide +kernel,by decide +kernel⟩
theorem uA {a0 a1 a2 a3 a4 a5 a6 a7:Int}{k:Int}(h0:0≤k)(h8:k < 8):∃ r,atI [V.int a0,V.int a1,V.int a2,V.int a3,V.int a4,V.int a5,V.int a6,V.int a7] k=some (V.int r):=by
 have h:k=0∨k=1∨k=2∨k=3∨k=4∨k=5∨k=6∨k=7:=by omega
 rcases h with e | e | e | e | e | e | e | e<;>(rw[e];exact⟨_,rfl⟩)
theorem rC {f:Addr}{fd:FuncData}(F:Fun K "_law_shape" "_law_shape" g6 f fd)(T:Txt mg):ao P w K mg base CX0 1 f fd ["_law_pick", "_law_k"] oX:=by
 refine F.ok tw (fun vs H Q E h=>?_) (fun cdv A outer s H vs Q E hr h=>?_)
 · obtain⟨_,_,rfl,_⟩:=h
   rfl
 · obtain⟨pick,k,rfl,q⟩:=h
   refine⟨_,al (aZ (aF dn (aw bi (pv 0) ah) ah (aK _)) (ag (ax (aw bi (aw bJ (pv 1) (aw cf (pv 0) ah)) ah))) aB)
     (al (aZ (aF dn (pv 1) ah (aK _)) (ag (ax (aM aG (bx uN) (aw bi (pv 0) ah) (fun _ _=>rfl)))) aB)
     (ag (ax (aM aG (bx uN) (aw bi (pv 0) ah) (fun _ _=>rfl))))),?_⟩
   have hs:=aQ
   walk_at "dm"
   refine⟨by decide,rfl,bn (fun _=>⟨by decide,by decide,by decide,q _ H (af.refl H)⟩) (fun _=>⟨rfl,bn (fun _=>⟨by omega,fun p hp=>⟨by decide,_,SqL.of ac,?_⟩⟩) (fun _=>⟨by omega,fun p hp=>⟨by decide,_,SqL.of ac,?_⟩⟩)⟩)⟩
   · obtain⟨r,hr⟩:=uA (k:=pick % 8) (a0:=0) (a1:=1) (a2:=0) (a3:=2) (a4:=4) (a5:=5) (a6:=3) (a7:=7) (by omega) (by omega)
     exact⟨_,hr,q _ _ (af.updN hp)⟩
   · obtain⟨r,hr⟩:=uA (k:=pick % 8) (a0:=0) (a1:=1) (a2:=0) (a3:=3) (a4:=4) (a5:=5) (a6:=1) (a7:=1) (by omega) (by omega)
     exact⟨_,hr,q _ _ (af.updN hp)⟩
structure NmL (ws:List Str) (n:Nat):Prop where
 len:ws.length=n
 nd:ws.Nodup
 nm:∀ x∈ws,Nm x
def ph (K:PySem.W.Frag):Sp:=fun vs H Q _=>∃ (a:Addr)(ns:List Int) (n c:Nat),vs=[.ref a,.int n,.int c]∧SqL K H a (ns.map V.int)∧n≤12∧c≤12 ∧
 ∀ p l1 l2 (ws ts:List Str) H',af H H'→H' p=some (.tup [.ref l1,.ref l2])→H' l1=some (.lst (ws.map V.str))→H' l2=some (.lst (ts.map V.str))→NmL ws (n+1)→NmL ts (c+1)→Q (.ref p) H'
abbrev pAt:List Str:=["_law_script", "_law_k"]
abbrev rL:List Str:=["_law_cell", "_law_many", "_law_style", "_law_mixed"]
theorem iJ:ap ["_law_script", "_law_many", "_law_count", "_law_mixed", "_law_style", "_law_shades"] ["_law_script", "_law_many", "_law_count"] (ae gO):=⟨rfl,rfl,rfl,by decide +kernel,rfl,by decide +kernel,by decide +kernel⟩
theorem rR {f fA fN:Addr}{fd fdA fdN:FuncData}(F:Fun K "_law_named" "_law_named" gO f fd)(T:Txt mg)(GA:ao P w K mg base CX0 1 fA fdA pAt (sx K))(kA:PySem.W.keepIn K (.ref fA)=true)(bA:ay K fdA pAt [])(mA:mg "_law_at"=some (.ref fA))
   (GN:ao P w K mg base CX0 2 fN fdN rL oK)(kN:PySem.W.keepIn K (.ref fN)=true)(bN:ay K fdN rL [])(mN:mg "_law_names"=some (.ref fN)) :
   ao P w K mg base CX0 3 f fd ["_law_script", "_law_many", "_law_count"] (ph K):=by
 refine F.ok iJ (fun vs H Q E h=>?_) (fun cdv A outer s H vs Q E hr h=>?_)
 · obtain⟨_,_,_,_,rfl,_⟩:=h
   rfl
 · obtain⟨a,ns,n,c,rfl,ha,hn,hc,q⟩:=h
   have hr1:=hr.mono (j:=1) (by omega)
   refine⟨_,al (aC (i:=3) iJ.nd rfl (Or.inl rfl) (aw bi (ar GA hr1 rfl mA kA bA .nil aJ (aa (pv 0) (aa ah ad))) ah))
     (al (aC (i:=4) iJ.nd rfl (Or.inl rfl) (aw bi (aw cf (ar GA hr1 rfl mA kA bA .nil aJ (aa (pv 0) (aa ah ad))) ah) ah))
     (al (aC (i:=5) iJ.nd rfl (Or.inl rfl) (ar GN hr rfl mN kN bN .nil aJ (aa (ar GA hr1 rfl mA kA bA .nil aJ (aa (pv 0) (aa ah ad))) (aa (aw bJ (pv 1) ah) (aa (pv 4) (aa (pv 3) ad))))))
     (ag (ax (du (aa (pv 5) (aa (ar GN hr rfl mN kN bN .nil aJ (aa (ar GA hr1 rfl mA kA bA .nil aJ (aa (pv 0) (aa ah ad))) (aa (aw bJ (pv 2) ah) (aa (pv 4) (aa (pv 3) ad))))) ad))))))),?_⟩
   have hs:=aQ
   walk_at "dm"
   refine ff ha (by decide) ⟨_,rfl,by decide,ff ha (by decide) ⟨_,rfl,by decide,by decide,by decide,ff ha (by decide) ⟨_,_,_,_,rfl,by omega,by omega,by omega,by omega,by omega,fun l1 ws H1 hl1 S1 hH1 hw1 hd1 hm1=>?_⟩⟩⟩
   refine ff (S1.seq ha) (by decide) ⟨_,_,_,_,rfl,by omega,by omega,by omega,by omega,by omega,fun l2 ts H2 hl2 S2 hH2 hw2 hd2 hm2=>⟨by omega,fun p hp=>?_⟩⟩
   have S3:=(S1.trans S2)
   refine q p l1 l2 ws ts _ (S3.step (S3.free hp)) ac ?_ ?_ ⟨by omega,hd1,hm1⟩ ⟨by omega,hd2,hm2⟩
   · rw[ai (ak (S2 _ _ hH1) hp)];exact S2 _ _ hH1
   · rw[ai (ak hH2 hp)];exact hH2
end

section
variable {P:Program}{w:World}{K:PySem.W.Frag}{mg:Str→Option Value}{base:Heap}
def jM (H:Hp)(p:Addr)(b:Str×List Str):Prop:=∃ o,H p=some (.tup [.str b.1,.ref o])∧H o=some (.lst (b.2.map V.str))
def jt (H:Hp)(lb:Addr)(bs:List (Str×List Str)):Prop:=∃ ps:List Addr,H lb=some (.lst (ps.map V.ref))∧ps.length=bs.length∧∀ (i:Nat) p b,ps[i]?=some p→bs[i]?=some b→jM H p b
theorem af.bthAt {H H':Hp}{p:Addr}{b:Str×List Str}(S:af H H')(h:jM H p b):jM H' p b:=by
 obtain⟨o,h1,h2⟩:=h
 exact⟨o,S _ _ h1,S _ _ h2⟩
theorem af.bths {H H':Hp}{lb:Addr}{bs:List (Str×List Str)}(S:af H H')(h:jt H lb bs):jt H' lb bs:=by
 obtain⟨ps,h1,h2,h3⟩:=h
 exact⟨ps,S _ _ h1,h2,fun i p b hp hb=>af.bthAt S (h3 i p b hp hb)⟩
def Shw (z:Str):Prop:=z.length≤1000∧∀ c∈z.cps.toList,c < 1114112
theorem Nm.shw {z:Str}(h:Nm z):Shw z:=⟨by have:=h.hi;omega,fun c hc=>by have:=(h.all c hc).2;omega⟩
structure aP (ss:List Str)(bs:List (Str×List Str)):Prop where
 s1:1≤ss.length
 s12:ss.length≤12
 snd:ss.Nodup
 snm:∀ x∈ss,bp x=true
 snw:∀ x∈ss,Shw x
 b8:bs.length≤8
 bnd:(bs.map (·.1)).Nodup
 bnm:∀ b∈bs,bp b.1=true
 bnw:∀ b∈bs,Shw b.1
 bln:∀ b∈bs,b.2.length=ss.length
 bin:∀ b∈bs,∀ x∈b.2,x∈ss
theorem rh {ws:List Str}{n:Nat}(h:n≤ws.length):fV (ws.map V.str) none (some (n:Int))=(ws.take n).map V.str:=by
 unfold fV
 have e1:HT.sIx (ws.map V.str).length 0 none=0:=rfl
 have e2:HT.sIx (ws.map V.str).length (ws.map V.str).length (some (n:Int))=n:=by
   rw[List.length_map,HT.sIx_nat]
   omega
 rw[e1,e2,List.drop_zero,Nat.sub_zero,List.map_take]
theorem cr {L:List Str}{i:Nat}{x:Str}(h:L[i]?=some x):atI (L.map V.str) (i:Int)=some (V.str x):=eX (by rw[List.getElem?_map,h];rfl)
def pw (K:PySem.W.Frag):Sp:=fun vs H Q _=>∃ (a:Addr)(ns:List Int) (n c:Nat),vs=[.ref a,.int n,.int c]∧SqL K H a (ns.map V.int)∧1≤n∧n≤12∧c≤8 ∧
 ∀ p l lb (ss:List Str)(bs:List (Str×List Str)) (spare other:Str) H',af H H'→H' p=some (.tup [.ref l,.ref lb,.str spare,.str other])→H l=none→H' l=some (.lst (ss.map V.str))→H lb=none→jt H' lb bs→aP ss bs →
   ss.length=n→bs.length=c→Nm spare→spare∉ss→Nm other→other∉bs.map (·.1)→Q (.ref p) H'
abbrev uR:List Str:=["_law_cell", "_law_many", "_law_shape_here", "_law_mixed"]
abbrev sP:List Str:=["_law_pick", "_law_k"]
abbrev rK:List Str:=["_law_script", "_law_many", "_law_count"]
theorem d3:ap ["_law_script", "_law_many", "_law_count", "_law_mixed", "_law_shades", "_law_titles", "_law_baths", "_law_k", "_law_cell", "_law_outs_here"] ["_law_script", "_law_many", "_law_count"] (ae gN):=⟨rfl,rfl,rfl,by decide +kernel,rfl,by decide +kernel,by decide +kernel⟩
theorem ja {ws:List Str}{n:Nat}{x:Str}(hd:ws.Nodup)(hx:ws[n]?=some x):x∉ws.take n:=fun hm=>by
 rw[←List.take_append_drop n ws] at hd
 have hx2:x∈ws.drop n:=List.mem_of_getElem? (i:=0) (by rw[List.getElem?_drop];exact hx)
 exact(List.nodup_append.mp hd).2.2 x hm x hx2 rfl
def hide (H:Hp)(p:Addr):Hp:=fun b=>if b=p then none else H b
theorem af.hide {H H2:Hp}{p:Addr}(S:af H H2):af (hide H p) (DM.hide H2 p):=fun b o e=>by
 unfold DM.hide at e ⊢
 by_cases h:b=p
 · rw[if_pos h] at e;cases e
 · rw[if_neg h] at e ⊢;exact S b o e
theorem dS {H:Hp}{p:Addr}{o:HO}:hide (upd H p o) p=hide H p:=by
 funext b
 unfold hide upd
 by_cases h:b=p
 · rw[if_pos h,if_pos h]
 · rw[if_neg h,if_neg h,if_neg h]
theorem cw {H:Hp}{p:Addr}:af (hide H p) H:=fun b o e=>by
 unfold hide at e
 by_cases h:b=p
 · rw[if_pos h] at e;cases e
 · rw[if_neg h] at e;exact e
theorem bq {H:Hp}{p q:Addr}(h:q≠p):hide H p q=H q:=by unfold hide;rw[if_neg h]
theorem gq {K:PySem.W.Frag}{H:Hp}{a:Addr}{x y:V}{i j:Nat}{σ:St}{Q:St→Hp→Prop}(h:H a=some (.tup [x,y]))(q:Q ((σ.set i (some x)).set j (some y)) H):qa K 2 (dw (cO i) (dw (cO j) nE)) (.ref a) σ H Q :=
 ⟨a,[x,y],rfl,SqT.of h,rfl,x,[y],rfl,y,[],rfl,rfl,q⟩
theorem vT {K:PySem.W.Frag}{H:Hp}{a:Addr}{x y z u:V}{i j k l:Nat}{σ:St}{Q:St→Hp→Prop}(h:H a=some (.tup [x,y,z,u]))(q:Q ((((σ.set i (some x)).set j (some y)).set k (some z)).set l (some u)) H):qa K 4 (dw (cO i) (dw (cO j) (dw (cO k) (dw (cO l) nE)))) (.ref a) σ H Q :=
 ⟨a,[x,y,z,u],rfl,SqT.of h,rfl,x,[y,z,u],rfl,y,[z,u],rfl,z,[u],rfl,u,[],rfl,rfl,q⟩
def gF (ws:List Str) (x:Int):Str:=ws.getD x.toNat ⟨#[]⟩
theorem my {ws:List Str}{x:Int}(h0:0≤x)(h1:x.toNat < ws.length):atI (ws.map V.str) x=some (V.str (gF ws x)):=by
 have e:ws[x.toNat]?=some (gF ws x):=by
   unfold gF
   rw[List.getD_eq_getElem?_getD,List.getElem?_eq_getElem h1]
   rfl
 have:=cr e
 rwa [Int.toNat_of_nonneg h0] at this
theorem mo {ws:List Str}{x:Int}{n:Nat}(h0:0≤x)(h1:x < n)(hn:n≤ws.length):gF ws x∈ws.take n:=by
 have hl:x.toNat < ws.length:=by omega
 refine List.mem_of_getElem? (i:=x.toNat) ?_
 rw[List.getElem?_take,if_pos (by omega)]
 unfold gF
 rw[List.getD_eq_getElem?_getD,List.getElem?_eq_getElem hl]
 rfl
theorem rP {f fA fN fS fO:Addr}{fd fdA fdN fdS fdO:FuncData}(F:Fun K "_law_sized" "_law_sized" gN f fd)(T:Txt mg)(GA:ao P w K mg base CX0 1 fA fdA pAt (sx K))(kA:PySem.W.keepIn K (.ref fA)=true)(bA:ay K fdA pAt [])(mA:mg "_law_at"=some (.ref fA))
   (GN:ao P w K mg base CX0 3 fN fdN rK (ph K))(kN:PySem.W.keepIn K (.ref fN)=true)(bN:ay K fdN rK [])(mN:mg "_law_named"=some (.ref fN))
   (GS:ao P w K mg base CX0 1 fS fdS sP oX)(kS:PySem.W.keepIn K (.ref fS)=true)(bS:ay K fdS sP [])(mS:mg "_law_shape"=some (.ref fS))
   (GO:ao P w K mg base CX0 2 fO fdO uR qT)(kO:PySem.W.keepIn K (.ref fO)=true)(bO:ay K fdO uR [])(mO:mg "_law_outs"=some (.ref fO)) :
   ao P w K mg base CX0 4 f fd ["_law_script", "_law_many", "_law_count"] (pw K):=by
 refine F.ok d3 (fun vs H Q E h=>?_) (fun cdv A outer s H vs Q E hr h=>?_)
 · obtain⟨_,_,_,_,rfl,_⟩:=h
   rfl
 · obtain⟨a,ns,n,c,rfl,ha,hn1,hn,hc,q⟩:=h
   have hr1:=hr.mono (j:=1) (by omega)
   have hr2:=hr.mono (j:=2) (by omega)
   refine⟨_,al (aC (i:=3) d3.nd rfl (Or.inl rfl) (aw bi (ar GA hr1 rfl mA kA bA .nil aJ (aa (pv 0) (aa ah ad))) ah))
     (aj (lU (ar GN hr rfl mN kN bN .nil aJ (aa (pv 0) (aa (pv 1) (aa (pv 2) ad)))) (d7 rfl (aX (au (i:=4) d3.nd rfl (Or.inr rfl)) (aX (au (i:=5) d3.nd rfl (Or.inl rfl)) dh))))
     (al (aC (i:=6) d3.nd rfl (Or.inl rfl) (bx ad))
     (al (bz PassesOwn.never rfl (cj rfl T.range (aa (pv 2) ad)) (au (i:=7) d3.nd rfl (Or.inl rfl))
       (al (aC (i:=8) d3.nd rfl (Or.inl rfl) (aw bJ (ar GA hr1 rfl mA kA bA .nil aJ (aa (pv 0) (aa (aw bJ ah (pv 7)) ad))) (aw gk (aw gk ah (pv 7)) (pv 3))))
       (aj (aC (i:=9) d3.nd rfl (Or.inl rfl) (ar GO hr2 rfl mO kO bO .nil aJ (aa (pv 8) (aa (pv 1) (aa (ar GS hr1 rfl mS kS bS .nil aJ (aa (ar GA hr1 rfl mA kA bA .nil aJ (aa (pv 0) (aa ah ad))) (aa (pv 7) ad))) (aa (pv 3) ad))))))
       (ag (aO (dm PySem.F.plainAttrs_list PySem.F.slot_list_append PySem.F.type_list_append ca (pv 6) (aa (du (aa (aM aG (pv 5) (pv 7) (fun _ _=>rfl)) (aa (df (N':=["_law_j", "_law_shades"]) (pk:=[none,some 4]) rfl (cg.of (by rfl)) (a9 (pv 9)) (fun s H ex=>au (i:=0) (by show(["_law_j", "_law_shades"]:List Str).Nodup;decide +kernel) rfl (Or.inl rfl))
         (fun s H ex=>aM (aG:IxR _ (ot K)) (pv 1) (pv 0) (fun _ _=>rfl))) ad))) ad)))))))
     (ag (ax (du (aa (dj gH (pv 4) eI (dB (pv 1))) (aa (pv 6) (aa (aM aG (pv 4) (pv 1) (fun _ _=>rfl)) (aa (aM aG (pv 5) (pv 2) (fun _ _=>rfl)) ad)))))))))),?_⟩
   have hs:=aQ
   walk_at "dm"
   refine ff ha (by decide) ⟨_,rfl,by decide,?_⟩
   generalize hmx:atL ns 3 % 2=mixed
   have hmix:mixed=0∨mixed=1:=by omega
   refine cut (fun σ' H'=>∃ l1 l2 ws ts,σ'=[some (.ref a),some (.int n),some (.int c),some (.int mixed),some (.ref l1),some (.ref l2),none,none,none,none]∧af H H'∧H' l1=some (.lst (ws.map V.str))∧H' l2=some (.lst (ts.map V.str))∧NmL ws (n+1)∧NmL ts (c+1)) ?_ ?_
   · walk_at "dm"
     refine⟨a,ns,n,c,rfl,ha,hn,by omega,fun p l1 l2 ws ts H' S hp h1 h2 w1 w2=>?_⟩
     refine gq hp ?_
     exact⟨l1,l2,rfl,S,ws,h1,ts,h2,w1,w2⟩
   rintro σ1 H1 ⟨l1,l2,ws,ts,rfl,S1,hH1,hH2,hws,hts⟩
   walk_at "dm"
   refine⟨by omega,fun p hp=>⟨by omega,by omega,?_⟩⟩
   have hb:∀ i,i < n→∃ x,(ws.take n)[i]?=some x∧ws[i]?=some x:=fun i hi=>by
     have hl:i < ws.length:=by rw[hws.len];omega
     refine⟨ws[i],?_,List.getElem?_eq_getElem hl⟩
     rw[List.getElem?_take,if_pos hi];exact List.getElem?_eq_getElem hl
   refine aU (H0:=H1) bu (fun i σ' H'=>∃ (ps:List Addr)(bs:List (Str×List Str))(o7 o8 o9:Option V),σ'=[some (.ref a),some (.int n),some (.int c),some (.int mixed),some (.ref l1),some (.ref l2),some (.ref p),o7,o8,o9]∧af H1 H'∧H' p=some (.lst (ps.map V.ref)) ∧
     ps.length=i∧bs.length=i∧(∀ (j:Nat) r b,ps[j]?=some r→bs[j]?=some b→jM (hide H' p) r b)∧bs.map (·.1)=ts.take i∧∀ b∈bs,b.2.length=n∧∀ x∈b.2,x∈ws.take n)
     ⟨[],[],none,none,none,rfl,af.updN hp,ac,rfl,rfl,(by intro j r b h;simp at h),rfl,(by intro b h;cases h)⟩ (fun _ _ _ _ ⟨_,_,_,_,_,_,h,_⟩=>h) ?_ ?_
   · rintro i x σ H' hi rfl ⟨ps,bs,o7,o8,o9,rfl,hS,hH,hpl,hbl,hB,hT,hO⟩
     have ei:(0:Int)+(i:Int)=i:=by omega
     rw[ei]
     have hi9:i < c:=by omega
     have hm9:(1009:Int)*i*mixed < 2 ^ 62:=by rcases hmix with e | e<;>(rw[e];omega)
     walk_at "dm"
     refine ff ((S1.trans hS).seq ha) (by omega) ⟨.inl ⟨by omega,by omega⟩,.inl ⟨by omega,by omega⟩,_,rfl,?_⟩
     refine cut (fun σ' H''=>∃ lo os v8,σ'=[some (.ref a),some (.int n),some (.int c),some (.int mixed),some (.ref l1),some (.ref l2),some (.ref p),some (.int i),v8,some (.ref lo)]∧af H' H''∧H'' lo=some (.lst (os.map V.int))∧inR n os) ?_ ?_
     · walk_at "dm"
       refine ff ((S1.trans hS).seq ha) (by omega) ⟨_,_,rfl,fun r H2 S2=>⟨_,_,_,_,rfl,hn1,hn,hmix,fun lo os H3 hlo S3 hH3 hos=>⟨lo,rfl,S2.trans S3,os,hH3,hos⟩⟩⟩
     rintro σ2 H2 ⟨lo,os,v8,rfl,S2,hlo,hos⟩
     have hH1':H2 l1=some (.lst (ws.map V.str)):=S2 _ _ (hS _ _ hH1)
     have hH2':H2 l2=some (.lst (ts.map V.str)):=S2 _ _ (hS _ _ hH2)
     have hp2:H2 p=some (.lst (ps.map V.ref)):=S2 _ _ hH
     obtain⟨tt,htt⟩:∃ tt,ts[i]?=some tt:=⟨_,List.getElem?_eq_getElem (by rw[hts.len];omega)⟩
     walk_at "dm"
     refine⟨.inl ⟨rfl,_,SqL.of hp2⟩,_,SqL.of hH2',_,cr htt,⟨_,SqL.of hlo⟩,fun D hD=>?_⟩
     have hDp:D≠p:=fun e=>by rw[e,hp2] at hD;cases hD
     refine cq (az (SqL.of hlo)) (by rw[List.length_map,hos.1];omega) hD (fun σ=>∃ o,σ=[o,some (.ref l1)]) (fun k=>V.str (gF ws (os.getD k 0))) ⟨none,rfl⟩ ?_ ?_
     · rintro k x σ' H3 hk hx ⟨o,rfl⟩ hS3 R hR
       rw[List.getElem?_map] at hx
       obtain⟨y,hy,rfl⟩:=Option.map_eq_some_iff.mp hx
       have hyr:=hos.2 y (List.mem_of_getElem? hy)
       walk_at "dm"
       refine⟨_,hS3.seq (SqL.of hH1'),_,my hyr.1 (by rw[hws.len];omega),?_⟩
       have e:os.getD k 0=y:=by rw[List.getD_eq_getElem?_getD,hy];rfl
       have:=hR [some (V.int y),some (V.ref l1)] ⟨_,rfl⟩
       rw[e] at this
       exact this
     · have e:(List.range (os.map V.int).length).map (fun k=>V.str (gF ws (os.getD k 0)))=(os.map (gF ws)).map V.str:=by
         rw[List.map_map]
         refine dF _ os _ _ (by rw[List.length_map]) fun k x hx=>?_
         rw[List.getD_eq_getElem?_getD,hx]
         rfl
       rw[e]
       refine⟨by omega,fun t ht=>?_⟩
       have ht2:H2 t=none:=(af.updN hD).free ht
       have htp:t≠p:=fun e=>by rw[e,hp2] at ht2;cases ht2
       have htD:D≠t:=fun e=>by rw[←e,ac] at ht;cases ht
       have S3:af H2 (upd (upd H2 D (.lst ((os.map (gF ws)).map V.str))) t (.tup [.str tt,.ref D])):=(af.updN hD).step ht2
       refine⟨_,S3 _ _ hp2,by rw[List.length_map];omega,⟨_,rfl⟩,((hS.trans S2).trans S3).step hp,ps++[t],?_,?_,bs++[(tt,os.map (gF ws))],?_,?_,?_,?_⟩
       · rw[ac,List.map_append];rfl
       · rw[List.length_append,hpl];rfl
       · rw[List.length_append,hbl];rfl
       · intro j r b hr hb
         rw[dS]
         by_cases hj:j < i
         · rw[List.getElem?_append_left (by omega)] at hr hb
           exact af.bthAt (af.hide (S2.trans S3)) (hB j r b hr hb)
         · have hj2:j=i:=by
             have:=(List.getElem?_eq_some_iff.mp hr).1
             rw[List.length_append,hpl] at this
             simp only[List.length_singleton] at this
             omega
           subst hj2
           rw[List.getElem?_append_right (by omega),hpl,Nat.sub_self] at hr
           rw[List.getElem?_append_right (by omega),hbl,Nat.sub_self] at hb
           cases hr
           cases hb
           refine⟨D,?_,?_⟩
           · rw[bq htp];exact ac
           · rw[bq hDp,ai htD];exact ac
       · rw[List.map_append,hT,List.take_add_one,htt];rfl
       · intro b hb
         rcases List.mem_append.mp hb with hb | hb
         · exact hO b hb
         · rw[List.mem_singleton.mp hb]
           refine⟨by rw[List.length_map];exact hos.1,fun x hx=>?_⟩
           obtain⟨y,hy,rfl⟩:=List.mem_map.mp hx
           exact mo (hos.2 y hy).1 (hos.2 y hy).2 (by rw[hws.len];omega)
   · rintro σ H' ⟨ps,bs,o7,o8,o9,rfl,hS,hH,hpl,hbl,hB,hT,hO⟩
     have en:((c:Int)).toNat=c:=by omega
     rw[en] at hpl hbl hT
     walk_at "dm"
     obtain⟨spare,hsp⟩:∃ x,ws[n]?=some x:=⟨_,List.getElem?_eq_getElem (by rw[hws.len];omega)⟩
     obtain⟨other,hot⟩:∃ x,ts[c]?=some x:=⟨_,List.getElem?_eq_getElem (by rw[hts.len];omega)⟩
     refine⟨_,SqL.of (hS _ _ hH1),fun l hl=>?_⟩
     rw[rh (by rw[hws.len];omega)]
     have Sl:af H' (upd H' l (.lst ((ws.take n).map V.str))):=af.updN hl
     refine⟨_,SqL.of (Sl _ _ (hS _ _ hH1)),_,cr hsp,_,SqL.of (Sl _ _ (hS _ _ hH2)),_,cr hot,by omega,fun t ht=>?_⟩
     have St:=Sl.step (o:=.tup [.ref l,.ref p,.str spare,.str other]) (Sl.free ht)
     have hlt:l≠t:=fun e=>by rw[←e,ac] at ht;cases ht
     have htn:(ts.take c).Nodup:=hts.nd.sublist (List.take_sublist _ _)
     refine q t l p (ws.take n) bs spare other _ ((S1.trans hS).trans St) ac ((S1.trans hS).free hl) (by rw[ai hlt];exact ac) (S1.free hp) ⟨ps,St _ _ hH,by omega,fun j r b hr hb=>af.bthAt (cw.trans St) (hB j r b hr hb)⟩ ⟨?_,?_,?_,?_,?_,?_,?_,?_,?_,?_,?_⟩ ?_ hbl ?_ ?_ ?_ ?_
     · rw[List.length_take,hws.len];omega
     · rw[List.length_take,hws.len];omega
     · exact hws.nd.sublist (List.take_sublist _ _)
     · exact fun x hx=>(hws.nm x (List.mem_of_mem_take hx)).good
     · exact fun x hx=>(hws.nm x (List.mem_of_mem_take hx)).shw
     · omega
     · rw[hT];exact htn
     · intro b hb
       exact(hts.nm b.1 (List.mem_of_mem_take (by rw[←hT];exact List.mem_map_of_mem hb))).good
     · intro b hb
       exact(hts.nm b.1 (List.mem_of_mem_take (by rw[←hT];exact List.mem_map_of_mem hb))).shw
     · intro b hb
       rw[(hO b hb).1,List.length_take,hws.len];omega
     · exact fun b hb=>(hO b hb).2
     · rw[List.length_take,hws.len];omega
     · exact hws.nm _ (List.mem_of_getElem? hsp)
     · exact ja hws.nd hsp
     · exact hts.nm _ (List.mem_of_getElem? hot)
     · rw[hT];exact ja hts.nd hot
end

section
variable {P:Program}{w:World}{K:PySem.W.Frag}{mg:Str→Option Value}{base:Heap}
theorem fk (k:Str)(ks:List Str) (v:V)(vs:List V):b6 (k::ks) (v::vs)=(Sum.inr k,v)::b6 ks vs:=rfl
theorem cx:∀ (ks:List Str)(vs:List V) (i:Nat) (k:Str) (v:V),ks.Nodup→ks[i]?=some k→vs[i]?=some v→b7 (b6 ks vs) (Sum.inr k)=some v
 | [],_,_,_,_,_,h,_=>by simp at h
 | _::_,[],_,_,_,_,_,h=>by simp at h
 | k0::ks,v0::vs,0,k,v,hd,h1,h2=>by
   cases h1
   cases h2
   rw[fk]
   exact dq rfl
 | k0::ks,v0::vs,i+1,k,v,hd,h1,h2=>by
   have h1':ks[i]?=some k:=h1
   have h2':vs[i]?=some v:=h2
   have hm:k∈ks:=List.mem_of_getElem? h1'
   have hne:k0≠k:=fun e=>(List.nodup_cons.mp hd).1 (by rw[e];exact hm)
   rw[fk,cQ (fun e=>hne (Sum.inr.inj e))]
   exact cx ks vs i k v (List.nodup_cons.mp hd).2 h1' h2'
theorem bX:∀ (ks:List Str)(vs:List V) (k:Str),k∉ks→b7 (b6 ks vs) (Sum.inr k)=none
 | [],_,_,_=>rfl
 | _::_,[],_,_=>rfl
 | k0::ks,v0::vs,k,h=>by
   rw[fk,cQ (fun e=>h (by rw[←Sum.inr.inj e];exact List.mem_cons_self))]
   exact bX ks vs k (fun hm=>h (List.mem_cons_of_mem _ hm))
theorem fu {ks:List Str}{vs:List V} (k:Str) (v:V)(h:ks.length=vs.length):b6 (ks++[k]) (vs++[v])=b6 ks vs++[(Sum.inr k,v)]:=by
 unfold b6
 rw[List.map_append,List.zip_append (by rw[List.length_map];exact h)]
 rfl
theorem jE {ks:List Str}{vs:List V}(h:ks.length=vs.length):(b6 ks vs).length=ks.length:=by
 unfold b6
 rw[List.length_zip,List.length_map,h];simp
theorem kf {ks:List Str}{vs:List V}(h:ks.length=vs.length):(b6 ks vs).map (·.1)=ks.map Sum.inr:=by
 unfold b6
 rw[List.map_fst_zip (by rw[List.length_map];omega)]
def i8 (ss:List Str)(b:Str×List Str):List (Key×V):=b6 ss (b.2.map V.str)
def gx (H:Hp)(d:Addr)(ss:List Str)(bs:List (Str×List Str)):Prop :=
 ∃ ds:List Addr,Rd H d (.dK (b6 (bs.map (·.1)) (ds.map V.ref)))∧ds.length=bs.length∧∀ (i:Nat) r b,ds[i]?=some r→bs[i]?=some b→Rd H r (.dK (i8 ss b))
theorem af.rd {H H':Hp}{a:Addr}{o:HO}(S:af H H')(h:Rd H a o):Rd H' a o:=by
 rcases h with h | ⟨u,h⟩
 · exact .inl (S _ _ h)
 · exact .inr ⟨u,S _ _ h⟩
theorem af.tabs {H H':Hp}{d:Addr}{ss:List Str}{bs:List (Str×List Str)}(S:af H H')(h:gx H d ss bs):gx H' d ss bs:=by
 obtain⟨ds,h1,h2,h3⟩:=h
 exact⟨ds,af.rd S h1,h2,fun i r b hr hb=>af.rd S (h3 i r b hr hb)⟩
theorem bM {α:Type}{l:List α}{i:Nat}{x:α}(h:l[i]?=some x):l.take (i+1)=l.take i++[x]:=by rw[List.take_add_one,h];rfl
theorem gy {l:List Str}{i:Nat}{x:Str}(hd:l.Nodup)(h:l[i]?=some x):x∉l.take i:=ja hd h
def ni (K:PySem.W.Frag):Sp:=fun vs H Q _=>∃ (l lb:Addr)(ss:List Str)(bs:List (Str×List Str)),vs=[.ref l,.ref lb]∧SqL K H l (ss.map V.str)∧jt H lb bs∧aP ss bs ∧
 ∀ d H',H d=none→af H H'→gx H' d ss bs→Q (.ref d) H'
theorem e7:ap ["_law_shades", "_law_baths", "_law_tables_here", "_law_title", "_law_outs_here", "_law_k"] ["_law_shades", "_law_baths"] (ae eG):=⟨rfl,rfl,rfl,by decide +kernel,rfl,by decide +kernel,by decide +kernel⟩
theorem pF {f:Addr}{fd:FuncData}(F:Fun K "_law_tables" "_law_tables" eG f fd)(T:Txt mg):ao P w K mg base CX0 1 f fd ["_law_shades", "_law_baths"] (ni K):=by
 refine F.ok e7 (fun vs H Q E h=>?_) (fun cdv A outer s H vs Q E hr h=>?_)
 · obtain⟨_,_,_,_,rfl,_⟩:=h
   rfl
 · obtain⟨l,lb,ss,bs,rfl,hl,hb,B,q⟩:=h
   have hu:(cu CX0 P w K mg base ["_law_shades", "_law_baths", "_law_tables_here", "_law_title", "_law_outs_here", "_law_k"] "_law_tables" (ae eG) f cdv A outer s H E).A.units+1 < cLine:=by
     have:=hr.units
     exact Nat.lt_of_le_of_lt (Nat.add_le_add_left (by decide) _) this
   refine⟨_,al (aC (i:=2) e7.nd rfl (Or.inl rfl) fb)
     (al (bz PassesOwn.never rfl (a9 (pv 1)) (d7 (n:=2) rfl (aX (au (i:=3) e7.nd rfl (Or.inl rfl)) (aX (au (i:=4) e7.nd rfl (Or.inl rfl)) dh)))
       (aj (gw hu (pv 2) (pv 3) fb rfl)
       (ag (bz PassesOwn.never rfl (cj rfl T.range (aa (av aE (by rfl) T.len PySem.boot_len (aa (pv 0) ad)) ad)) (au (i:=5) e7.nd rfl (Or.inl rfl))
         (ag (gw hu (cp hu (pv 2) (pv 3) (fun _ _=>rfl)) (aM aG (pv 0) (pv 5) (fun _ _=>rfl)) (aM aG (pv 4) (pv 5) (fun _ _=>rfl)) rfl))))))
     (ag (ax (pv 2)))),?_⟩
   have hs:=aQ
   walk_at "dm"
   intro d hd
   obtain⟨ps,hlb,hpl,hB⟩:=hb
   have hb8:=B.b8
   have S0:af H (upd H d (.dK [])):=af.updN hd
   refine⟨⟨_,SqL.of (S0 _ _ hlb)⟩,?_⟩
   refine aU (H0:=H) (az (SqL.of hlb)) (fun i σ' H'=>∃ (ds:List Addr)(o3 o4 o5:Option V),σ'=[some (.ref l),some (.ref lb),some (.ref d),o3,o4,o5]∧af H H'∧H' d=some (.dK (b6 ((bs.map (·.1)).take i) (ds.map V.ref))) ∧
     ds.length=i∧∀ (j:Nat) r b,ds[j]?=some r→bs[j]?=some b→hide H' d r=some (.dK (i8 ss b)))
     ⟨[],none,none,none,rfl,S0,ac,rfl,(by intro j r b h;simp at h)⟩ (fun _ _ _ _ ⟨_,_,_,_,_,h,_⟩=>h) ?_ ?_
   · rintro i x σ H' hi hx ⟨ds,o3,o4,o5,rfl,hS,hH,hdl,hD⟩
     rw[List.getElem?_map] at hx
     obtain⟨pr,hpr,rfl⟩:=Option.map_eq_some_iff.mp hx
     rw[List.length_map,hpl] at hi
     obtain⟨b,hb⟩:∃ b,bs[i]?=some b:=⟨_,List.getElem?_eq_getElem hi⟩
     obtain⟨lo,ht,hlo⟩:=hB i pr b hpr hb
     have hbm:b∈bs:=List.mem_of_getElem? hb
     have hk:(bs.map (·.1))[i]?=some b.1:=by rw[List.getElem?_map,hb];rfl
     have hnk:b.1∉(bs.map (·.1)).take i:=gy B.bnd hk
     have hln:((bs.map (·.1)).take i).length=(ds.map V.ref).length:=by rw[List.length_take,List.length_map,List.length_map,hdl];omega
     refine gq (hS _ _ ht) ?_
     walk_at "dm"
     refine cut (fun σ' H''=>∃ r,σ'=[some (.ref l),some (.ref lb),some (.ref d),some (.str b.1),some (.ref lo),o5]∧H' r=none∧r≠d∧H''=upd (upd H' r (.dK [])) d (.dK (b6 ((bs.map (·.1)).take (i+1)) ((ds++[r]).map V.ref)))) ?_ ?_
     · walk_at "dm"
       intro r hr
       have hrd:r≠d:=fun e=>by rw[e,hH] at hr;cases hr
       refine⟨_,.inl ⟨_,Sum.inr b.1,by rw[ai (Ne.symm hrd)];exact hH,rfl,by rw[jE hln,List.length_take];omega,rfl⟩,r,hr,hrd,?_⟩
       rw[ej _ (bX _ _ _ hnk),bM hk,List.map_append]
       exact congrArg (fun z=>upd (upd H' r (HO.dK [])) d (HO.dK z)) (fu b.1 (V.ref r) hln).symm
     rintro σ2 H2 ⟨r,rfl,hr,hrd,rfl⟩
     have hrH:H r=none:=hS.free hr
     generalize hG:(upd (upd H' r (.dK [])) d (.dK (b6 ((bs.map (·.1)).take (i+1)) ((ds++[r]).map V.ref))))=G
     have hGr:G r=some (.dK []):=by rw[←hG,ai hrd];exact ac
     have hGd:G d=some (.dK (b6 ((bs.map (·.1)).take (i+1)) ((ds++[r]).map V.ref))):=by rw[←hG];exact ac
     have SG:af H G:=by rw[←hG];exact(hS.step hrH).step hd
     have SG':af (hide H' d) (hide G d):=by rw[←hG,dS];exact af.hide (af.updN hr)
     have hval:b7 (b6 ((bs.map (·.1)).take (i+1)) ((ds++[r]).map V.ref)) (Sum.inr b.1)=some (V.ref r):=by
       refine cx _ _ i _ _ (B.bnd.sublist (List.take_sublist _ _)) ?_ ?_
       · rw[List.getElem?_take,if_pos (Nat.lt_succ_self i)];exact hk
       · rw[List.getElem?_map,List.getElem?_append_right (by omega),hdl,Nat.sub_self];rfl
     have hbl:b.2.length=ss.length:=B.bln b hbm
     have hs12:=B.s12
     walk_at "dm"
     refine⟨_,.inl (SG.seq hl),?_⟩
     rw[List.length_map]
     refine⟨by omega,by omega,?_⟩
     refine aU (H0:=H) bu (fun k σ' H''=>∃ o5,σ'=[some (.ref l),some (.ref lb),some (.ref d),some (.str b.1),some (.ref lo),o5]∧H''=upd G r (.dK (b6 (ss.take k) ((b.2.take k).map V.str))))
       ⟨o5,rfl,?_⟩ (fun _ _ _ _ ⟨_,_,e⟩=>by rw[e];exact SG.step hrH) ?_ ?_
     · funext y
       by_cases e:y=r
       · rw[e,ac];exact hGr
       · rw[ai e]
     · rintro k x σ H'' hk2 rfl ⟨o5,rfl,rfl⟩
       have ek:(0:Int)+(k:Int)=k:=by omega
       rw[ek]
       have hkn:k < ss.length:=by omega
       obtain⟨sk,hsk⟩:∃ y,ss[k]?=some y:=⟨_,List.getElem?_eq_getElem hkn⟩
       obtain⟨ok,hok⟩:∃ y,b.2[k]?=some y:=⟨_,List.getElem?_eq_getElem (by omega)⟩
       have S2:af H (upd G r (.dK (b6 (ss.take k) ((b.2.take k).map V.str)))):=SG.step hrH
       have hl2:(ss.take k).length=((b.2.take k).map V.str).length:=by rw[List.length_map,List.length_take,List.length_take];omega
       walk_at "dm"
       refine⟨_,SqL.of (S2 _ _ hlo),_,cr hok,V.ref r,.inl ⟨_,Sum.inr b.1,.inl (by rw[ai (Ne.symm hrd)];exact hGd),rfl,hval.symm⟩,_,S2.seq hl,_,cr hsk,r,rfl,_,.inl ⟨_,Sum.inr sk,ac,rfl,by rw[jE hl2,List.length_take];omega,rfl⟩,?_⟩
       rw[iR,ej _ (bX _ _ _ (gy B.snd hsk)),bM hsk,bM hok,List.map_append]
       exact congrArg (fun z=>upd G r (HO.dK z)) (fu sk (V.str ok) hl2).symm
     · rintro σ H'' ⟨o5,rfl,rfl⟩
       have e1:ss.take ((ss.length:Int)).toNat=ss:=by rw[Int.toNat_natCast,List.take_length]
       have e2:b.2.take ((ss.length:Int)).toNat=b.2:=by rw[Int.toNat_natCast,←hbl,List.take_length]
       rw[e1,e2]
       refine⟨⟨_,_,_,rfl⟩,SG.step hrH,ds++[r],by rw[ai (Ne.symm hrd)];exact hGd,by rw[List.length_append,hdl];rfl,fun j r2 b2 hr2 hb2=>?_⟩
       by_cases hj:j < i
       · rw[List.getElem?_append_left (by omega)] at hr2
         have h1:=SG' _ _ (hD j r2 b2 hr2 hb2)
         have h2:H' r2=some (.dK (i8 ss b2)):=cw _ _ (hD j r2 b2 hr2 hb2)
         have hne:r2≠r:=fun e=>by rw[e,hr] at h2;cases h2
         unfold hide at h1 ⊢
         by_cases e:r2=d
         · rw[if_pos e] at h1;cases h1
         · rw[if_neg e] at h1 ⊢;rw[ai hne];exact h1
       · have hj2:j=i:=by
           have:=(List.getElem?_eq_some_iff.mp hr2).1
           rw[List.length_append,hdl] at this
           simp only[List.length_singleton] at this
           omega
         subst hj2
         rw[List.getElem?_append_right (by omega),hdl,Nat.sub_self] at hr2
         cases hr2
         rw[hb] at hb2
         cases hb2
         rw[bq hrd,ac]
         rfl
   · rintro σ H' ⟨ds,o3,o4,o5,rfl,hS,hH,hdl,hD⟩
     rw[List.length_map,hpl] at hH hdl
     walk_at "dm"
     refine q d H' hd hS ⟨ds,.inl ?_,hdl,fun j r b hr hb=>.inl (cw _ _ (hD j r b hr hb))⟩
     rw[hH,List.take_of_length_le (by rw[List.length_map];exact Nat.le_refl _)]
end

section
variable {P:Program}{w:World}{K:PySem.W.Frag}{mg:Str→Option Value}{base:Heap}
structure vm (mg:Str→Option Value):Prop where
 mostS:∃ t,mg "MOST_SHADES"=some (.int 12 t)
 mostB:∃ t,mg "MOST_BATHS"=some (.int 8 t)
theorem oH:∀ (l acc:List Str),(acc++l).Nodup→l.foldl iA acc=acc++l
 | [],acc,_=>by simp
 | x::l,acc,h=>by
   have hx:x∉acc:=fun hm=>(List.nodup_append.mp h).2.2 x hm x List.mem_cons_self rfl
   have e:iA acc x=acc++[x]:=by unfold iA;rw[if_neg hx]
   rw[List.foldl_cons,e,oH l (acc++[x]) (by rw[List.append_assoc];exact h),List.append_assoc]
   rfl
theorem ur {l:List Str}(h:l.Nodup):dZ l=l:=by unfold dZ;rw[oH l [] h];rfl
theorem i5 {z:Str}(h:bp z=true):z.length≤8:=by
 unfold bp at h
 rw[Bool.and_eq_true,Bool.and_eq_true] at h
 exact of_decide_eq_true h.1.2
def jA (K:PySem.W.Frag):Sp:=fun vs H Q _=>∃ (l:Addr)(ws:List Str),vs=[.ref l]∧SqL K H l (ws.map V.str)∧ws.length≤100∧ws.Nodup∧(∀ x∈ws,bp x=true)∧∀ H',af H H'→Q .non H'
theorem mw:ap ["texts", "text"] ["texts"] (ae fj):=⟨rfl,rfl,rfl,by decide +kernel,rfl,by decide +kernel,by decide +kernel⟩
theorem qp {f fG:Addr}{fd fdG:FuncData}(F:Fun K "check_names" "check_names" fj f fd)(T:Txt mg)(GG:ao P w K mg base CX0 1 fG fdG ["text"] om)(kG:PySem.W.keepIn K (.ref fG)=true)(bG:ay K fdG ["text"] [])(mG:mg "good_name"=some (.ref fG)) :
   ao P w K mg base CX0 2 f fd ["texts"] (jA K):=by
 refine F.ok mw (fun vs H Q E h=>?_) (fun cdv A outer s H vs Q E hr h=>?_)
 · obtain⟨_,_,rfl,_⟩:=h
   rfl
 · obtain⟨l,ws,rfl,hl,hlen,hnd,hnm,q⟩:=h
   refine⟨_,al (bz PassesOwn.never rfl (a9 (pv 0)) (au (i:=1) mw.nd rfl (Or.inl rfl))
       (ag (aZ (dv (dr (ar GG hr rfl mG kG bG .nil aJ (aa (pv 1) ad)))) bU aB)))
     (ag (aZ (aF rO (av qo (by rfl) T.len PySem.boot_len (aa (bg (rz rfl) (by rfl) T.set (by decide +kernel) (aa (pv 0) ad)) ad)) (av aE (by rfl) T.len PySem.boot_len (aa (pv 0) ad)) (aK _)) bU aB)),?_⟩
   have hs:=aQ
   walk_at "dm"
   refine⟨⟨_,hl⟩,?_⟩
   refine aU (H0:=H) (az hl) (fun i σ' H'=>∃ o,σ'=[some (.ref l),o]∧af H H') ⟨none,rfl,af.refl H⟩ (fun _ _ _ _ ⟨_,_,h⟩=>h) ?_ ?_
   · rintro i x σ H' hi hx ⟨o,rfl,hS⟩
     rw[List.getElem?_map] at hx
     obtain⟨z,hz,rfl⟩:=Option.map_eq_some_iff.mp hx
     have hzm:=hnm z (List.mem_of_getElem? hz)
     have h8:=i5 hzm
     walk_at "dm"
     refine⟨z,rfl,by omega,fun H2 S2=>?_⟩
     rw[hzm]
     exact⟨_,rfl,hS.trans S2⟩
   · rintro σ H' ⟨o,rfl,hS⟩
     walk_at "dm"
     refine⟨_,hS.seq hl,by omega,fun p hp=>⟨_,ac,_,.inl ((hS.step (hS.free hp)).seq hl),rfl,?_⟩⟩
     rw[List.length_map,ur hnd]
     refine bn (fun h=>absurd rfl h) (fun _=>q _ (hS.step (hS.free hp)))
def k4 (K:PySem.W.Frag):Sp:=fun vs H Q _=>∃ (l:Addr)(ws:List Str),vs=[.ref l]∧SqL K H l (ws.map V.str)∧1≤ws.length∧ws.length≤12∧ws.Nodup∧(∀ x∈ws,bp x=true)∧∀ H',af H H'→Q .non H'
theorem pO:ap ["shades"] ["shades"] (ae er):=⟨rfl,rfl,rfl,by decide +kernel,rfl,by decide +kernel,by decide +kernel⟩
theorem nr {f fG:Addr}{fd fdG:FuncData}(F:Fun K "check_shades" "check_shades" er f fd)(T:Txt mg)(TB:vm mg)(GG:ao P w K mg base CX0 2 fG fdG ["texts"] (jA K))(kG:PySem.W.keepIn K (.ref fG)=true)(bG:ay K fdG ["texts"] [])(mG:mg "check_names"=some (.ref fG)) :
   ao P w K mg base CX0 3 f fd ["shades"] (k4 K):=by
 refine F.ok pO (fun vs H Q E h=>?_) (fun cdv A outer s H vs Q E hr h=>?_)
 · obtain⟨_,_,rfl,_⟩:=h
   rfl
 · obtain⟨l,ws,rfl,hl,hlen1,hlen,hnd,hnm,q⟩:=h
   obtain⟨tg,hms⟩:=TB.mostS
   refine⟨_,al (aZ (aF i0 (av aE (by rfl) T.len PySem.boot_len (aa (pv 0) ad)) ah (aK _)) bU aB)
     (al (aZ (aF js (av aE (by rfl) T.len PySem.boot_len (aa (pv 0) ad)) (cz (v:=.int 12) rfl hms ⟨_,rfl⟩) (aK _)) bU aB)
     (ag (aO (ar GG hr rfl mG kG bG .nil aJ (aa (pv 0) ad))))),?_⟩
   have hs:=aQ
   walk_at "dm"
   refine⟨_,.inl hl,?_⟩
   rw[List.length_map]
   refine bn (fun h=>absurd h (by omega)) (fun _=>⟨_,.inl hl,?_⟩)
   rw[List.length_map]
   refine bn (fun h=>absurd h (by omega)) (fun _=>⟨l,ws,rfl,hl,by omega,hnd,hnm,q⟩)
def oA (K:PySem.W.Frag):Sp:=fun vs H Q _=>∃ (l lo:Addr)(ss os:List Str),vs=[.ref l,.ref lo]∧SqL K H l (ss.map V.str)∧SqL K H lo (os.map V.str)∧os.length=ss.length∧ss.length≤100∧(∀ x∈os,x∈ss)∧∀ H',af H H'→Q .non H'
theorem oE:ap ["shades", "outs", "shade"] ["shades", "outs"] (ae hU):=⟨rfl,rfl,rfl,by decide +kernel,rfl,by decide +kernel,by decide +kernel⟩
theorem rB {f:Addr}{fd:FuncData}(F:Fun K "check_outs" "check_outs" hU f fd)(T:Txt mg) :
   ao P w K mg base CX0 1 f fd ["shades", "outs"] (oA K):=by
 refine F.ok oE (fun vs H Q E h=>?_) (fun cdv A outer s H vs Q E hr h=>?_)
 · obtain⟨_,_,_,_,rfl,_⟩:=h
   rfl
 · obtain⟨l,lo,ss,os,rfl,hl,hlo,hlen,hlen2,hin,q⟩:=h
   refine⟨_,al (aZ (aF rO (av aE (by rfl) T.len PySem.boot_len (aa (pv 1) ad)) (av aE (by rfl) T.len PySem.boot_len (aa (pv 0) ad)) (aK _)) bU aB)
     (ag (bz PassesOwn.never rfl (a9 (pv 1)) (au (i:=2) oE.nd rfl (Or.inl rfl))
       (ag (aZ (aF dD (pv 2) (pv 0) (by with_unfolding_all rfl)) bU aB)))),?_⟩
   have hs:=aQ
   walk_at "dm"
   refine⟨_,.inl hlo,_,.inl hl,rfl,?_⟩
   rw[List.length_map,List.length_map]
   refine bn (fun h=>absurd (by rw[hlen]) h) (fun _=>⟨⟨_,hlo⟩,?_⟩)
   refine aU (H0:=H) (az hlo) (fun i σ' H'=>∃ o,σ'=[some (.ref l),some (.ref lo),o]∧H'=H) ⟨none,rfl,rfl⟩ (fun _ _ _ _ ⟨_,_,h⟩=>by rw[h];exact af.refl _) ?_ ?_
   · rintro i x σ H' hi hx ⟨o,rfl,rfl⟩
     rw[List.getElem?_map] at hx
     obtain⟨z,hz,rfl⟩:=Option.map_eq_some_iff.mp hx
     walk_at "dm"
     refine⟨_,.inl hl,rfl,dH ss,?_⟩
     rw[eF,decide_eq_true (hin z (List.mem_of_getElem? hz))]
     exact⟨_,rfl⟩
   · rintro σ H' ⟨o,rfl,rfl⟩
     exact q _ (af.refl _)
def na (K:PySem.W.Frag):Sp:=fun vs H Q _=>∃ (l lb:Addr)(ss:List Str)(bs:List (Str×List Str)),vs=[.ref l,.ref lb]∧SqL K H l (ss.map V.str)∧jt H lb bs∧aP ss bs∧∀ H',af H H'→Q .non H'
theorem jw:ap ["shades", "baths", "name", "outs"] ["shades", "baths"] (ae fK):=⟨rfl,rfl,rfl,by decide +kernel,rfl,by decide +kernel,by decide +kernel⟩
theorem qq {f fG fO:Addr}{fd fdG fdO:FuncData}(F:Fun K "check_baths" "check_baths" fK f fd)(T:Txt mg)(TB:vm mg)(GG:ao P w K mg base CX0 2 fG fdG ["texts"] (jA K))(kG:PySem.W.keepIn K (.ref fG)=true)(bG:ay K fdG ["texts"] [])(mG:mg "check_names"=some (.ref fG))
   (GO:ao P w K mg base CX0 1 fO fdO ["shades", "outs"] (oA K))(kO:PySem.W.keepIn K (.ref fO)=true)(bO:ay K fdO ["shades", "outs"] [])(mO:mg "check_outs"=some (.ref fO)) :
   ao P w K mg base CX0 3 f fd ["shades", "baths"] (na K):=by
 refine F.ok jw (fun vs H Q E h=>?_) (fun cdv A outer s H vs Q E hr h=>?_)
 · obtain⟨_,_,_,_,rfl,_⟩:=h
   rfl
 · obtain⟨l,lb,ss,bs,rfl,hl,⟨ps,hlb,hpl,hB⟩,B,q⟩:=h
   obtain⟨tg,hms⟩:=TB.mostB
   have hr1:=hr.mono (j:=1) (by omega)
   refine⟨_,al (aZ (aF js (av aE (by rfl) T.len PySem.boot_len (aa (pv 1) ad)) (cz (v:=.int 8) rfl hms ⟨_,rfl⟩) (aK _)) bU aB)
     (aj (aO (ar GG hr rfl mG kG bG .nil aJ (aa (df (N':=["name", "outs"]) (pk:=[none,none]) rfl (cg.of (by rfl)) (a9 (pv 1)) (fun s H ex=>(d7 (n:=2) rfl (aX (au (i:=0) (by show(["name", "outs"]:List Str).Nodup;decide +kernel) rfl (Or.inl rfl)) (aX (au (i:=1) (by show(["name", "outs"]:List Str).Nodup;decide +kernel) rfl (Or.inl rfl)) dh)):PG _ _ (qa K 2 (dw (cO 0) (dw (cO 1) nE)))))
         (fun s H ex=>pv 0)) ad)))
     (ag (bz PassesOwn.never rfl (a9 (pv 1)) (d7 (n:=2) rfl (aX (au (i:=2) jw.nd rfl (Or.inl rfl)) (aX (au (i:=3) jw.nd rfl (Or.inl rfl)) dh)))
       (ag (aO (ar GO hr1 rfl mO kO bO .nil aJ (aa (pv 0) (aa (pv 3) ad)))))))),?_⟩
   have hs:=aQ
   walk_at "dm"
   have hb8:=B.b8
   have hs12:=B.s12
   refine⟨_,.inl (SqL.of hlb),?_⟩
   rw[List.length_map]
   refine bn (fun h=>absurd h (by omega)) (fun _=>?_)
   refine cut (fun σ' H'=>σ'=[some (.ref l),some (.ref lb),none,none]∧af H H') ?_ ?_
   · walk_at "dm"
     refine⟨⟨_,SqL.of hlb⟩,fun D hD=>?_⟩
     refine cq (az (SqL.of hlb)) (by rw[List.length_map];omega) hD (fun σ=>∃ o1 o2,σ=[o1,o2]) (fun k=>V.str (bs.getD k (⟨#[]⟩,[])).1) ⟨none,none,rfl⟩ ?_ ?_
     · rintro k x σ' H3 hk hx ⟨o1,o2,rfl⟩ hS3 R hR
       rw[List.getElem?_map] at hx
       obtain⟨y,hy,rfl⟩:=Option.map_eq_some_iff.mp hx
       obtain⟨b,hb⟩:∃ b,bs[k]?=some b:=⟨_,List.getElem?_eq_getElem (by rw[List.length_map] at hk;omega)⟩
       obtain⟨lo,ht,hlo⟩:=hB k y b hy hb
       refine gq (hS3 _ _ ht) ?_
       walk_at "dm"
       have e:(bs.getD k (⟨#[]⟩,[]))=b:=by rw[List.getD_eq_getElem?_getD,hb];rfl
       have:=hR [some (V.str b.1),some (V.ref lo)] ⟨_,_,rfl⟩
       rw[e] at this
       exact this
     · have e:(List.range (ps.map V.ref).length).map (fun k=>V.str (bs.getD k (⟨#[]⟩,[])).1)=(bs.map (·.1)).map V.str:=by
         rw[List.map_map]
         refine dF _ bs _ _ (by rw[List.length_map,hpl]) fun k x hx=>?_
         rw[List.getD_eq_getElem?_getD,hx]
         rfl
       rw[e]
       refine⟨D,bs.map (·.1),rfl,SqL.of ac,by rw[List.length_map];omega,B.bnd,fun x hx=>?_,fun H' S'=>(af.updN hD).trans S'⟩
       obtain⟨b,hb,rfl⟩:=List.mem_map.mp hx
       exact B.bnm b hb
   rintro σ1 H1 ⟨rfl,S1⟩
   walk_at "dm"
   refine⟨⟨_,SqL.of (S1 _ _ hlb)⟩,?_⟩
   refine aU (H0:=H) (az (SqL.of hlb)) (fun i σ' H'=>∃ o2 o3,σ'=[some (.ref l),some (.ref lb),o2,o3]∧af H H') ⟨none,none,rfl,S1⟩ (fun _ _ _ _ ⟨_,_,_,h⟩=>h) ?_ ?_
   · rintro i x σ H' hi hx ⟨o2,o3,rfl,hS⟩
     rw[List.getElem?_map] at hx
     obtain⟨y,hy,rfl⟩:=Option.map_eq_some_iff.mp hx
     obtain⟨b,hb⟩:∃ b,bs[i]?=some b:=⟨_,List.getElem?_eq_getElem (by rw[List.length_map] at hi;omega)⟩
     obtain⟨lo,ht,hlo⟩:=hB i y b hy hb
     have hbm:b∈bs:=List.mem_of_getElem? hb
     refine gq (hS _ _ ht) ?_
     walk_at "dm"
     exact⟨l,lo,ss,b.2,rfl,hS.seq hl,SqL.of (hS _ _ hlo),B.bln b hbm,by omega,B.bin b hbm,fun H2 S2=>hS.trans S2⟩
   · rintro σ H' ⟨o2,o3,rfl,hS⟩
     exact q _ hS
end

section
variable {P:Program}{w:World}{K:PySem.W.Frag}{mg:Str→Option Value}{base:Heap}
def br (H:Hp)(C x:Addr)(ss:List Str)(bs:List (Str×List Str)):Prop :=
 ∃ (dx t d:Addr)(so:List Str),H x=some (.ins C dx [("order",.ref t),("tables",.ref d)])∧H t=some (.tup (so.map V.str))∧so.Perm ss∧PyProof.Rows.sortedS so=true∧gx H d ss bs
theorem af.book {H H':Hp}{C x:Addr}{ss:List Str}{bs:List (Str×List Str)}(S:af H H')(h:br H C x ss bs):br H' C x ss bs:=by
 obtain⟨dx,t,d,so,h1,h2,h3,h4,h5⟩:=h
 exact⟨dx,t,d,so,S _ _ h1,S _ _ h2,h3,h4,af.tabs S h5⟩
theorem tS {H:Hp}{x C dx l:Addr}{fs:List (Str×V)}{xs:List V}(hx:H x=some (.ins C dx fs))(h:SqL K H l xs):SqL K (hide H x) l xs:=by
 rcases h with (h | ⟨o,h⟩) | h
 · exact .inl (.inl (by rw[bq (fun e=>by rw[e,hx] at h;cases h)];exact h))
 · exact .inl (.inr ⟨o,by rw[bq (fun e=>by rw[e,hx] at h;cases h)];exact h⟩)
 · exact .inr h
theorem p8 {H:Hp}{x C dx lb:Addr}{fs:List (Str×V)}{bs:List (Str×List Str)}(hx:H x=some (.ins C dx fs))(h:jt H lb bs):jt (hide H x) lb bs:=by
 obtain⟨ps,h1,h2,h3⟩:=h
 refine⟨ps,by rw[bq (fun e=>by rw[e,hx] at h1;cases h1)];exact h1,h2,fun i p b hp hb=>?_⟩
 obtain⟨o,e1,e2⟩:=h3 i p b hp hb
 exact⟨o,by rw[bq (fun e=>by rw[e,hx] at e1;cases e1)];exact e1,by rw[bq (fun e=>by rw[e,hx] at e2;cases e2)];exact e2⟩
theorem nU {u:V}:cF (Str.ofString "order") u []=[(Str.ofString "order",u)]:=rfl
theorem mi {u v:V}:cF (Str.ofString "tables") v [(Str.ofString "order",u)]=[(Str.ofString "order",u),(Str.ofString "tables",v)]:=by
 unfold cF
 rw[if_neg (by decide +kernel)]
 rfl
theorem fg {u v:V}:List.lookup (Str.ofString "order") [(Str.ofString "order",u),(Str.ofString "tables",v)]=some u:=by
 rw[List.lookup_cons,show(Str.ofString "order"==Str.ofString "order")=true by decide +kernel]
theorem cY {u v:V}:List.lookup (Str.ofString "tables") [(Str.ofString "order",u),(Str.ofString "tables",v)]=some v:=by
 rw[List.lookup_cons,show(Str.ofString "tables"==Str.ofString "order")=false by decide +kernel]
 show List.lookup _ [(Str.ofString "tables",v)]=some v
 rw[List.lookup_cons,show(Str.ofString "tables"==Str.ofString "tables")=true by decide +kernel]
theorem kn:∀ (ks:List Str)(vs:List V)(acc:List (Key×V)),ks.Nodup→(∀ k∈ks,b7 acc (Sum.inr k)=none)→cE acc (b6 ks vs)=acc++b6 ks vs
 | [],vs,acc,_,_=>by
   show cE acc []=acc++[]
   rw[List.append_nil];rfl
 | k::ks,[],acc,_,_=>by
   show cE acc []=acc++[]
   rw[List.append_nil];rfl
 | k::ks,v::vs,acc,hd,hn=>by
   rw[fk]
   show cE (eV acc (Sum.inr k) v) (b6 ks vs)=_
   rw[ej _ (hn k List.mem_cons_self),kn ks vs _ (List.nodup_cons.mp hd).2 (fun y hy=>?_),List.append_assoc]
   · rfl
   · have hne:¬(Sum.inr y:Key)=Sum.inr k:=fun e=>(List.nodup_cons.mp hd).1 (by rw[←Sum.inr.inj e];exact hy)
     rw[ku _ _ _ _ (hn k List.mem_cons_self),if_neg hne]
     exact hn y (List.mem_cons_of_mem _ hy)
theorem jx {ks:List Str}{vs:List V}(h:ks.Nodup):cE [] (b6 ks vs)=b6 ks vs:=by
 rw[kn ks vs [] h (fun _ _=>rfl)];rfl
def nG (K:PySem.W.Frag)(C:Addr):Sp:=fun vs H Q _=>∃ (x dx l lb:Addr)(ss:List Str)(bs:List (Str×List Str)),vs=[.ref x,.ref l,.ref lb]∧H x=some (.ins C dx [])∧SqL K H l (ss.map V.str)∧jt H lb bs∧aP ss bs ∧
 ∀ H',af (hide H x) H'→br H' C x ss bs→Q .non H'
theorem n0:ap ["self", "shades", "baths", "name", "outs"] ["self", "shades", "baths"] (ae jp):=⟨rfl,rfl,rfl,by decide +kernel,rfl,by decide +kernel,by decide +kernel⟩
theorem um {C f fS fB:Addr}{fd fdS fdB:FuncData}(F:Fun K "__init__" "Book.__init__" jp f fd)(T:Txt mg)(c:Cls K C)(nO:bP K C "order")(nT:bP K C "tables")
   (GS:ao P w K mg base CX0 3 fS fdS ["shades"] (k4 K))(kS:PySem.W.keepIn K (.ref fS)=true)(bS:ay K fdS ["shades"] [])(mS:mg "check_shades"=some (.ref fS))
   (GB:ao P w K mg base CX0 3 fB fdB ["shades", "baths"] (na K))(kB:PySem.W.keepIn K (.ref fB)=true)(bB:ay K fdB ["shades", "baths"] [])(mB:mg "check_baths"=some (.ref fB)) :
   ao P w K mg base CX0 4 f fd ["self", "shades", "baths"] (nG K C):=by
 refine F.ok n0 (fun vs H Q E h=>?_) (fun cdv A outer s H vs Q E hr h=>?_)
 · obtain⟨_,_,_,_,_,_,rfl,_⟩:=h
   rfl
 · obtain⟨x,dx,l,lb,ss,bs,rfl,hx,hl,hb,B,q⟩:=h
   have hu:(cu CX0 P w K mg base ["self", "shades", "baths", "name", "outs"] "Book.__init__" (ae jp) f cdv A outer s H E).A.units+1 < cLine:=by
     have:=hr.units
     exact Nat.lt_of_le_of_lt (Nat.add_le_add_left (by decide) _) this
   refine⟨_,aj (aO (ar GS hr rfl mS kS bS .nil aJ (aa (pv 1) ad)))
     (aj (aO (ar GB hr rfl mB kB bB .nil aJ (aa (pv 1) (aa (pv 2) ad))))
     (aj (gs (pv 0) (bg jI (by rfl) T.tuple (by decide +kernel) (aa (av eY (by rfl) T.sorted (by decide +kernel) (aa (pv 1) ad)) ad)) rfl)
     (aj (gs (pv 0) fb rfl)
     (ag (bz PassesOwn.never rfl (a9 (pv 2)) (d7 (n:=2) rfl (aX (au (i:=3) n0.nd rfl (Or.inl rfl)) (aX (au (i:=4) n0.nd rfl (Or.inl rfl)) dh)))
       (ag (gw hu (bV (pv 0) rfl) (pv 3) (jj rfl (by rfl) T.dict (by rfl) T.zip (aa (pv 1) (aa (pv 4) ad))) rfl))))))),?_⟩
   have hs:=aQ
   have hl0:=tS hx hl
   have hb0:=p8 hx hb
   generalize hH0:hide H x=H0 at hl0 hb0 q
   have SH:af H0 H:=by rw[←hH0];exact cw
   have hx0:H0 x=none:=by rw[←hH0];unfold hide;rw[if_pos rfl]
   refine cut (fun σ' H'=>σ'=[some (.ref x),some (.ref l),some (.ref lb),none,none]∧af H H') ?_ ?_
   · walk_at "dm"
     exact⟨l,ss,rfl,hl,B.s1,B.s12,B.snd,B.snm,fun H' S'=>S'⟩
   rintro σ1 H1 ⟨rfl,S1⟩
   refine cut (fun σ' H'=>σ'=[some (.ref x),some (.ref l),some (.ref lb),none,none]∧af H H') ?_ ?_
   · walk_at "dm"
     exact⟨l,lb,ss,bs,rfl,S1.seq hl,af.bths S1 hb,B,fun H' S'=>S1.trans S'⟩
   rintro σ2 H2 ⟨rfl,S2⟩
   have hs12:=B.s12
   refine cut (fun σ' H'=>∃ t so,σ'=[some (.ref x),some (.ref l),some (.ref lb),none,none]∧af H0 H'∧H' x=some (.ins C dx [("order",.ref t)])∧H' t=some (.tup (so.map V.str))∧so.Perm ss∧PyProof.Rows.sortedS so=true) ?_ ?_
   · walk_at "dm"
     have S02:af H0 H2:=SH.trans S2
     have hx2:=S2 _ _ hx
     refine⟨ss,S2.seq hl,by omega,fun p so hp hpm hso=>⟨_,.inl ⟨SqL.of ac,fun t ht=>?_⟩⟩⟩
     have hxp:x≠p:=fun e=>by rw[←e,hx2] at hp;cases hp
     have ht2:H2 t=none:=(af.updN hp).free ht
     have hxt:x≠t:=fun e=>by rw[←e,hx2] at ht2;cases ht2
     refine⟨C,dx,[],by rw[ai hxt,ai hxp];exact hx2,c,nO,by decide,((S02.step (S02.free hp)).step (S02.free ht2)).step hx0,t,by rw[ac,nU],so,?_,hpm,hso⟩
     rw[ai (Ne.symm hxt)];exact ac
   rintro σ3 H3 ⟨t,so,rfl,S3,hx3,ht3,hpm,hso⟩
   refine cut (fun σ' H'=>∃ d,σ'=[some (.ref x),some (.ref l),some (.ref lb),none,none]∧H3 d=none∧H'=upd (upd H3 d (.dK [])) x (.ins C dx [("order",.ref t),("tables",.ref d)])) ?_ ?_
   · walk_at "dm"
     intro d hd
     have hxd:x≠d:=fun e=>by rw[←e,hx3] at hd;cases hd
     exact⟨C,dx,_,by rw[ai hxd];exact hx3,c,nT,by rw[List.length_singleton];decide,d,hd,by rw[mi]⟩
   rintro σ4 H4 ⟨d,rfl,hd3,rfl⟩
   have hxd:x≠d:=fun e=>by rw[←e,hx3] at hd3;cases hd3
   have htx:t≠x:=fun e=>by rw[e,hx3] at ht3;cases ht3
   have htd:t≠d:=fun e=>by rw[←e,ht3] at hd3;cases hd3
   have hd0:H0 d=none:=S3.free hd3
   obtain⟨ps,hlb,hpl,hB⟩:=hb0
   have hb8:=B.b8
   have S4:af H0 (upd (upd H3 d (.dK [])) x (.ins C dx [("order",.ref t),("tables",.ref d)])):=(S3.step hd0).step hx0
   walk_at "dm"
   refine⟨⟨_,SqL.of (S4 _ _ hlb)⟩,?_⟩
   refine aU (H0:=H0) (az (SqL.of hlb)) (fun i σ' H'=>∃ (ds:List Addr)(o3 o4:Option V),σ'=[some (.ref x),some (.ref l),some (.ref lb),o3,o4]∧af H0 H'∧H' x=some (.ins C dx [("order",.ref t),("tables",.ref d)])∧H' t=some (.tup (so.map V.str)) ∧
     H' d=some (.dK (b6 ((bs.map (·.1)).take i) (ds.map V.ref)))∧ds.length=i∧∀ (j:Nat) r b,ds[j]?=some r→bs[j]?=some b→hide H' d r=some (.dK (i8 ss b)))
     ⟨[],none,none,rfl,S4,ac,(by rw[ai htx,ai htd];exact ht3),(by rw[ai (Ne.symm hxd)];exact ac),rfl,(by intro j r b h;simp at h)⟩ (fun _ _ _ _ ⟨_,_,_,_,h,_⟩=>h) ?_ ?_
   · rintro i y σ H' hi hy ⟨ds,o3,o4,rfl,hS,hHx,hHt,hHd,hdl,hD⟩
     rw[List.getElem?_map] at hy
     obtain⟨pr,hpr,rfl⟩:=Option.map_eq_some_iff.mp hy
     rw[List.length_map,hpl] at hi
     obtain⟨b,hb⟩:∃ b,bs[i]?=some b:=⟨_,List.getElem?_eq_getElem hi⟩
     obtain⟨lo,ht,hlo⟩:=hB i pr b hpr hb
     have hbm:b∈bs:=List.mem_of_getElem? hb
     have hk:(bs.map (·.1))[i]?=some b.1:=by rw[List.getElem?_map,hb];rfl
     have hnk:b.1∉(bs.map (·.1)).take i:=gy B.bnd hk
     have hln:((bs.map (·.1)).take i).length=(ds.map V.ref).length:=by rw[List.length_take,List.length_map,List.length_map,hdl];omega
     have hbl:b.2.length=ss.length:=B.bln b hbm
     refine gq (hS _ _ ht) ?_
     walk_at "dm"
     refine⟨ss,hS.seq hl0,_,SqL.of (hS _ _ hlo),by rw[List.length_map];exact hbl.symm,by omega,fun r hr=>?_⟩
     rw[jx B.snd]
     have hxr:x≠r:=fun e=>by rw[←e,hHx] at hr;cases hr
     have htr:t≠r:=fun e=>by rw[←e,hHt] at hr;cases hr
     have hrd:r≠d:=fun e=>by rw[e,hHd] at hr;cases hr
     refine⟨C,dx,_,by rw[ai hxr];exact hHx,c,nT,_,cY,d,rfl,_,.inl ⟨_,Sum.inr b.1,by rw[ai (Ne.symm hrd)];exact hHd,rfl,by rw[jE hln,List.length_take];omega,rfl⟩,(hS.step (hS.free hr)).step hd0,by rw[ai hxd,ai hxr];exact hHx,by rw[ai htd,ai htr];exact hHt,ds++[r],?_,by rw[List.length_append,hdl];rfl,fun j r2 b2 hr2 hb2=>?_⟩
     · rw[ac,ej _ (bX _ _ _ hnk),bM hk,List.map_append]
       exact congrArg (fun z=>some (HO.dK z)) (fu b.1 (V.ref r) hln).symm
     · rw[dS]
       by_cases hj:j < i
       · rw[List.getElem?_append_left (by omega)] at hr2
         exact af.hide (af.updN hr) _ _ (hD j r2 b2 hr2 hb2)
       · have hj2:j=i:=by
           have:=(List.getElem?_eq_some_iff.mp hr2).1
           rw[List.length_append,hdl] at this
           simp only[List.length_singleton] at this
           omega
         subst hj2
         rw[List.getElem?_append_right (by omega),hdl,Nat.sub_self] at hr2
         cases hr2
         rw[hb] at hb2
         cases hb2
         rw[bq hrd,ac]
         rfl
   · rintro σ H' ⟨ds,o3,o4,rfl,hS,hHx,hHt,hHd,hdl,hD⟩
     rw[List.length_map,hpl] at hHd hdl
     refine q H' hS ⟨dx,t,d,so,hHx,hHt,hpm,hso,ds,.inl ?_,hdl,fun j r b hr hb=>.inl (cw _ _ (hD j r b hr hb))⟩
     rw[hHd,List.take_of_length_le (by rw[List.length_map];exact Nat.le_refl _)]
end

section
variable {P:Program}{w:World}{K:PySem.W.Frag}{mg:Str→Option Value}{base:Heap}
def lkV (ss:List Str)(b:Str×List Str) (z:Str):Str:=match b7 (i8 ss b) (Sum.inr z) with
 | some (.str y)=>y
 | _=>⟨#[]⟩
theorem nI {ss:List Str}{b:Str×List Str}{z:Str}(hd:ss.Nodup)(hl:b.2.length=ss.length)(hz:z∈ss):b7 (i8 ss b) (Sum.inr z)=some (V.str (lkV ss b z)):=by
 obtain⟨i,hi⟩:=List.getElem?_of_mem hz
 have hil:i < b.2.length:=by rw[hl];exact(List.getElem?_eq_some_iff.mp hi).1
 have e:b7 (i8 ss b) (Sum.inr z)=some (V.str b.2[i]):=cx ss (b.2.map V.str) i z _ hd hi (by rw[List.getElem?_map,List.getElem?_eq_getElem hil];rfl)
 unfold lkV
 rw[e]
theorem gx.get {H:Hp}{d:Addr}{ss:List Str}{bs:List (Str×List Str)}(B:aP ss bs)(h:gx H d ss bs){b:Str×List Str}(hb:b∈bs):∃ r,e5 H d (.str b.1) (some (.ref r))∧Rd H r (.dK (i8 ss b)):=by
 obtain⟨ds,h1,h2,h3⟩:=h
 obtain⟨i,hi⟩:=List.getElem?_of_mem hb
 have hil:i < ds.length:=by rw[h2];exact(List.getElem?_eq_some_iff.mp hi).1
 have hr:=List.getElem?_eq_getElem hil
 refine⟨ds[i],.inl ⟨_,Sum.inr b.1,h1,rfl,?_⟩,h3 i _ b hr hi⟩
 exact(cx _ _ i _ _ B.bnd (by rw[List.getElem?_map,hi];rfl) (by rw[List.getElem?_map,hr];rfl)).symm
theorem cb {m:Str}{u v:V}(h1:(m==Str.ofString "order")=false)(h2:(m==Str.ofString "tables")=false):List.lookup m [(Str.ofString "order",u),(Str.ofString "tables",v)]=none:=by
 rw[List.lookup_cons,h1]
 show List.lookup m [(Str.ofString "tables",v)]=none
 rw[List.lookup_cons,h2]
 rfl
def gK (C:Addr):Sp:=fun vs H Q _=>∃ (x:Addr)(ss:List Str)(bs:List (Str×List Str))(b:Str×List Str),vs=[.ref x,.str b.1]∧br H C x ss bs∧aP ss bs∧b∈bs∧Q .non H
theorem mU:ap ["self", "bath"] ["self", "bath"] (ae dC):=⟨rfl,rfl,rfl,by decide +kernel,rfl,by decide +kernel,by decide +kernel⟩
theorem qm {C f:Addr}{fd:FuncData}(F:Fun K "check_bath" "Book.check_bath" dC f fd)(c:Cls K C)(nT:bP K C "tables"):ao P w K mg base CX0 1 f fd ["self", "bath"] (gK C):=by
 refine F.ok mU (fun vs H Q E h=>?_) (fun cdv A outer s H vs Q E hr h=>?_)
 · obtain⟨_,_,_,_,rfl,_⟩:=h
   rfl
 · obtain⟨x,ss,bs,b,rfl,⟨dx,t,d,so,h1,h2,h3,h4,h5⟩,B,hb,q⟩:=h
   have hu:(cu CX0 P w K mg base ["self", "bath"] "Book.check_bath" (ae dC) f cdv A outer s H E).A.units+1 < cLine:=by
     have:=hr.units
     exact Nat.lt_of_le_of_lt (Nat.add_le_add_left (by decide) _) this
   refine⟨_,ag (aZ (ia (fq hu (pv 1) (bV (pv 0) rfl))) bU aB),?_⟩
   obtain⟨r,hg,hr⟩:=gx.get B h5 hb
   walk_at "dm"
   exact⟨C,dx,_,h1,c,nT,_,cY,d,rfl,_,hg,q⟩
def fP (C:Addr):Sp:=fun vs H Q _=>∃ (x:Addr)(ss:List Str)(bs:List (Str×List Str)),vs=[.ref x]∧br H C x ss bs∧aP ss bs∧∀ l so,H l=none→so.Perm ss→PyProof.Rows.sortedS so=true→Q (.ref l) (upd H l (.lst (so.map V.str)))
theorem pK:ap ["self"] ["self"] (ae eB):=⟨rfl,rfl,rfl,by decide +kernel,rfl,by decide +kernel,by decide +kernel⟩
theorem nM {C f:Addr}{fd:FuncData}(F:Fun K "shades" "Book.shades" eB f fd)(T:Txt mg)(c:Cls K C)(nO:bP K C "order"):ao P w K mg base CX0 1 f fd ["self"] (fP C):=by
 refine F.ok pK (fun vs H Q E h=>?_) (fun cdv A outer s H vs Q E hr h=>?_)
 · obtain⟨_,_,_,rfl,_⟩:=h
   rfl
 · obtain⟨x,ss,bs,rfl,⟨dx,t,d,so,h1,h2,h3,h4,h5⟩,B,q⟩:=h
   refine⟨_,ag (ax (bg cV (by rfl) T.list (by decide +kernel) (aa (bV (pv 0) rfl) ad))),?_⟩
   walk_at "dm"
   exact⟨C,dx,_,h1,c,nO,_,fg,t,rfl,_,.inr (SqT.of h2),fun l hl=>q l so hl h3 h4⟩
def ng (C:Addr):Sp:=fun vs H Q _=>∃ (x:Addr)(ss:List Str)(bs:List (Str×List Str)),vs=[.ref x]∧br H C x ss bs∧aP ss bs∧∀ l ns,H l=none→ns.Perm (bs.map (·.1))→PyProof.Rows.sortedS ns=true→Q (.ref l) (upd H l (.lst (ns.map V.str)))
theorem qJ:ap ["self"] ["self"] (ae fr):=⟨rfl,rfl,rfl,by decide +kernel,rfl,by decide +kernel,by decide +kernel⟩
theorem qD {C f:Addr}{fd:FuncData}(F:Fun K "baths" "Book.baths" fr f fd)(T:Txt mg)(c:Cls K C)(nT:bP K C "tables"):ao P w K mg base CX0 1 f fd ["self"] (ng C):=by
 refine F.ok qJ (fun vs H Q E h=>?_) (fun cdv A outer s H vs Q E hr h=>?_)
 · obtain⟨_,_,_,rfl,_⟩:=h
   rfl
 · obtain⟨x,ss,bs,rfl,⟨dx,t,d,so,h1,h2,h3,h4,ds,h5,h6,h7⟩,B,q⟩:=h
   have hb8:=B.b8
   refine⟨_,ag (ax (av (eO rfl) (by rfl) T.sorted (by decide +kernel) (aa (bV (pv 0) rfl) ad))),?_⟩
   walk_at "dm"
   refine⟨C,dx,_,h1,c,nT,_,cY,d,rfl,bs.map (·.1),_,h5,kf (by rw[List.length_map,List.length_map,h6]),by rw[List.length_map];omega,fun l ns hl hp hs=>q l ns hl hp hs⟩
def lX (C:Addr):Sp:=fun vs H Q _=>∃ (x:Addr)(ss:List Str)(bs:List (Str×List Str))(b:Str×List Str),vs=[.ref x,.str b.1]∧br H C x ss bs∧aP ss bs∧b∈bs ∧
 ∀ l so,H l=none→so.Perm ss→PyProof.Rows.sortedS so=true→Q (.ref l) (upd H l (.lst ((so.map (lkV ss b)).map V.str)))
theorem rE:ap ["self", "bath"] ["self", "bath"] (ae eE):=⟨rfl,rfl,rfl,by decide +kernel,rfl,by decide +kernel,by decide +kernel⟩
theorem pU {C f fC:Addr}{fd fdC:FuncData}(F:Fun K "table" "Book.table" eE f fd)(c:Cls K C)(nO:bP K C "order")(nT:bP K C "tables")
   (GC:ao P w K mg base CX0 1 fC fdC ["self", "bath"] (gK C))(hmC:bQ K C "check_bath" fC)(bC:ay K fdC ["self", "bath"] []):ao P w K mg base CX0 2 f fd ["self", "bath"] (lX C):=by
 refine F.ok rE (fun vs H Q E h=>?_) (fun cdv A outer s H vs Q E hr h=>?_)
 · obtain⟨_,_,_,_,rfl,_⟩:=h
   rfl
 · obtain⟨x,ss,bs,b,rfl,hbk,B,hb,q⟩:=h
   have hu:(cu CX0 P w K mg base ["self", "bath"] "Book.table" (ae eE) f cdv A outer s H E).A.units+1 < cLine:=by
     have:=hr.units
     exact Nat.lt_of_le_of_lt (Nat.add_le_add_left (by decide) _) this
   refine⟨_,al (aO (bf (pv 0) c hmC GC hr bC .nil aJ (aa (pv 1) ad)))
     (ag (ax (df (N':=["shade", "self", "bath"]) (pk:=[none,some 0,some 1]) rfl (cg.of (by rfl)) (u7 (bV (pv 0) rfl)) (fun s H ex=>au (i:=0) (by show(["shade", "self", "bath"]:List Str).Nodup;decide +kernel) rfl (Or.inl rfl))
         (fun s H ex=>cp hu (cp hu ((bV (pv 1) rfl):PE _ _ (vb K (pG 1) "tables")) (pv 2) (fun _ _=>rfl)) (pv 0) (fun _ _=>rfl))))),?_⟩
   obtain⟨dx,t,d,so,h1,h2,h3,h4,h5⟩:=hbk
   have hs:=aQ
   walk_at "dm"
   refine⟨dx,_,h1,cb (by decide +kernel) (by decide +kernel),x,ss,bs,b,rfl,⟨dx,t,d,so,h1,h2,h3,h4,h5⟩,B,hb,C,dx,_,h1,c,nO,_,fg,t,rfl,⟨_,SqT.of h2⟩,fun D hD=>?_⟩
   have hsl:so.length=ss.length:=h3.length_eq
   have hs12:=B.s12
   refine cq (nZ (SqT.of h2)) (by rw[List.length_map];omega) hD (fun σ=>∃ o,σ=[o,some (.ref x),some (.str b.1)]) (fun k=>V.str (lkV ss b (so.getD k ⟨#[]⟩))) ⟨none,rfl⟩ ?_ ?_
   · rintro k y σ' H3 hk hy ⟨o,rfl⟩ hS3 R hR
     rw[List.getElem?_map] at hy
     obtain⟨z,hz,rfl⟩:=Option.map_eq_some_iff.mp hy
     have hzs:z∈ss:=h3.mem_iff.mp (List.mem_of_getElem? hz)
     obtain⟨r,hg,hr⟩:=gx.get B (af.tabs hS3 h5) hb
     walk_at "dm"
     refine⟨C,dx,_,hS3 _ _ h1,c,nT,_,cY,d,rfl,_,hg,r,rfl,V.str (lkV ss b z),.inl ⟨_,Sum.inr z,hr,rfl,(nI B.snd (B.bln b hb) hzs).symm⟩,?_⟩
     have e:so.getD k ⟨#[]⟩=z:=by rw[List.getD_eq_getElem?_getD,hz];rfl
     have:=hR [some (V.str z),some (V.ref x),some (V.str b.1)] ⟨_,rfl⟩
     rw[e] at this
     exact this
   · have e:(List.range (so.map V.str).length).map (fun k=>V.str (lkV ss b (so.getD k ⟨#[]⟩)))=(so.map (lkV ss b)).map V.str:=by
       rw[List.map_map]
       refine dF _ so _ _ (by rw[List.length_map]) fun k y hy=>?_
       rw[List.getD_eq_getElem?_getD,hy]
       rfl
     rw[e]
     exact q D so hD h3 h4
end

section
variable {P:Program}{w:World}{K:PySem.W.Frag}{mg:Str→Option Value}{base:Heap}
def jL (C:Addr):Sp:=fun vs H Q _=>∃ (x:Addr)(ss:List Str)(bs:List (Str×List Str)) (z:Str),vs=[.ref x,.str z]∧br H C x ss bs∧z∈ss∧Q .non H
theorem jZ:ap ["self", "shade"] ["self", "shade"] (ae dU):=⟨rfl,rfl,rfl,by decide +kernel,rfl,by decide +kernel,by decide +kernel⟩
theorem og {C f:Addr}{fd:FuncData}(F:Fun K "check_shade" "Book.check_shade" dU f fd)(c:Cls K C)(nO:bP K C "order"):ao P w K mg base CX0 1 f fd ["self", "shade"] (jL C):=by
 refine F.ok jZ (fun vs H Q E h=>?_) (fun cdv A outer s H vs Q E hr h=>?_)
 · obtain⟨_,_,_,_,rfl,_⟩:=h
   rfl
 · obtain⟨x,ss,bs,z,rfl,⟨dx,t,d,so,h1,h2,h3,h4,h5⟩,hz,q⟩:=h
   refine⟨_,ag (aZ (aF dD (pv 1) (bV (pv 0) rfl) (by with_unfolding_all rfl)) bU aB),?_⟩
   have hzo:z∈so:=h3.mem_iff.mpr hz
   walk_at "dm"
   refine⟨C,dx,_,h1,c,nO,_,fg,t,rfl,_,.inr (SqT.of h2),rfl,dH so,?_⟩
   rw[eF,decide_eq_true hzo]
   exact q
def nw (C:Addr):Sp:=fun vs H Q _=>∃ (x:Addr)(ss:List Str)(bs:List (Str×List Str))(b:Str×List Str) (z:Str),vs=[.ref x,.str b.1,.str z]∧br H C x ss bs∧aP ss bs∧b∈bs∧z∈ss∧Q (.str (lkV ss b z)) H
theorem vi:ap ["self", "bath", "shade"] ["self", "bath", "shade"] (ae jb):=⟨rfl,rfl,rfl,by decide +kernel,rfl,by decide +kernel,by decide +kernel⟩
theorem tR {C f fC fS:Addr}{fd fdC fdS:FuncData}(F:Fun K "out" "Book.out" jb f fd)(c:Cls K C)(nT:bP K C "tables")
   (GC:ao P w K mg base CX0 1 fC fdC ["self", "bath"] (gK C))(hmC:bQ K C "check_bath" fC)(bC:ay K fdC ["self", "bath"] [])
   (GS:ao P w K mg base CX0 1 fS fdS ["self", "shade"] (jL C))(hmS:bQ K C "check_shade" fS)(bS:ay K fdS ["self", "shade"] []):ao P w K mg base CX0 2 f fd ["self", "bath", "shade"] (nw C):=by
 refine F.ok vi (fun vs H Q E h=>?_) (fun cdv A outer s H vs Q E hr h=>?_)
 · obtain⟨_,_,_,_,_,rfl,_⟩:=h
   rfl
 · obtain⟨x,ss,bs,b,z,rfl,hbk,B,hb,hz,q⟩:=h
   have hu:(cu CX0 P w K mg base ["self", "bath", "shade"] "Book.out" (ae jb) f cdv A outer s H E).A.units+1 < cLine:=by
     have:=hr.units
     exact Nat.lt_of_le_of_lt (Nat.add_le_add_left (by decide) _) this
   refine⟨_,al (aO (bf (pv 0) c hmC GC hr bC .nil aJ (aa (pv 1) ad)))
     (al (aO (bf (pv 0) c hmS GS hr bS .nil aJ (aa (pv 2) ad)))
     (ag (ax (cp hu (cp hu (bV (pv 0) rfl) (pv 1) (fun _ _=>rfl)) (pv 2) (fun _ _=>rfl))))),?_⟩
   obtain⟨dx,t,d,so,h1,h2,h3,h4,h5⟩:=hbk
   obtain⟨r,hg,hr⟩:=gx.get B h5 hb
   walk_at "dm"
   refine⟨dx,_,h1,cb (by decide +kernel) (by decide +kernel),x,ss,bs,b,rfl,⟨dx,t,d,so,h1,h2,h3,h4,h5⟩,B,hb,dx,_,h1,cb (by decide +kernel) (by decide +kernel),x,ss,bs,z,rfl,⟨dx,t,d,so,h1,h2,h3,h4,h5⟩,hz,?_⟩
   exact⟨C,dx,_,h1,c,nT,_,cY,d,rfl,_,hg,r,rfl,_,.inl ⟨_,Sum.inr z,hr,rfl,(nI B.snd (B.bln b hb) hz).symm⟩,q⟩
end

section
variable {P:Program}{w:World}{K:PySem.W.Frag}{mg:Str→Option Value}{base:Heap}
def mX (K:PySem.W.Frag)(C:Addr):Sp:=fun vs H Q _=>∃ (l lb:Addr)(ss:List Str)(bs:List (Str×List Str)),vs=[.ref l,.ref lb]∧SqL K H l (ss.map V.str)∧jt H lb bs∧aP ss bs∧∀ x H',H x=none→af H H'→br H' C x ss bs→Q (.ref x) H'
theorem q8:ap ["_law_shades", "_law_baths"] ["_law_shades", "_law_baths"] (ae fE):=⟨rfl,rfl,rfl,by decide +kernel,rfl,by decide +kernel,by decide +kernel⟩
theorem pA {C f fI:Addr}{fd fdI:FuncData}(F:Fun K "_law_handed" "_law_handed" fE f fd)(T:Txt mg)(M:Mk K C fI)(GI:ao P w K mg base CX0 4 fI fdI ["self", "shades", "baths"] (nG K C))(bI:ay K fdI ["self", "shades", "baths"] [])(mC:mg "Book"=some (.ref C)) :
   ao P w K mg base CX0 6 f fd ["_law_shades", "_law_baths"] (mX K C):=by
 refine F.ok q8 (fun vs H Q E h=>?_) (fun cdv A outer s H vs Q E hr h=>?_)
 · obtain⟨_,_,_,_,rfl,_⟩:=h
   rfl
 · obtain⟨l,lb,ss,bs,rfl,hl,⟨ps,hlb,hpl,hB⟩,B,q⟩:=h
   refine⟨_,ag (ax (iQ M GI hr rfl mC bI .nil aJ (aa (bg cV (by rfl) T.list (by decide +kernel) (aa (pv 0) ad)) (aa (df (N':=["_law_title", "_law_outs_here"]) (pk:=[none,none]) rfl (cg.of (by rfl)) (a9 (pv 1))
       (fun s H ex=>(d7 (n:=2) rfl (aX (au (i:=0) (by show(["_law_title", "_law_outs_here"]:List Str).Nodup;decide +kernel) rfl (Or.inl rfl)) (aX (au (i:=1) (by show(["_law_title", "_law_outs_here"]:List Str).Nodup;decide +kernel) rfl (Or.inl rfl)) dh)):PG _ _ (qa K 2 (dw (cO 0) (dw (cO 1) nE)))))
       (fun s H ex=>du (aa (pv 0) (aa (bg (cV:cv _ (.type "list") (fun xs H Q=>∃ p ys,xs=[.ref p]∧(SqL K H p ys∨SqT K H p ys)∧∀ l,H l=none→Q (.ref l) (upd H l (.lst ys)))) (by rfl) T.list (by decide +kernel) (aa (pv 1) ad)) ad)))) ad)))),?_⟩
   have hs:=aQ
   have hb8:=B.b8
   walk_at "dm"
   refine⟨_,.inl hl,fun l2 hl2=>?_⟩
   have Sa:af H (upd H l2 (.lst (ss.map V.str))):=af.updN hl2
   refine⟨⟨_,SqL.of (Sa _ _ hlb)⟩,fun D hD=>?_⟩
   generalize hG:upd H l2 (.lst (ss.map V.str))=G at Sa hD
   have hGl:G l2=some (.lst (ss.map V.str)):=by rw[←hG];exact ac
   refine gC (H0:=G) (az (SqL.of (Sa _ _ hlb))) (by rw[List.length_map];omega) (fun i xs σ' H'=>(∃ o1 o2,σ'=[o1,o2])∧af G H'∧H' D=some (.lst xs)∧∃ qs:List Addr,xs=qs.map V.ref∧qs.length=i∧∀ (j:Nat) p b,qs[j]?=some p→bs[j]?=some b→jM (hide H' D) p b)
     ⟨⟨none,none,rfl⟩,af.updN hD,ac,[],rfl,rfl,(by intro j p b h;simp at h)⟩ (fun i xs σ' H' ⟨_,h1,_,qs,h2,h3,_⟩=>⟨h1,by rw[h2,List.length_map];exact h3⟩) ?_ ?_
   · rintro i xs σ' H' x hi hx ⟨⟨o1,o2,rfl⟩,hS,hHD,qs,rfl,hql,hqB⟩ R hR
     rw[List.getElem?_map] at hx
     obtain⟨p,hp,rfl⟩:=Option.map_eq_some_iff.mp hx
     obtain⟨b,hb⟩:∃ b,bs[i]?=some b:=⟨_,List.getElem?_eq_getElem (by rw[List.length_map] at hi;omega)⟩
     obtain⟨lo,ht,hlo⟩:=hB i p b hp hb
     refine gq (hS _ _ (Sa _ _ ht)) ?_
     walk_at "dm"
     refine⟨_,.inl (SqL.of (hS _ _ (Sa _ _ hlo))),fun l3 hl3=>⟨by omega,fun t ht3=>?_⟩⟩
     have S3:af H' (upd H' l3 (.lst (b.2.map V.str))):=af.updN hl3
     have ht':H' t=none:=S3.free ht3
     have S4:=S3.step (o:=.tup [.str b.1,.ref l3]) ht'
     have hl3D:l3≠D:=fun e=>by rw[e,hHD] at hl3;cases hl3
     have htD:t≠D:=fun e=>by rw[e,hHD] at ht';cases ht'
     have hl3t:l3≠t:=fun e=>by rw[←e,ac] at ht3;cases ht3
     refine hR _ _ _ (S4 _ _ hHD) ⟨⟨_,_,rfl⟩,(hS.trans S4).step hD,ac,qs++[t],by rw[List.map_append];rfl,by rw[List.length_append,hql];rfl,fun j p2 b2 hp2 hb2=>?_⟩
     rw[dS]
     by_cases hj:j < i
     · rw[List.getElem?_append_left (by omega)] at hp2
       exact af.bthAt (af.hide S4) (hqB j p2 b2 hp2 hb2)
     · have hj2:j=i:=by
         have:=(List.getElem?_eq_some_iff.mp hp2).1
         rw[List.length_append,hql] at this
         simp only[List.length_singleton] at this
         omega
       subst hj2
       rw[List.getElem?_append_right (by omega),hql,Nat.sub_self] at hp2
       cases hp2
       rw[hb] at hb2
       cases hb2
       refine⟨l3,?_,?_⟩
       · rw[bq htD];exact ac
       · rw[bq hl3D,ai hl3t];exact ac
   · rintro xs σ' H' ⟨_,hS,hHD,qs,rfl,hql,hqB⟩ x dx hx hdx hne
     rw[List.length_map,hpl] at hql
     have S5:af H' (upd (upd H' dx (.own x)) x (.ins C dx [])):=(af.updN hdx).step hx
     have S6:af H' (hide (upd (upd H' dx (.own x)) x (.ins C dx [])) x):=fun y o e=>by
       rw[bq (ak e hx)];exact S5 y o e
     refine⟨x,dx,l2,D,ss,bs,rfl,ac,SqL.of (S5 _ _ (hS _ _ hGl)),⟨qs,S5 _ _ hHD,hql,fun j p b hp hb=>af.bthAt (cw.trans S5) (hqB j p b hp hb)⟩,B,fun H2 S2 hbk=>⟨rfl,?_⟩⟩
     exact q x H2 ((Sa.trans hS).free hx) (((Sa.trans hS).trans S6).trans S2) hbk
end

section
variable {P:Program}{w:World}{K:PySem.W.Frag}{mg:Str→Option Value}{base:Heap}
def Fz (H H':Hp):Prop:=(∀ b o,H b=some o→(∀ kvs,o≠.dK kvs)→H' b=some o)∧(∀ b o,Rd H b o→Rd H' b o)
theorem af.fz {H H':Hp}(S:af H H'):Fz H H':=⟨fun b o h _=>S b o h,fun b o h=>af.rd S h⟩
def lW (H:Hp)(d:Addr)(ss ns:List Str)(lk:Str→Str→Str):Prop :=
 ∃ kvs:List (Key×V),Rd H d (.dK kvs)∧kvs.map (·.1)=ns.map Sum.inr∧∀ n∈ns,∃ r kv,b7 kvs (Sum.inr n)=some (.ref r)∧Rd H r (.dK kv)∧∀ z∈ss,b7 kv (Sum.inr z)=some (.str (lk n z))
theorem Fz.tabG {H H':Hp}{d:Addr}{ss ns:List Str}{lk:Str→Str→Str}(S:Fz H H')(h:lW H d ss ns lk):lW H' d ss ns lk:=by
 obtain⟨kvs,h1,h2,h3⟩:=h
 refine⟨kvs,S.2 _ _ h1,h2,fun n hn=>?_⟩
 obtain⟨r,kv,e1,e2,e3⟩:=h3 n hn
 exact⟨r,kv,e1,S.2 _ _ e2,e3⟩
theorem lW.get {H:Hp}{d:Addr}{ss ns:List Str}{lk:Str→Str→Str}(h:lW H d ss ns lk){n z:Str}(hn:n∈ns)(hz:z∈ss):∃ r,e5 H d (.str n) (some (.ref r))∧e5 H r (.str z) (some (.str (lk n z))):=by
 obtain⟨kvs,h1,h2,h3⟩:=h
 obtain⟨r,kv,e1,e2,e3⟩:=h3 n hn
 exact⟨r,.inl ⟨_,Sum.inr n,h1,rfl,e1.symm⟩,.inl ⟨_,Sum.inr z,e2,rfl,(e3 z hz).symm⟩⟩
def lkB (ss:List Str)(bs:List (Str×List Str)) (n z:Str):Str:=match bs.find? (fun b=>decide (b.1=n)) with
 | some b=>lkV ss b z
 | none=>⟨#[]⟩
theorem ee {ss:List Str}:∀ {bs:List (Str×List Str)}{b:Str×List Str} (z:Str),(bs.map (·.1)).Nodup→b∈bs→lkB ss bs b.1 z=lkV ss b z
 | [],_,_,_,h=>by cases h
 | a::bs,b,z,hd,h=>by
   unfold lkB
   by_cases e:a.1=b.1
   · rw[List.find?_cons_of_pos (by simp[e])]
     rcases List.mem_cons.mp h with rfl | hm
     · rfl
     · exact absurd (List.mem_map_of_mem (f:=(·.1)) hm) (by rw[List.map_cons,List.nodup_cons] at hd;rw[←e];exact hd.1)
   · rw[List.find?_cons_of_neg (by simp[e])]
     have hm:b∈bs:=by
       rcases List.mem_cons.mp h with rfl | hm
       · exact absurd rfl e
       · exact hm
     rw[List.map_cons,List.nodup_cons] at hd
     exact ee z hd.2 hm
theorem gx.toG {H:Hp}{d:Addr}{ss:List Str}{bs:List (Str×List Str)}(B:aP ss bs)(h:gx H d ss bs):lW H d ss (bs.map (·.1)) (lkB ss bs):=by
 obtain⟨ds,h1,h2,h3⟩:=h
 refine⟨_,h1,kf (by rw[List.length_map,List.length_map,h2]),fun n hn=>?_⟩
 obtain⟨b,hb,rfl⟩:=List.mem_map.mp hn
 obtain⟨i,hi⟩:=List.getElem?_of_mem hb
 have hil:i < ds.length:=by rw[h2];exact(List.getElem?_eq_some_iff.mp hi).1
 have hr:=List.getElem?_eq_getElem hil
 refine⟨ds[i],_,cx _ _ i _ _ B.bnd (by rw[List.getElem?_map,hi];rfl) (by rw[List.getElem?_map,hr];rfl),h3 i _ b hr hi,fun z hz=>?_⟩
 rw[ee z B.bnd hb]
 exact nI B.snd (B.bln b hb) hz
end

section
variable {P:Program}{w:World}{K:PySem.W.Frag}{mg:Str→Option Value}{base:Heap}
def aR (lk:Str→Str→Str)(row:List Str) (z:Str):Str:=row.foldl (fun z n=>lk n z) z
def iw (lk:Str→Str→Str)(row:List Str) (z:Str) (m:Nat):List Str:=(List.range (m+1)).map fun i=>aR lk (row.take i) z
theorem ef {lk:Str→Str→Str}{row:List Str}{z n:Str}{i:Nat}(h:row[i]?=some n):aR lk (row.take (i+1)) z=lk n (aR lk (row.take i) z):=by
 unfold aR
 rw[bM h,List.foldl_append]
 rfl
theorem jn {lk:Str→Str→Str}{row:List Str}{z:Str}{i:Nat}:iw lk row z (i+1)=iw lk row z i++[aR lk (row.take (i+1)) z]:=by
 unfold iw
 rw[List.range_succ (n:=i+1),List.map_append]
 rfl
theorem ji {lk:Str→Str→Str}{row:List Str}{z:Str}:∀ i,atI ((iw lk row z i).map V.str) (-1)=some (V.str (aR lk (row.take i) z))
 | 0=>rfl
 | i+1=>by
   rw[jn,List.map_append]
   exact gv _ _
theorem qE {lk:Str→Str→Str}{row:List Str}{z:Str}{m:Nat}:(iw lk row z m).length=m+1:=by unfold iw;rw[List.length_map,List.length_range]
theorem dY {lk:Str→Str→Str}{ss ns:List Str}(hc:∀ n∈ns,∀ z∈ss,lk n z∈ss):∀ (row:List Str) (z:Str),(∀ n∈row,n∈ns)→z∈ss→aR lk row z∈ss
 | [],z,_,hz=>hz
 | n::r,z,hr,hz=>dY hc r (lk n z) (fun m hm=>hr m (List.mem_cons_of_mem _ hm)) (hc n (hr n List.mem_cons_self) z hz)
theorem qI {ss:List Str}{bs:List (Str×List Str)}{b:Str×List Str}{z:Str}(B:aP ss bs)(hb:b∈bs)(hz:z∈ss):lkV ss b z∈ss:=by
 obtain⟨i,hi⟩:=List.getElem?_of_mem hz
 have hl:=B.bln b hb
 have hil:i < b.2.length:=by rw[hl];exact(List.getElem?_eq_some_iff.mp hi).1
 have e:b7 (i8 ss b) (Sum.inr z)=some (V.str b.2[i]):=cx ss (b.2.map V.str) i z _ B.snd hi (by rw[List.getElem?_map,List.getElem?_eq_getElem hil];rfl)
 have e2:lkV ss b z=b.2[i]:=by unfold lkV;rw[e]
 rw[e2]
 exact B.bin b hb _ (List.getElem_mem hil)
theorem cR {ss:List Str}{bs:List (Str×List Str)}(B:aP ss bs):∀ n∈bs.map (·.1),∀ z∈ss,lkB ss bs n z∈ss:=fun n hn z hz=>by
 obtain⟨b,hb,rfl⟩:=List.mem_map.mp hn
 rw[ee z B.bnd hb]
 exact qI B hb hz
def rG (K:PySem.W.Frag)(C:Addr):Sp:=fun vs H Q _=>∃ (x l:Addr)(ss:List Str)(bs:List (Str×List Str))(row:List Str),vs=[.ref x,.ref l]∧br H C x ss bs∧aP ss bs∧SqL K H l (row.map V.str)∧(∀ n∈row,n∈bs.map (·.1))∧Q .non H
theorem qF:ap ["book", "row", "bath"] ["book", "row"] (ae j8):=⟨rfl,rfl,rfl,by decide +kernel,rfl,by decide +kernel,by decide +kernel⟩
theorem tT {C f fC:Addr}{fd fdC:FuncData}(F:Fun K "check_baths_of" "check_baths_of" j8 f fd)(c:Cls K C)
   (GC:ao P w K mg base CX0 1 fC fdC ["self", "bath"] (gK C))(hmC:bQ K C "check_bath" fC)(bC:ay K fdC ["self", "bath"] []):ao P w K mg base CX0 2 f fd ["book", "row"] (rG K C):=by
 refine F.ok qF (fun vs H Q E h=>?_) (fun cdv A outer s H vs Q E hr h=>?_)
 · obtain⟨_,_,_,_,_,rfl,_⟩:=h
   rfl
 · obtain⟨x,l,ss,bs,row,rfl,hbk,B,hl,hrow,q⟩:=h
   refine⟨_,ag (bz PassesOwn.never rfl (a9 (pv 1)) (au (i:=2) qF.nd rfl (Or.inl rfl)) (ag (aO (bf (pv 0) c hmC GC hr bC .nil aJ (aa (pv 2) ad))))),?_⟩
   walk_at "dm"
   refine⟨⟨_,hl⟩,?_⟩
   refine aU (H0:=H) (az hl) (fun i σ' H'=>∃ o,σ'=[some (.ref x),some (.ref l),o]∧H'=H) ⟨none,rfl,rfl⟩ (fun _ _ _ _ ⟨_,_,h⟩=>by rw[h];exact af.refl _) ?_ ?_
   · rintro i y σ H' hi hy ⟨o,rfl,rfl⟩
     rw[List.getElem?_map] at hy
     obtain⟨n,hn,rfl⟩:=Option.map_eq_some_iff.mp hy
     obtain⟨b,hb,rfl⟩:=List.mem_map.mp (hrow n (List.mem_of_getElem? hn))
     have hbk0:=hbk
     obtain⟨dx,t,d,so,h1,h2,h3,h4,h5⟩:=hbk
     walk_at "dm"
     exact⟨dx,_,h1,cb (by decide +kernel) (by decide +kernel),x,ss,bs,b,rfl,hbk0,B,hb,rfl⟩
   · rintro σ H' ⟨o,rfl,rfl⟩
     exact q
def sH (K:PySem.W.Frag):Sp:=fun vs H Q _=>∃ (l:Addr)(xs:List V),vs=[.ref l]∧SqL K H l xs∧xs.length≤40∧Q .non H
theorem u3:ap ["row"] ["row"] (ae kU):=⟨rfl,rfl,rfl,by decide +kernel,rfl,by decide +kernel,by decide +kernel⟩
theorem tE {f:Addr}{fd:FuncData}(F:Fun K "check_length" "check_length" kU f fd)(T:Txt mg)(TR:∃ t,mg "MOST_IN_ROW"=some (.int 40 t)):ao P w K mg base CX0 1 f fd ["row"] (sH K):=by
 refine F.ok u3 (fun vs H Q E h=>?_) (fun cdv A outer s H vs Q E hr h=>?_)
 · obtain⟨_,_,rfl,_⟩:=h
   rfl
 · obtain⟨l,xs,rfl,hl,hlen,q⟩:=h
   obtain⟨t,ht⟩:=TR
   refine⟨_,ag (aZ (aF js (av aE (by rfl) T.len PySem.boot_len (aa (pv 0) ad)) (cz (v:=.int 40) rfl ht ⟨_,rfl⟩) (aK _)) bU aB),?_⟩
   walk_at "dm"
   exact⟨_,.inl hl,bn (fun h=>absurd h (by omega)) (fun _=>q)⟩
def rg (K:PySem.W.Frag)(C:Addr):Sp:=fun vs H Q _=>∃ (x l:Addr)(ss:List Str)(bs:List (Str×List Str))(row:List Str) (z:Str),vs=[.ref x,.ref l,.str z]∧br H C x ss bs∧aP ss bs∧SqL K H l (row.map V.str)∧(∀ n∈row,n∈bs.map (·.1))∧row.length≤40∧z∈ss ∧
 ∀ p H',H p=none→af H H'→H' p=some (.lst ((iw (lkB ss bs) row z row.length).map V.str))→Q (.ref p) H'
theorem nk:ap ["book", "row", "shade", "shades", "bath"] ["book", "row", "shade"] (ae jQ):=⟨rfl,rfl,rfl,by decide +kernel,rfl,by decide +kernel,by decide +kernel⟩
theorem t3 {C f fO:Addr}{fd fdO:FuncData}(F:Fun K "walk" "walk" jQ f fd)(c:Cls K C)
   (GO:ao P w K mg base CX0 2 fO fdO ["self", "bath", "shade"] (nw C))(hmO:bQ K C "out" fO)(bO:ay K fdO ["self", "bath", "shade"] []):ao P w K mg base CX0 3 f fd ["book", "row", "shade"] (rg K C):=by
 refine F.ok nk (fun vs H Q E h=>?_) (fun cdv A outer s H vs Q E hr h=>?_)
 · obtain⟨_,_,_,_,_,_,rfl,_⟩:=h
   rfl
 · obtain⟨x,l,ss,bs,row,z,rfl,hbk,B,hl,hrow,hlen,hz,q⟩:=h
   refine⟨_,al (aC (i:=3) nk.nd rfl (Or.inl rfl) (bx (aa (pv 2) ad)))
     (al (bz PassesOwn.never rfl (a9 (pv 1)) (au (i:=4) nk.nd rfl (Or.inl rfl))
       (ag (aO (dm PySem.F.plainAttrs_list PySem.F.slot_list_append PySem.F.type_list_append ca (pv 3) (aa (bf (pv 0) c hmO GO hr bO .nil aJ (aa (pv 4) (aa (aM aG (pv 3) (iW gn ah) (fun _ _=>rfl)) ad))) ad)))))
     (ag (ax (pv 3)))),?_⟩
   have hs:=aQ
   walk_at "dm"
   refine⟨by omega,fun p hp=>?_⟩
   have S0:af H (upd H p (.lst [V.str z])):=af.updN hp
   refine⟨⟨_,S0.seq hl⟩,?_⟩
   refine aU (H0:=H) (az hl) (fun i σ' H'=>∃ o,σ'=[some (.ref x),some (.ref l),some (.str z),some (.ref p),o]∧af H H'∧H' p=some (.lst ((iw (lkB ss bs) row z i).map V.str)))
     ⟨none,rfl,S0,ac⟩ (fun _ _ _ _ ⟨_,_,h,_⟩=>h) ?_ ?_
   · rintro i y σ H' hi hy ⟨o,rfl,hS,hH⟩
     rw[List.getElem?_map] at hy
     obtain⟨n,hn,rfl⟩:=Option.map_eq_some_iff.mp hy
     rw[List.length_map] at hi
     obtain⟨b,hb,rfl⟩:=List.mem_map.mp (hrow n (List.mem_of_getElem? hn))
     have hbk':=af.book hS hbk
     have hbk0:=hbk'
     obtain⟨dx,t,d,so,h1,h2,h3,h4,h5⟩:=hbk'
     have hm:aR (lkB ss bs) (row.take i) z∈ss:=dY (cR B) _ z (fun n hn=>hrow n (List.mem_of_mem_take hn)) hz
     walk_at "dm"
     refine⟨.inl ⟨rfl,_,SqL.of hH⟩,dx,_,h1,cb (by decide +kernel) (by decide +kernel),_,SqL.of hH,_,ji i,x,ss,bs,b,_,rfl,hbk0,B,hb,hm,_,hH,?_,hS.step hp,?_⟩
     · rw[List.length_map,qE];omega
     · rw[ac,jn,List.map_append,ef hn,ee _ B.bnd hb]
       rfl
   · rintro σ H' ⟨o,rfl,hS,hH⟩
     rw[List.length_map] at hH
     walk_at "dm"
     exact q p H' hp hS hH
end

section
variable {P:Program}{w:World}{K:PySem.W.Frag}{mg:Str→Option Value}{base:Heap}
def lz (K:PySem.W.Frag)(C:Addr):Sp:=fun vs H Q _=>∃ (x l:Addr)(ss:List Str)(bs:List (Str×List Str))(row:List Str),vs=[.ref x,.ref l]∧br H C x ss bs∧aP ss bs∧SqL K H l (row.map V.str)∧(∀ n∈row,n∈bs.map (·.1))∧row.length≤40 ∧
 ∀ p so H',H p=none→af H H'→so.Perm ss→PyProof.Rows.sortedS so=true→H' p=some (.lst ((so.map (aR (lkB ss bs) row)).map V.str))→Q (.ref p) H'
theorem ut:ap ["book", "row"] ["book", "row"] (ae gU):=⟨rfl,rfl,rfl,by decide +kernel,rfl,by decide +kernel,by decide +kernel⟩
theorem qP {C f fS fW:Addr}{fd fdS fdW:FuncData}(F:Fun K "table_of" "table_of" gU f fd)(c:Cls K C)
   (GS:ao P w K mg base CX0 1 fS fdS ["self"] (fP C))(hmS:bQ K C "shades" fS)(bS:ay K fdS ["self"] [])
   (GW:ao P w K mg base CX0 3 fW fdW ["book", "row", "shade"] (rg K C))(kW:PySem.W.keepIn K (.ref fW)=true)(bW:ay K fdW ["book", "row", "shade"] [])(mW:mg "walk"=some (.ref fW)) :
   ao P w K mg base CX0 4 f fd ["book", "row"] (lz K C):=by
 refine F.ok ut (fun vs H Q E h=>?_) (fun cdv A outer s H vs Q E hr h=>?_)
 · obtain⟨_,_,_,_,_,rfl,_⟩:=h
   rfl
 · obtain⟨x,l,ss,bs,row,rfl,hbk,B,hl,hrow,hlen,q⟩:=h
   have hr1:=hr.mono (j:=1) (by omega)
   refine⟨_,ag (ax (df (N':=["shade", "book", "row"]) (pk:=[none,some 0,some 1]) rfl (cg.of (by rfl)) (a9 (el (pv 0) c hmS GS hr1 bS .nil aJ)) (fun s H ex=>au (i:=0) (by show(["shade", "book", "row"]:List Str).Nodup;decide +kernel) rfl (Or.inl rfl))
     (fun s H ex=>aM (aG:IxR _ (ot K)) (ar GW hr rfl mW kW bW .nil aJ (aa (pv 1) (aa (pv 2) (aa (pv 0) ad)))) (iW gn ah) (fun _ _=>rfl)))),?_⟩
   have hs:=aQ
   have hbk0:=hbk
   obtain⟨dx,t,d,so0,h1,h2,h3,h4,h5⟩:=hbk
   walk_at "dm"
   refine⟨dx,_,h1,cb (by decide +kernel) (by decide +kernel),x,ss,bs,rfl,hbk0,B,fun lo so hlo hpm hso=>?_⟩
   have Sa:af H (upd H lo (.lst (so.map V.str))):=af.updN hlo
   generalize hG:upd H lo (.lst (so.map V.str))=G at Sa
   have hGl:G lo=some (.lst (so.map V.str)):=by rw[←hG];exact ac
   have hsl:so.length=ss.length:=hpm.length_eq
   have hs12:=B.s12
   refine⟨lo,rfl,⟨_,SqL.of hGl⟩,fun D hD=>?_⟩
   refine gC (H0:=G) (az (SqL.of hGl)) (by rw[List.length_map];omega) (fun i xs σ' H'=>(∃ o,σ'=[o,some (.ref x),some (.ref l)])∧af G H'∧H' D=some (.lst xs)∧xs=((so.take i).map (aR (lkB ss bs) row)).map V.str∧xs.length=i)
     ⟨⟨none,rfl⟩,af.updN hD,ac,rfl,rfl⟩ (fun i xs σ' H' ⟨_,e1,_,_,e2⟩=>⟨e1,e2⟩) ?_ ?_
   · rintro i xs σ' H' y hi hy ⟨⟨o,rfl⟩,hS,hHD,rfl,hxl⟩ R hR
     rw[List.getElem?_map] at hy
     obtain⟨z,hz,rfl⟩:=Option.map_eq_some_iff.mp hy
     have hzs:z∈ss:=hpm.mem_iff.mp (List.mem_of_getElem? hz)
     walk_at "dm"
     refine⟨x,l,ss,bs,row,z,rfl,af.book (Sa.trans hS) hbk0,B,(Sa.trans hS).seq hl,hrow,hlen,hzs,fun p H2 hp S2 hH2=>⟨p,rfl,_,SqL.of hH2,_,ji _,?_⟩⟩
     rw[List.take_length]
     refine hR _ _ _ (S2 _ _ hHD) ⟨⟨_,rfl⟩,(hS.trans S2).step hD,ac,?_,by rw[List.length_append,hxl];rfl⟩
     rw[bM hz,List.map_append,List.map_append]
     rfl
   · rintro xs σ' H' ⟨_,hS,hHD,rfl,_⟩
     rw[List.length_map,List.take_of_length_le (Nat.le_refl _)] at hHD
     exact q D so H' (Sa.free hD) (Sa.trans hS) hpm hso hHD
def kP (K:PySem.W.Frag)(C:Addr):Sp:=lz K C
theorem qz:ap ["book", "row"] ["book", "row"] (ae eA):=⟨rfl,rfl,rfl,by decide +kernel,rfl,by decide +kernel,by decide +kernel⟩
theorem nC {C f fB fL fW:Addr}{fd fdB fdL fdW:FuncData}(F:Fun K "through" "through" eA f fd)
   (GB:ao P w K mg base CX0 2 fB fdB ["book", "row"] (rG K C))(kB:PySem.W.keepIn K (.ref fB)=true)(bB:ay K fdB ["book", "row"] [])(mB:mg "check_baths_of"=some (.ref fB))
   (GL:ao P w K mg base CX0 1 fL fdL ["row"] (sH K))(kL:PySem.W.keepIn K (.ref fL)=true)(bL:ay K fdL ["row"] [])(mL:mg "check_length"=some (.ref fL))
   (GW:ao P w K mg base CX0 4 fW fdW ["book", "row"] (lz K C))(kW:PySem.W.keepIn K (.ref fW)=true)(bW:ay K fdW ["book", "row"] [])(mW:mg "table_of"=some (.ref fW)) :
   ao P w K mg base CX0 5 f fd ["book", "row"] (kP K C):=by
 refine F.ok qz (fun vs H Q E h=>?_) (fun cdv A outer s H vs Q E hr h=>?_)
 · obtain⟨_,_,_,_,_,rfl,_⟩:=h
   rfl
 · obtain⟨x,l,ss,bs,row,rfl,hbk,B,hl,hrow,hlen,q⟩:=h
   have hr1:=hr.mono (j:=1) (by omega)
   have hr2:=hr.mono (j:=2) (by omega)
   refine⟨_,al (aO (ar GB hr2 rfl mB kB bB .nil aJ (aa (pv 0) (aa (pv 1) ad))))
     (al (aO (ar GL hr1 rfl mL kL bL .nil aJ (aa (pv 1) ad)))
     (ag (ax (ar GW hr rfl mW kW bW .nil aJ (aa (pv 0) (aa (pv 1) ad)))))),?_⟩
   walk_at "dm"
   exact⟨x,l,ss,bs,row,rfl,hbk,B,hl,hrow,l,_,rfl,hl,by rw[List.length_map];exact hlen,x,l,ss,bs,row,rfl,hbk,B,hl,hrow,hlen,q⟩
end

section
variable {P:Program}{w:World}{K:PySem.W.Frag}{mg:Str→Option Value}{base:Heap}
def uy (K:PySem.W.Frag):Sp:=fun vs H Q _=>∃ (cell mixed:Int) (m:Nat)(t:Addr)(ts:List Str),vs=[.int cell,.int m,.ref t,.int mixed]∧SqL K H t (ts.map V.str)∧m≤40∧ts.length≤8∧(mixed=0∨mixed=1) ∧
 ∀ p (row:List Str) H',H p=none→af H H'→H' p=some (.lst (row.map V.str))→row.length≤40→(ts≠[]→row.length=m)→(∀ n∈row,n∈ts)→Q (.ref p) H'
theorem uE:ap ["_law_cell", "_law_size", "_law_titles", "_law_mixed", "_law_drawn"] ["_law_cell", "_law_size", "_law_titles", "_law_mixed"] (ae pT):=⟨rfl,rfl,rfl,by decide +kernel,rfl,by decide +kernel,by decide +kernel⟩
theorem vR {f fD:Addr}{fd fdD:FuncData}(F:Fun K "_law_row" "_law_row" pT f fd)(T:Txt mg)(TM:mg "max"=none)(GD:ao P w K mg base CX0 1 fD fdD ["_law_cell", "_law_many", "_law_bound", "_law_mixed"] iL)(kD:PySem.W.keepIn K (.ref fD)=true)(bD:ay K fdD ["_law_cell", "_law_many", "_law_bound", "_law_mixed"] [])(mD:mg "_law_draws"=some (.ref fD)) :
   ao P w K mg base CX0 2 f fd ["_law_cell", "_law_size", "_law_titles", "_law_mixed"] (uy K):=by
 refine F.ok uE (fun vs H Q E h=>?_) (fun cdv A outer s H vs Q E hr h=>?_)
 · obtain⟨_,_,_,_,_,rfl,_⟩:=h
   rfl
 · obtain⟨cell,mixed,m,t,ts,rfl,ht,hm,hts,hmix,q⟩:=h
   refine⟨_,aj (aC (i:=4) uE.nd rfl (Or.inl rfl) (ar GD hr rfl mD kD bD .nil aJ (aa (pv 0) (aa (aw gk (pv 1) (av (fF rfl) (by rfl) T.min (by decide +kernel) (aa ah (aa (av aE (by rfl) T.len PySem.boot_len (aa (pv 2) ad)) ad)))) (aa (av (kF rfl) (by rfl) TM (by decide +kernel) (aa ah (aa (av aE (by rfl) T.len PySem.boot_len (aa (pv 2) ad)) ad))) (aa (pv 3) ad))))))
     (ag (ax (df (N':=["_law_k", "_law_titles"]) (pk:=[none,some 2]) rfl (cg.of (by rfl)) (a9 (pv 4)) (fun s H ex=>au (i:=0) (by show(["_law_k", "_law_titles"]:List Str).Nodup;decide +kernel) rfl (Or.inl rfl))
         (fun s H ex=>aM (aG:IxR _ (ot K)) (pv 1) (pv 0) (fun _ _=>rfl))))),?_⟩
   have hs:=aQ
   refine cut (fun σ' H'=>∃ (l:Addr)(os:List Int),σ'=[some (.int cell),some (.int m),some (.ref t),some (.int mixed),some (.ref l)]∧af H H'∧H' l=some (.lst (os.map V.int))∧os.length≤40∧(ts≠[]→os.length=m)∧∀ y∈os,0≤y∧y < ts.length) ?_ ?_
   · walk_at "dm"
     refine⟨_,.inl ht,?_⟩
     rw[List.length_map]
     by_cases h0:ts.length=0
     · rw[h0]
       refine⟨.inr ⟨by decide,by decide⟩,_,.inl ht,cell,0,1,mixed,?_,by decide,by decide,by decide,by decide,hmix,fun l H' hl S hH=>⟨l,rfl,S,[],hH,by decide,fun h=>absurd (List.length_eq_zero_iff.mp h0) h,fun y hy=>by cases hy⟩⟩
       rw[List.length_map,h0]
       simp
     · have e1:(if((ts.length:Nat):Int) < 1 then((ts.length:Nat):Int) else 1)=1:=if_neg (by omega)
       have e2:(if((ts.length:Nat):Int) > 1 then((ts.length:Nat):Int) else 1)=ts.length:=by split<;>omega
       rw[e1]
       refine⟨.inr ⟨by decide,by decide⟩,_,.inl ht,?_⟩
       rw[List.length_map,e2,Int.mul_one]
       refine⟨cell,m,ts.length,mixed,rfl,by omega,by omega,by omega,by omega,hmix,fun l H' hl S hH=>⟨l,rfl,S,_,hH,?_,fun _=>by rw[dE];omega,ib (by omega) _⟩⟩
       rw[dE];omega
   rintro σ1 H1 ⟨l,os,rfl,S1,hl,hos,hom,hor⟩
   walk_at "dm"
   refine⟨⟨_,SqL.of hl⟩,fun D hD=>?_⟩
   have ht1:=S1.seq ht
   refine cq (az (SqL.of hl)) (by rw[List.length_map];omega) hD (fun σ=>∃ o,σ=[o,some (.ref t)]) (fun k=>V.str (gF ts (os.getD k 0))) ⟨none,rfl⟩ ?_ ?_
   · rintro k x σ' H3 hk hx ⟨o,rfl⟩ hS3 R hR
     rw[List.getElem?_map] at hx
     obtain⟨y,hy,rfl⟩:=Option.map_eq_some_iff.mp hx
     have hyr:=hor y (List.mem_of_getElem? hy)
     walk_at "dm"
     refine⟨_,hS3.seq ht1,_,my hyr.1 (by omega),?_⟩
     have e:os.getD k 0=y:=by rw[List.getD_eq_getElem?_getD,hy];rfl
     have:=hR [some (V.int y),some (V.ref t)] ⟨_,rfl⟩
     rw[e] at this
     exact this
   · have e:(List.range (os.map V.int).length).map (fun k=>V.str (gF ts (os.getD k 0)))=(os.map (gF ts)).map V.str:=by
       rw[List.map_map]
       refine dF _ os _ _ (by rw[List.length_map]) fun k x hx=>?_
       rw[List.getD_eq_getElem?_getD,hx]
       rfl
     rw[e]
     refine q D (os.map (gF ts)) _ (S1.free hD) (S1.step (S1.free hD)) ac (by rw[List.length_map];exact hos) (fun h=>by rw[List.length_map];exact hom h) fun n hn=>?_
     obtain⟨y,hy,rfl⟩:=List.mem_map.mp hn
     have hyr:=hor y hy
     have:=mo (ws:=ts) hyr.1 (n:=ts.length) hyr.2 (Nat.le_refl _)
     rwa [List.take_length] at this
end

section
variable {P:Program}{w:World}{K:PySem.W.Frag}{mg:Str→Option Value}{base:Heap}
def lB (K:PySem.W.Frag):Sp:=fun vs H Q _=>∃ (d l:Addr)(ss ns row:List Str)(lk:Str→Str→Str) (z:Str),vs=[.ref d,.ref l,.str z]∧lW H d ss ns lk∧(∀ n∈ns,∀ z∈ss,lk n z∈ss)∧SqL K H l (row.map V.str)∧(∀ n∈row,n∈ns)∧z∈ss∧Q (.str (aR lk row z)) H
theorem iP:ap ["_law_tables_here", "_law_row_here", "_law_shade", "_law_at_here", "_law_bath"] ["_law_tables_here", "_law_row_here", "_law_shade"] (ae gf):=⟨rfl,rfl,rfl,by decide +kernel,rfl,by decide +kernel,by decide +kernel⟩
theorem qX {f:Addr}{fd:FuncData}(F:Fun K "_law_at_end" "_law_at_end" gf f fd):ao P w K mg base CX0 1 f fd ["_law_tables_here", "_law_row_here", "_law_shade"] (lB K):=by
 refine F.ok iP (fun vs H Q E h=>?_) (fun cdv A outer s H vs Q E hr h=>?_)
 · obtain⟨_,_,_,_,_,_,_,rfl,_⟩:=h
   rfl
 · obtain⟨d,l,ss,ns,row,lk,z,rfl,hG,hc,hl,hrow,hz,q⟩:=h
   have hu:(cu CX0 P w K mg base ["_law_tables_here", "_law_row_here", "_law_shade", "_law_at_here", "_law_bath"] "_law_at_end" (ae gf) f cdv A outer s H E).A.units+1 < cLine:=by
     have:=hr.units
     exact Nat.lt_of_le_of_lt (Nat.add_le_add_left (by decide) _) this
   refine⟨_,al (aC (i:=3) iP.nd rfl (Or.inl rfl) (pv 2))
     (al (bz PassesOwn.never rfl (a9 (pv 1)) (au (i:=4) iP.nd rfl (Or.inl rfl))
       (ag (aC (i:=3) iP.nd rfl (Or.inl rfl) (cp hu (cp hu (pv 0) (pv 4) (fun _ _=>rfl)) (pv 3) (fun _ _=>rfl)))))
     (ag (ax (pv 3)))),?_⟩
   walk_at "dm"
   refine⟨⟨_,hl⟩,?_⟩
   refine aU (H0:=H) (az hl) (fun i σ' H'=>∃ o,σ'=[some (.ref d),some (.ref l),some (.str z),some (.str (aR lk (row.take i) z)),o]∧H'=H) ⟨none,rfl,rfl⟩ (fun _ _ _ _ ⟨_,_,h⟩=>by rw[h];exact af.refl _) ?_ ?_
   · rintro i y σ H' hi hy ⟨o,rfl,rfl⟩
     rw[List.getElem?_map] at hy
     obtain⟨n,hn,rfl⟩:=Option.map_eq_some_iff.mp hy
     have hm:aR lk (row.take i) z∈ss:=dY hc _ z (fun n hn=>hrow n (List.mem_of_mem_take hn)) hz
     obtain⟨r,hg1,hg2⟩:=hG.get (hrow n (List.mem_of_getElem? hn)) hm
     walk_at "dm"
     refine⟨_,hg1,r,rfl,_,hg2,?_⟩
     rw[ef hn]
     exact⟨rfl,_,rfl⟩
   · rintro σ H' ⟨o,rfl,rfl⟩
     rw[List.length_map,List.take_of_length_le (Nat.le_refl _)]
     walk_at "dm"
     exact q
end

section
variable {P:Program}{w:World}{K:PySem.W.Frag}{mg:Str→Option Value}{base:Heap}
def itG (g:Str→Str):Nat→Str→Str
 | 0,z=>z
 | n+1,z=>g (itG g n z)
theorem eK (g:Str→Str) (m:Nat) (z:Str):∀ n,itG g (n+m) z=itG g n (itG g m z)
 | 0=>by rw[Nat.zero_add];rfl
 | n+1=>by
   rw[show n+1+m=(n+m)+1 by omega]
   show g (itG g (n+m) z)=g (itG g n (itG g m z))
   rw[eK g m z n]
theorem oB (g:Str→Str) (n:Nat) (z:Str):itG g n (g z)=g (itG g n z):=(eK g 1 z n).symm.trans rfl
structure cm (S:List Str)(g:Str→Str):Prop where
 nd:S.Nodup
 cl:∀ z∈S,g z∈S
 inj:∀ y∈S,∀ z∈S,g y=g z→y=z
section
variable {S:List Str}{g:Str→Str}
theorem cm.mem (p:cm S g){z:Str}(hz:z∈S):∀ n,itG g n z∈S
 | 0=>hz
 | n+1=>p.cl _ (p.mem hz n)
theorem cm.inj_it (p:cm S g){y z:Str}(hy:y∈S)(hz:z∈S):∀ n,itG g n y=itG g n z→y=z
 | 0,h=>h
 | n+1,h=>p.inj_it hy hz n (p.inj _ (p.mem hy n) _ (p.mem hz n) h)
theorem gQ {P:Nat→Prop}:∀ n,P n→∃ m,m≤n∧P m∧∀ j,j < m→¬P j:=by
 intro n
 induction n using Nat.strongRecOn with
 | _ n ih =>
   intro h
   by_cases k:∃ j,j < n∧P j
   · obtain⟨j,hj,hp⟩:=k
     obtain⟨m,h1,h2⟩:=ih j hj hp
     exact⟨m,by omega,h2⟩
   · exact⟨n,Nat.le_refl _,h,fun j hj hp=>k ⟨j,hj,hp⟩⟩
theorem cm.back (p:cm S g){z:Str}(hz:z∈S):∃ m,1≤m∧m≤S.length∧itG g m z=z:=by
 have h:∃ i j,i < j∧j≤S.length∧itG g i z=itG g j z:=by
   refine Classical.byContradiction fun k=>?_
   have hn:((List.range (S.length+1)).map fun i=>itG g i z).Nodup:=by
     refine List.pairwise_map.mpr ((List.pairwise_lt_range (n:=S.length+1)).imp_of_mem fun {i j} _ hj hij e=>k ⟨i,j,hij,?_,e⟩)
     have:=List.mem_range.mp hj
     omega
   have:=k8 hn (m:=S) fun x hx=>by
     obtain⟨i,_,rfl⟩:=List.mem_map.mp hx
     exact p.mem hz i
   rw[List.length_map,List.length_range] at this
   omega
 obtain⟨i,j,hij,hj,e⟩:=h
 refine⟨j - i,by omega,by omega,?_⟩
 have e2:itG g i (itG g (j - i) z)=itG g i z:=by rw[←eK,show i+(j - i)=j by omega,e]
 exact p.inj_it (p.mem hz _) hz i e2
noncomputable def per (g:Str→Str) (z:Str):Nat:=open Classical in if h:∃ m,1≤m∧itG g m z=z then Classical.choose (gQ (P:=fun m=>1≤m∧itG g m z=z) _ (Classical.choose_spec h)) else 0
theorem cm.per_is (p:cm S g){z:Str}(hz:z∈S):1≤per g z∧per g z≤S.length∧itG g (per g z) z=z∧∀ j,1≤j→itG g j z=z→per g z≤j:=by
 obtain⟨m,h1,h2,h3⟩:=p.back hz
 have h:∃ m,1≤m∧itG g m z=z:=⟨m,h1,h3⟩
 have e:per g z=Classical.choose (gQ (P:=fun m=>1≤m∧itG g m z=z) _ (Classical.choose_spec h)):=by unfold per;rw[dif_pos h]
 have hs:=Classical.choose_spec (gQ (P:=fun m=>1≤m∧itG g m z=z) _ (Classical.choose_spec h))
 rw[←e] at hs
 obtain⟨_,⟨a1,a2⟩,a3⟩:=hs
 have hmin:∀ j,1≤j→itG g j z=z→per g z≤j:=fun j hj hz=>Nat.le_of_not_lt fun k=>a3 j k ⟨hj,hz⟩
 exact⟨a1,Nat.le_trans (hmin m h1 h3) h2,a2,hmin⟩
theorem cm.per_g (p:cm S g){z:Str}(hz:z∈S):per g (g z)=per g z:=by
 obtain⟨a1,_,a3,a4⟩:=p.per_is hz
 obtain⟨b1,_,b3,b4⟩:=p.per_is (p.cl z hz)
 refine Nat.le_antisymm (b4 _ a1 (by rw[oB,a3])) (a4 _ b1 ?_)
 rw[oB] at b3
 exact p.inj _ (p.mem hz _) _ hz b3
theorem cm.per_it (p:cm S g){z:Str}(hz:z∈S):∀ n,per g (itG g n z)=per g z
 | 0=>rfl
 | n+1=>(p.per_g (p.mem hz n)).trans (p.per_it hz n)
theorem qV {z:Str}{m:Nat}(h:itG g m z=z):∀ k,itG g (k*m) z=z
 | 0=>by rw[Nat.zero_mul];rfl
 | k+1=>by rw[Nat.succ_mul,eK,h,qV h k]
theorem cm.circle (p:cm S g){z:Str}(hz:z∈S):per g z≤(S.filter fun y=>decide (per g y=per g z)).length:=by
 obtain⟨a1,_,a3,a4⟩:=p.per_is hz
 have hn:((List.range (per g z)).map fun i=>itG g i z).Nodup:=by
   refine List.pairwise_map.mpr ((List.pairwise_lt_range (n:=per g z)).imp_of_mem fun {i j} _ hj hij e=>?_)
   have hj':=List.mem_range.mp hj
   have e2:itG g i (itG g (j - i) z)=itG g i z:=by rw[←eK,show i+(j - i)=j by omega,←e]
   have:=a4 (j - i) (by omega) (p.inj_it (p.mem hz _) hz i e2)
   omega
 have:=k8 hn (m:=S.filter fun y=>decide (per g y=per g z)) fun x hx=>by
   obtain⟨i,_,rfl⟩:=List.mem_map.mp hx
   exact List.mem_filter.mpr ⟨p.mem hz i,decide_eq_true (p.per_it hz i)⟩
 rw[List.length_map,List.length_range] at this
 exact this
end
theorem jr (p:Str→Bool):∀ S:List Str,(S.filter p).length+(S.filter fun y=>!p y).length=S.length
 | []=>rfl
 | a::S=>by
   have:=jr p S
   cases h:p a<;>simp only[List.filter_cons,h,List.length_cons,if_true,Bool.not_true,Bool.not_false,Bool.false_eq_true,if_false]<;>omega
theorem jR (f:Str→Nat):∀ (D:List Nat)(S:List Str),D.Nodup→(D.map fun d=>(S.filter fun y=>decide (f y=d)).length).sum≤S.length
 | [],S,_=>by simp
 | d::D,S,hn=>by
   have hn':=List.nodup_cons.mp hn
   rw[List.map_cons,List.sum_cons]
   have ih:=jR f D (S.filter fun y=>!decide (f y=d)) hn'.2
   have e:(D.map fun d'=>(S.filter fun y=>decide (f y=d')).length)=D.map fun d'=>((S.filter fun y=>!decide (f y=d)).filter fun y=>decide (f y=d')).length:=by
     refine List.map_congr_left fun d' hd'=>?_
     rw[List.filter_filter]
     congr 1
     refine List.filter_congr fun y _=>?_
     by_cases h:f y=d'
     · have:¬f y=d:=fun e=>hn'.1 (by rw[←e,h];exact hd')
       rw[decide_eq_true h,decide_eq_false this];rfl
     · rw[decide_eq_false h];rfl
   rw[e]
   have h2:(S.filter fun y=>decide (f y=d)).length+(S.filter fun y=>!decide (f y=d)).length=S.length:=jr _ S
   omega
def chk:List Nat→Nat→Nat→Bool
 | [],_,acc=>decide (acc≤60)
 | d::r,b,acc=>chk r b acc&&(if d≤b then chk r (b - d) (Nat.lcm acc d) else true)
theorem ol:∀ (l:List Nat) (b acc:Nat),chk l b acc=true→∀ D:List Nat,D.Sublist l→D.sum≤b→D.foldl Nat.lcm acc≤60
 | [],b,acc,h,D,hs,_=>by
   have:=List.sublist_nil.mp hs
   subst this
   exact of_decide_eq_true h
 | d::r,b,acc,h,D,hs,hb=>by
   have h':(chk r b acc&&(if d≤b then chk r (b - d) (Nat.lcm acc d) else true))=true:=h
   rw[Bool.and_eq_true] at h'
   cases hs with
   | cons _ hs=>exact ol r b acc h'.1 D hs hb
   | cons_cons _ hs =>
     rename_i D'
     rw[List.sum_cons] at hb
     rw[if_pos (by omega)] at h'
     exact ol r (b - d) (Nat.lcm acc d) h'.2 D' hs (by omega)
theorem wj:chk (List.range' 1 12) 12 1=true:=by decide +kernel
theorem oU:∀ (D:List Nat) (acc:Nat),acc ∣ D.foldl Nat.lcm acc∧∀ d∈D,d ∣ D.foldl Nat.lcm acc
 | [],acc=>⟨Nat.dvd_refl _,fun _ h=>by cases h⟩
 | d::D,acc=>by
   obtain⟨h1,h2⟩:=oU D (Nat.lcm acc d)
   refine⟨Nat.dvd_trans (Nat.dvd_lcm_left _ _) h1,fun x hx=>?_⟩
   rcases List.mem_cons.mp hx with rfl | hx
   · exact Nat.dvd_trans (Nat.dvd_lcm_right _ _) h1
   · exact h2 x hx
theorem lcm_pos:∀ (D:List Nat) (acc:Nat),1≤acc→(∀ d∈D,1≤d)→1≤D.foldl Nat.lcm acc
 | [],_,h,_=>h
 | d::D,acc,h,hd=>lcm_pos D _ (Nat.lcm_pos h (hd d List.mem_cons_self)) fun x hx=>hd x (List.mem_cons_of_mem _ hx)
theorem cm.sixty {S:List Str}{g:Str→Str}(p:cm S g)(h12:S.length≤12):∃ N,1≤N∧N≤60∧∀ z∈S,itG g N z=z:=by
 have hsub:((List.range' 1 12).filter fun d=>open Classical in decide (∃ z∈S,per g z=d)).Sublist (List.range' 1 12):=List.filter_sublist
 refine⟨((List.range' 1 12).filter fun d=>open Classical in decide (∃ z∈S,per g z=d)).foldl Nat.lcm 1,lcm_pos _ _ (Nat.le_refl 1) fun d hd=>?_,ol _ 12 1 wj _ hsub ?_,fun z hz=>?_⟩
 · have:=(List.mem_range'_1.mp (List.mem_filter.mp hd).1).1
   exact this
 · have hn:((List.range' 1 12).filter fun d=>open Classical in decide (∃ z∈S,per g z=d)).Nodup:=(List.nodup_range').sublist hsub
   have h1:=jR (per g) _ S hn
   have h2:∀ D:List Nat,(∀ d∈D,∃ z∈S,per g z=d)→D.sum≤(D.map fun d=>(S.filter fun y=>decide (per g y=d)).length).sum:=by
     intro D
     induction D with
     | nil=>intro _;exact Nat.le_refl _
     | cons d D ih =>
       intro h
       obtain⟨z,hz,rfl⟩:=h d List.mem_cons_self
       rw[List.map_cons,List.sum_cons,List.sum_cons]
       have:=p.circle hz
       have:=ih fun x hx=>h x (List.mem_cons_of_mem _ hx)
       omega
   have h3:=h2 ((List.range' 1 12).filter fun d=>open Classical in decide (∃ z∈S,per g z=d)) fun d hd=>of_decide_eq_true (List.mem_filter.mp hd).2
   omega
 · obtain⟨a1,a2,a3,_⟩:=p.per_is hz
   have hm:per g z∈(List.range' 1 12).filter fun d=>open Classical in decide (∃ z∈S,per g z=d):=List.mem_filter.mpr ⟨List.mem_range'_1.mpr ⟨a1,by omega⟩,decide_eq_true ⟨z,hz,rfl⟩⟩
   obtain⟨k,hk⟩:=(oU _ 1).2 _ hm
   rw[hk,Nat.mul_comm]
   exact qV a3 k
abbrev ltN (a b:Str):Prop:=a.cps.toList < b.cps.toList
theorem sX {a:Str}:¬ltN a a:=List.lt_irrefl _
theorem pL {l:List Str}(h:PyProof.Rows.sortedS l=true)(hn:l.Nodup):l.Pairwise ltN :=
 ((eN l h).and hn).imp fun {a b} k=>Classical.byContradiction fun c=>k.2 (mI k.1 (lQ.mpr c))
theorem rT {so:List Str}(hd:so.Nodup)(g:Str→V){z:Str}(hz:z∈so):b7 (b6 so (so.map g)) (Sum.inr z)=some (g z):=by
 obtain⟨i,hi⟩:=List.getElem?_of_mem hz
 exact cx _ _ i z _ hd hi (by rw[List.getElem?_map,hi];rfl)
def lH (ss:List Str)(g:Str→Str) (k:Nat):Prop:=(∀ z∈ss,itG g (k+1) z=z)∧∀ j,j < k→¬∀ z∈ss,itG g (j+1) z=z
def mv (K:PySem.W.Frag):Sp:=fun vs H Q _=>∃ (l1 l2:Addr)(so:List Str)(g:Str→Str),vs=[.ref l1,.ref l2]∧SqL K H l1 (so.map V.str)∧SqL K H l2 ((so.map g).map V.str)∧so.Pairwise ltN∧so.length≤12∧((∀ y∈so,∀ z∈so,g y=g z→y=z)→∀ H',af H H'→Q .non H')∧(∀ a b t H',a∈so→b∈so→ltN a b→g a=g b→af H H'→H' t=some (.tup [.str a,.str b])→Q (.ref t) H')
def ky (K:PySem.W.Frag):Sp:=fun vs H Q _=>∃ (l1 l2:Addr)(so:List Str)(g:Str→Str),vs=[.ref l1,.ref l2]∧SqL K H l1 (so.map V.str)∧SqL K H l2 ((so.map g).map V.str)∧cm so g∧so.length≤12∧∀ (k:Nat) H',k≤59→lH so g k→af H H'→Q (.int k) H'
def oI (K:PySem.W.Frag)(CB:Addr):Sp:=fun vs H Q _=>∃ (x l:Addr)(ss:List Str)(bs:List (Str×List Str))(row:List Str),vs=[.ref x,.ref l]∧br H CB x ss bs∧aP ss bs∧H l=some (.lst (row.map V.str))∧(∀ n∈row,n∈bs.map (·.1))∧row.length≤40 ∧
 (∀ (a b:Str)(t p:Addr) H',a∈ss→b∈ss→ltN a b→aR (lkB ss bs) row a=aR (lkB ss bs) row b→af H H'→H' t=some (.tup [.non,.ref p])→H' p=some (.tup [.str a,.str b])→Q (.ref t) H') ∧
 (∀ (k:Nat)(t r:Addr) H',k≤59→lH ss (aR (lkB ss bs) row) k→af H H'→H r=none→H' t=some (.tup [.ref r,.non])→H' r=some (.lst ((List.replicate k row).flatten.map V.str))→Q (.ref t) H')
theorem lq {so:List Str}{g:Str→Str}(hn:(so.map g).Nodup){y z:Str}(hy:y∈so)(hz:z∈so)(e:g y=g z):y=z:=by
 have hp:=List.pairwise_map.mp hn
 obtain⟨i,hi⟩:=List.getElem?_of_mem hy
 obtain⟨j,hj⟩:=List.getElem?_of_mem hz
 have hil:=(List.getElem?_eq_some_iff.mp hi)
 have hjl:=(List.getElem?_eq_some_iff.mp hj)
 obtain⟨hil,rfl⟩:=hil
 obtain⟨hjl,rfl⟩:=hjl
 rcases Nat.lt_trichotomy i j with h | h | h
 · exact absurd e (List.pairwise_iff_getElem.mp hp i j hil hjl h)
 · subst h;rfl
 · exact absurd e.symm (List.pairwise_iff_getElem.mp hp j i hjl hil h)
end

section
variable {P:Program}{w:World}{K:PySem.W.Frag}{mg:Str→Option Value}{base:Heap}

theorem gB:ap ["shades", "outs", "sources", "shade", "out"] ["shades", "outs"] (ae eS):=⟨rfl,rfl,rfl,by decide +kernel,rfl,by decide +kernel,by decide +kernel⟩
theorem pY {f:Addr}{fd:FuncData}(F:Fun K "brought_together" "brought_together" eS f fd)
   (T:Txt mg)  :
   ao P w K mg base CX0 1 f fd ["shades", "outs"] (mv K):=by
 refine F.ok gB (fun vs H Q E h=>?_) (fun cdv A outer s H vs Q E hr h=>?_)
 · obtain⟨_,_,_,_,rfl,_⟩:=h
   rfl
 · obtain⟨l1,l2,so,g,rfl,hl1,hl2,hso,h12,q1,q2⟩:=h
   have hu:(cu CX0 P w K mg base ["shades", "outs", "sources", "shade", "out"] "brought_together" (ae eS) f cdv A outer s H E).A.units+1 < cLine:=by
     have:=hr.units
     exact Nat.lt_of_le_of_lt (Nat.add_le_add_left (by decide) _) this
   refine⟨_,(aj (aC (i:=2) gB.nd rfl (Or.inl rfl) fb)
     (aj (bz PassesOwn.never rfl (ug (by rfl) T.zip (aa (pv 0) (aa (pv 1) ad))) (d7 (n:=2) rfl (aX (au (i:=3) gB.nd rfl (Or.inl rfl)) (aX (au (i:=4) gB.nd rfl (Or.inl rfl)) dh))) (aj (aZ (ia (qK hu (pv 4) (pv 2))) (ag (ax (du (aa (cp hu (pv 2) (pv 4) (fun _ _=>rfl)) (aa (pv 3) ad))))) aB)
     (ag (gw hu (pv 2) (pv 4) (pv 3) rfl))))
     (ag (ax gR)))),?_⟩
   have hs:=aQ
   have hsn:so.Nodup:=hso.imp fun {a b} h e=>by rw[e] at h;exact sX h
   refine bj (fun σ' H'=>∃ d,H d=none∧σ'=[some (.ref l1),some (.ref l2),some (.ref d),none,none]∧H'=upd H d (.dK [])) (fun R hR=>?_) ?_
   · walk_at "dm"
     exact fun p hp=>hR _ _ ⟨p,hp,rfl,rfl⟩
   rintro σ1 H1 ⟨d,hd,rfl,rfl⟩
   have S1:af H (upd H d (.dK [])):=af.updN hd
   refine bj (fun σ' H'=>(∀ y∈so,∀ z∈so,g y=g z→y=z)∧af H H') (fun R hR=>?_) ?_
   · walk_at "dm"
     refine⟨⟨_,S1.seq hl1⟩,⟨_,S1.seq hl2⟩,?_⟩
     refine sN (H0:=H) hl1 hl2 (by simp) (fun i σ' H'=>∃ o3 o4,σ'=[some (.ref l1),some (.ref l2),some (.ref d),o3,o4]∧af H H'∧H' d=some (.dK (b6 ((so.take i).map g) ((so.take i).map V.str)))∧((so.take i).map g).Nodup) ⟨none,none,rfl,S1,ac,List.nodup_nil⟩ (fun _ _ _ _ ⟨_,_,_,h,_⟩=>h) ?_ ?_
     · rintro i x y T σ' H' hx hy hT ⟨o3,o4,rfl,S,hD,hn⟩ R2 hR2
       rw[List.getElem?_map] at hx
       obtain⟨z,hz,rfl⟩:=Option.map_eq_some_iff.mp hx
       have ey:y=V.str (g z):=by rw[List.getElem?_map,List.getElem?_map,hz] at hy;exact(Option.some.inj hy).symm
       subst ey
       have hD2:upd H' T (.tup [V.str z,V.str (g z)]) d=some (.dK (b6 ((so.take i).map g) ((so.take i).map V.str))):=by rw[ai (ak hD hT)];exact hD
       have hT2:upd H' T (.tup [V.str z,V.str (g z)]) T=some (.tup [V.str z,V.str (g z)]):=ac
       have S2:=S.trans (af.updN (o:=.tup [V.str z,V.str (g z)]) hT)
       generalize upd H' T (.tup [V.str z,V.str (g z)])=G at *
       refine⟨T,_,rfl,SqT.of hT2,rfl,?_⟩
       walk_at "dm"
       refine bj (fun σ' H'=>σ'=[some (.ref l1),some (.ref l2),some (.ref d),some (.str z),some (.str (g z))]∧H'=G∧g z∉(so.take i).map g) (fun R3 hR3=>?_) ?_
       · walk_at "dm"
         by_cases hk:g z∈(so.take i).map g
         · obtain⟨j,hj⟩:=List.getElem?_of_mem hk
           have hj0:=hj
           rw[List.getElem?_map] at hj
           obtain⟨y,hy0,e⟩:=Option.map_eq_some_iff.mp hj
           have hv:b7 (b6 ((so.take i).map g) ((so.take i).map V.str)) (Sum.inr (g z))=some (V.str y):=cx _ _ j _ _ hn hj0 (by rw[List.getElem?_map,hy0];rfl)
           rw[List.getElem?_take] at hy0
           have hji:j < i:=by
             by_cases h:j < i
             · exact h
             · rw[if_neg h] at hy0;cases hy0
           rw[if_pos hji] at hy0
           have hlt:ltN y z:=by
             obtain⟨h1,rfl⟩:=List.getElem?_eq_some_iff.mp hy0
             obtain⟨h2,rfl⟩:=List.getElem?_eq_some_iff.mp hz
             exact List.pairwise_iff_getElem.mp hso j i h1 h2 hji
           have hG:e5 G d (V.str (g z)) (some (V.str y)):=by rw[←hv];exact e5.k (k:=Sum.inr (g z)) hD2
           refine⟨some (V.str y),hG,bn (fun _=>⟨_,hG,by omega,fun t ht=>q2 y z t _ (List.mem_of_getElem? hy0) (List.mem_of_getElem? hz) hlt e (S2.trans (af.updN ht)) ac⟩) (fun h=>absurd rfl h)⟩
         · have hv:b7 (b6 ((so.take i).map g) ((so.take i).map V.str)) (Sum.inr (g z))=none:=bX _ _ _ hk
           have hG:e5 G d (V.str (g z)) none:=by rw[←hv];exact e5.k (k:=Sum.inr (g z)) hD2
           exact⟨none,hG,bn (fun h=>by cases h) (fun _=>hR3 _ _ ⟨rfl,rfl,hk⟩)⟩
       rintro σ3 H3 ⟨rfl,rfl,hk⟩
       have hv:b7 (b6 ((so.take i).map g) ((so.take i).map V.str)) (Sum.inr (g z))=none:=bX _ _ _ hk
       walk_at "dm"
       refine⟨_,sy.k (k:=Sum.inr (g z)) hD2 (by unfold b6;simp only[List.length_zip,List.length_map,List.length_take];omega),hR2 _ _ ⟨_,_,rfl,S2.step hd,?_,?_⟩⟩
       · rw[ac,ej _ hv,bM hz,List.map_append,List.map_append]
         exact congrArg (fun u=>some (HO.dK u)) (fu _ _ (by simp)).symm
       · rw[bM hz,List.map_append]
         exact List.nodup_append.mpr ⟨hn,by simp,fun a ha b hb=>by
           rw[List.mem_singleton.mp hb]
           exact fun e=>hk (by rw[←e];exact ha)⟩
     · rintro σ' H' ⟨o3,o4,rfl,S,hD,hn⟩
       refine hR _ _ ⟨fun y hy z hz e=>?_,S⟩
       rw[List.length_map,List.take_of_length_le (Nat.le_refl _)] at hn
       exact lq hn hy hz e
   rintro σ2 H2 ⟨hi,S⟩
   walk_at "dm"
   exact q1 hi _ S
end

section
variable {P:Program}{w:World}{K:PySem.W.Frag}{mg:Str→Option Value}{base:Heap}

theorem dG:ap ["shades", "outs", "comes_out", "table", "times"] ["shades", "outs"] (ae dM):=⟨rfl,rfl,rfl,by decide +kernel,rfl,by decide +kernel,by decide +kernel⟩
theorem nY {f:Addr}{fd:FuncData}(F:Fun K "times_to_go" "times_to_go" dM f fd)
   (T:Txt mg)  :
   ao P w K mg base CX0 1 f fd ["shades", "outs"] (ky K):=by
 refine F.ok dG (fun vs H Q E h=>?_) (fun cdv A outer s H vs Q E hr h=>?_)
 · obtain⟨_,_,_,_,rfl,_⟩:=h
   rfl
 · obtain⟨l1,l2,so,g,rfl,hl1,hl2,pe,h12,q⟩:=h
   have hu:(cu CX0 P w K mg base ["shades", "outs", "comes_out", "table", "times"] "times_to_go" (ae dM) f cdv A outer s H E).A.units+1 < cLine:=by
     have:=hr.units
     exact Nat.lt_of_le_of_lt (Nat.add_le_add_left (by decide) _) this
   refine⟨_,(aj (aC (i:=2) dG.nd rfl (Or.inr rfl) (jj rfl (by rfl) T.dict (by rfl) T.zip (aa (pv 0) (aa (pv 1) ad))))
     (aj (aC (i:=3) dG.nd rfl (Or.inl rfl) (pv 1))
     (aj (aC (i:=4) dG.nd rfl (Or.inl rfl) ah)
     (aj (nb PassesOwn.never (aF (vk (Nat.lt_of_succ_lt hu)) (pv 3) (pv 0) (aK _)) (aj (iE (i:=3) (N':=["shade", "comes_out"]) (pk:=[none,some 2]) dG.nd rfl (Or.inl rfl) rfl (cg.of (by rfl)) (a9 (pv 3)) (fun s H ex=>(au (i:=0) (by show(["shade", "comes_out"]:List Str).Nodup;decide +kernel) rfl (Or.inl rfl))) (fun s H ex=>(cp hu (pv 1) (pv 0) (fun _ _=>rfl))))
     (ag (vJ (i:=4) dG.nd rfl (Or.inl rfl) ah u6))))
     (ag (ax (pv 4))))))),?_⟩
   have hs:=aQ
   refine bj (fun σ' H'=>∃ d,σ'=[some (.ref l1),some (.ref l2),some (.ref d),none,none]∧af H H'∧H' d=some (.dK (b6 so ((so.map g).map V.str)))) (fun R hR=>?_) ?_
   · walk_at "dm"
     refine⟨so,hl1,_,hl2,by simp,by omega,fun p hp=>hR _ _ ⟨p,rfl,af.updN hp,?_⟩⟩
     rw[ac,jx pe.nd]
   rintro σ1 H1 ⟨d,rfl,S1,hd⟩
   refine bj (fun σ' H'=>σ'=[some (.ref l1),some (.ref l2),some (.ref d),some (.ref l2),none]∧H'=H1) (fun R hR=>?_) ?_
   · walk_at "dm"
     exact hR _ _ ⟨rfl,rfl⟩
   rintro σ2 H2 ⟨rfl,rfl⟩
   refine bj (fun σ' H'=>σ'=[some (.ref l1),some (.ref l2),some (.ref d),some (.ref l2),some (.int 0)]∧H'=H2) (fun R hR=>?_) ?_
   · walk_at "dm"
     exact hR _ _ ⟨rfl,rfl⟩
   rintro σ3 H3 ⟨rfl,rfl⟩
   obtain⟨N,hN1,hN60,hN⟩:=pe.sixty h12
   refine bj (fun σ' H'=>∃ (k:Nat)(o:Option V),σ'=[some (.ref l1),some (.ref l2),some (.ref d),o,some (.int k)]∧af H H'∧k≤59∧lH so g k) (fun R hR=>?_) ?_
   · unfold qG
     obtain⟨Wp,hWp⟩:∃ Wp:Nat→St→Hp→Prop,∀ m σ' H',Wp m σ' H'↔∃ (k:Nat)(t:Addr),σ'=[some (.ref l1),some (.ref l2),some (.ref d),some (.ref t),some (.int k)]∧af H H'∧H' d=some (.dK (b6 so ((so.map g).map V.str)))∧SqL K H' t ((so.map (itG g (k+1))).map V.str)∧m=N - k∧k < N∧∀ j,j < k→¬∀ z∈so,itG g (j+1) z=z:=⟨_,fun _ _ _=>Iff.rfl⟩
     refine⟨Wp,⟨_,(hWp _ _ _).mpr ⟨0,l2,rfl,S1,hd,S1.seq hl2,rfl,hN1,fun j h=>by omega⟩⟩,?_⟩
     intro m σ' H4 hw
     obtain⟨k,t,rfl,S4,hd4,ht4,hm,hkN,hk⟩:=(hWp _ _ _).mp hw
     walk_at "dm"
     have hfl:∀ l:List Str,(l.map V.str).all cX=true:=fun l=>by rw[List.all_eq_true];intro x hx;obtain⟨y,_,rfl⟩:=List.mem_map.mp hx;rfl
     refine⟨_,ht4,_,S4.seq hl1,.inl ⟨hfl _,hfl _⟩,?_⟩
     rw[kC]
     refine bn (fun hne=>?_) (fun heq=>?_)
     · have hne':so.map (itG g (k+1))≠so:=by simpa using hne
       have hnid:¬∀ z∈so,itG g (k+1) z=z:=fun h=>hne' ((List.map_congr_left (g:=id) fun z hz=>h z hz).trans (List.map_id so))
       have hkN2:k+1 < N:=by
         refine Nat.lt_of_le_of_ne hkN fun e=>hnid ?_
         rw[e]
         exact hN
       refine⟨fun σ' H'=>∃ m',m' < m∧Wp m' σ' H',fun _ _ h=>h,?_⟩
       refine bj (fun σ' H'=>∃ t2,σ'=[some (.ref l1),some (.ref l2),some (.ref d),some (.ref t2),some (.int k)]∧af H4 H'∧H' t2=some (.lst ((so.map (itG g (k+2))).map V.str))) (fun R hR=>?_) ?_
       · walk_at "dm"
         refine⟨⟨_,ht4⟩,fun D hD=>?_⟩
         refine gC (H0:=H4) (az ht4) (by rw[List.length_map,List.length_map];omega) (fun i xs σ' H'=>(∃ o,σ'=[o,some (.ref d)])∧af H4 H'∧H' D=some (.lst xs)∧xs=((so.take i).map (itG g (k+2))).map V.str∧xs.length=i)
           ⟨⟨none,rfl⟩,af.updN hD,ac,rfl,rfl⟩ (fun i xs σ' H' ⟨_,e1,_,_,e2⟩=>⟨e1,e2⟩) ?_ ?_
         · rintro i xs σ' H' y hi hy ⟨⟨o,rfl⟩,hS,hHD,rfl,hxl⟩ R2 hR2
           rw[List.getElem?_map] at hy
           obtain⟨z1,hz1,rfl⟩:=Option.map_eq_some_iff.mp hy
           rw[List.getElem?_map] at hz1
           obtain⟨z,hz,rfl⟩:=Option.map_eq_some_iff.mp hz1
           have hzs:=List.mem_of_getElem? hz
           have hG:e5 H' d (V.str (itG g (k+1) z)) (some (V.str (g (itG g (k+1) z)))):=by
             have hv:=rT pe.nd (fun z=>V.str (g z)) (pe.mem hzs (k+1))
             rw[←hv]
             have:=e5.k (k:=Sum.inr (itG g (k+1) z)) (hS _ _ hd4)
             rw[List.map_map] at this
             exact this
           walk_at "dm"
           refine⟨_,hG,hR2 _ _ _ hHD ⟨⟨_,rfl⟩,hS.step hD,ac,?_,by rw[List.length_append,hxl];rfl⟩⟩
           rw[bM hz,List.map_append,List.map_append]
           rfl
         · rintro xs σ' H' ⟨_,hS,hHD,rfl,_⟩
           rw[List.length_map,List.length_map,List.take_of_length_le (Nat.le_refl _)] at hHD
           exact hR _ _ ⟨D,rfl,hS,hHD⟩
       rintro σ5 H5 ⟨t2,rfl,S5,ht2⟩
       walk_at "dm"
       refine⟨N - (k+1),by omega,(hWp _ _ _).mpr ⟨k+1,t2,rfl,S4.trans S5,S5 _ _ hd4,SqL.of ht2,rfl,hkN2,fun j hj=>?_⟩⟩
       by_cases e:j=k
       · rw[e];exact hnid
       · exact hk j (by omega)
     · have heq':so.map (itG g (k+1))=so:=by simpa using heq
       refine hR _ _ ⟨k,_,rfl,S4,by omega,fun z hz=>?_,hk⟩
       have:=List.map_inj_left.mp (heq'.trans (List.map_id so).symm) z hz
       exact this
   rintro σ4 H4 ⟨k,o,rfl,S,hk,hL⟩
   walk_at "dm"
   exact q k _ hk hL S
end

section
variable {P:Program}{w:World}{K:PySem.W.Frag}{mg:Str→Option Value}{base:Heap}

theorem iV:ap ["book", "row", "outs", "shades", "pair"] ["book", "row"] (ae g7):=⟨rfl,rfl,rfl,by decide +kernel,rfl,by decide +kernel,by decide +kernel⟩
theorem rf {f fTH fBT fTG:Addr}{fd fdTH fdBT fdTG:FuncData}{CB:Addr}(F:Fun K "taken_out" "taken_out" g7 f fd)
   (T:Txt mg)(cB:Cls K CB)
   (GMS:ao P w K mg base CX0 1 fMS fdMS ["self"] (fP CB))(hmMS:bQ K CB "shades" fMS)(bMS:ay K fdMS ["self"] [])
   (GTH:ao P w K mg base CX0 5 fTH fdTH ["book", "row"] (kP K CB))(kTH:PySem.W.keepIn K (.ref fTH)=true)(bTH:ay K fdTH ["book", "row"] [])(mTH:mg "through"=some (.ref fTH))
   (GBT:ao P w K mg base CX0 1 fBT fdBT ["shades", "outs"] (mv K))(kBT:PySem.W.keepIn K (.ref fBT)=true)(bBT:ay K fdBT ["shades", "outs"] [])(mBT:mg "brought_together"=some (.ref fBT))
   (GTG:ao P w K mg base CX0 1 fTG fdTG ["shades", "outs"] (ky K))(kTG:PySem.W.keepIn K (.ref fTG)=true)(bTG:ay K fdTG ["shades", "outs"] [])(mTG:mg "times_to_go"=some (.ref fTG)) :
   ao P w K mg base CX0 6 f fd ["book", "row"] (oI K CB):=by
 refine F.ok iV (fun vs H Q E h=>?_) (fun cdv A outer s H vs Q E hr h=>?_)
 · obtain⟨_,_,_,_,_,rfl,_⟩:=h
   rfl
 · obtain⟨x,l,ss,bs,row,rfl,hbk,B,hl,hrow,hlen,q1,q2⟩:=h
   have hr1:=hr.mono (j:=1) (by omega)
   have hr5:=hr.mono (j:=5) (by omega)
   refine⟨_,(aj (aC (i:=2) iV.nd rfl (Or.inl rfl) (ar GTH hr5 rfl mTH kTH bTH .nil aJ (aa (pv 0) (aa (pv 1) ad))))
     (aj (aC (i:=3) iV.nd rfl (Or.inl rfl) (el (pv 0) cB hmMS GMS hr1 bMS .nil aJ))
     (aj (aC (i:=4) iV.nd rfl (Or.inl rfl) (ar GBT hr1 rfl mBT kBT bBT .nil aJ (aa (pv 3) (aa (pv 2) ad))))
     (aj (aZ (aF lS (pv 4) gR (aK _)) (ag (ax (du (aa gR (aa (pv 4) ad))))) aB)
     (ag (ax (du (aa (aw ra (pv 1) (ar GTG hr1 rfl mTG kTG bTG .nil aJ (aa (pv 3) (aa (pv 2) ad)))) (aa gR ad))))))))),?_⟩
   have hs:=aQ
   have hs12:=B.s12
   have hbk0:=hbk
   obtain⟨dx,bt,bd,bo,hi1,hi2,hi3,hi4,hi5⟩:=hbk
   refine bj (fun σ' H'=>∃ (lo:Addr)(so:List Str),σ'=[some (.ref x),some (.ref l),some (.ref lo),none,none]∧af H H'∧H' lo=some (.lst ((so.map (aR (lkB ss bs) row)).map V.str))∧so.Perm ss∧PyProof.Rows.sortedS so=true) (fun R hR=>?_) ?_
   · walk_at "dm"
     exact⟨x,l,ss,bs,row,rfl,hbk0,B,SqL.of hl,hrow,hlen,fun p so H' hp S hpm hso h=>hR _ _ ⟨p,so,rfl,S,h,hpm,hso⟩⟩
   rintro σ1 H1 ⟨lo,so,rfl,S1,hlo,hpm,hso⟩
   have hsn:so.Nodup:=hpm.nodup_iff.mpr B.snd
   have hslt:=pL hso hsn
   have hsl:so.length=ss.length:=hpm.length_eq
   refine bj (fun σ' H'=>∃ (ls:Addr),σ'=[some (.ref x),some (.ref l),some (.ref lo),some (.ref ls),none]∧af H H'∧H' lo=some (.lst ((so.map (aR (lkB ss bs) row)).map V.str))∧H' ls=some (.lst (so.map V.str))) (fun R hR=>?_) ?_
   · walk_at "dm"
     refine⟨dx,_,S1 _ _ hi1,cb (by decide +kernel) (by decide +kernel),x,ss,bs,rfl,af.book S1 hbk0,B,fun p so2 hp hpm2 hso2=>?_⟩
     have e:so2=so:=dk hso2 hso (hpm2.trans hpm.symm)
     subst e
     have Sp:=af.updN (o:=.lst (so2.map V.str)) hp
     exact hR _ _ ⟨p,rfl,S1.trans Sp,Sp _ _ hlo,ac⟩
   rintro σ2 H2 ⟨ls,rfl,S2,hlo2,hls2⟩
   have hcl:=dY (cR B) row
   have hGo:af H2 H2:=af.refl _
   refine bj (fun σ' H'=>af H H'∧H' l=some (.lst (row.map V.str))∧H' lo=some (.lst ((so.map (aR (lkB ss bs) row)).map V.str))∧H' ls=some (.lst (so.map V.str))∧((σ'=[some (.ref x),some (.ref l),some (.ref lo),some (.ref ls),some .non]∧∀ y∈so,∀ z∈so,aR (lkB ss bs) row y=aR (lkB ss bs) row z→y=z)∨∃ a b p,a∈so∧b∈so∧ltN a b∧aR (lkB ss bs) row a=aR (lkB ss bs) row b∧H' p=some (.tup [.str a,.str b])∧σ'=[some (.ref x),some (.ref l),some (.ref lo),some (.ref ls),some (.ref p)])) (fun R hR=>?_) ?_
   · walk_at "dm"
     refine⟨ls,lo,so,aR (lkB ss bs) row,rfl,SqL.of hls2,SqL.of hlo2,hslt,by omega,fun hi H' S=>hR _ _ ⟨S2.trans S,(S2.trans S) _ _ hl,S _ _ hlo2,S _ _ hls2,.inl ⟨rfl,hi⟩⟩,fun a b t H' ha hb hab e S ht=>hR _ _ ⟨S2.trans S,(S2.trans S) _ _ hl,S _ _ hlo2,S _ _ hls2,.inr ⟨a,b,t,ha,hb,hab,e,ht,rfl⟩⟩⟩
   rintro σ3 H3 ⟨S3,hl3,hlo3,hls3,hc⟩
   refine bj (fun σ' H'=>H'=H3∧σ'=[some (.ref x),some (.ref l),some (.ref lo),some (.ref ls),some .non]∧∀ y∈so,∀ z∈so,aR (lkB ss bs) row y=aR (lkB ss bs) row z→y=z) (fun R hR=>?_) ?_
   · rcases hc with ⟨rfl,hi⟩ | ⟨a,b,p,ha,hb,hab,e,hp,rfl⟩
     · walk_at "dm"
       exact bn (fun h=>absurd trivial h) (fun _=>hR _ _ ⟨rfl,rfl,hi⟩)
     · walk_at "dm"
       refine bn (fun _=>⟨by omega,fun t ht=>q1 a b t p _ (hpm.mem_iff.mp ha) (hpm.mem_iff.mp hb) hab e (S3.trans (af.updN ht)) ac (af.updN ht _ _ hp)⟩) (fun h=>absurd (fun z=>by cases z) h)
   rintro σ4 H4 ⟨rfl,rfl,hi⟩
   have pe:cm so (aR (lkB ss bs) row):=⟨hsn,fun z hz=>hpm.mem_iff.mpr (hcl z hrow (hpm.mem_iff.mp hz)),hi⟩
   walk_at "dm"
   refine⟨ls,lo,so,aR (lkB ss bs) row,rfl,SqL.of hls3,SqL.of hlo3,pe,by omega,fun k H' hk hL S=>⟨_,rfl,_,S _ _ hl3,by omega,by omega,?_,fun r hr=>⟨by omega,fun t ht=>?_⟩⟩⟩
   · rw[List.length_map,Int.toNat_natCast]
     exact Nat.le_trans (Nat.mul_le_mul hlen hk) (by rw[sizeLine_eq];decide)
   · have Sr:=af.updN (o:=.lst (List.replicate (k:Int).toNat (row.map V.str)).flatten) hr
     have St:=af.updN (o:=.tup [V.ref r,V.non]) ht
     have S5:=S3.trans S
     refine q2 k t r _ hk ⟨fun z hz=>hL.1 z (hpm.mem_iff.mpr hz),fun j hj h=>hL.2 j hj fun z hz=>h z (hpm.mem_iff.mp hz)⟩ (S5.trans (Sr.trans St)) (S5.free hr) ac (St _ _ ?_)
     rw[ac,Int.toNat_natCast,List.map_flatten,List.map_replicate]
end

section
variable {P:Program}{w:World}{K:PySem.W.Frag}{mg:Str→Option Value}{base:Heap}
def sC:Sp:=fun vs H Q _=>∃ (t:Addr) (x y:V),vs=[.ref t]∧H t=some (.tup [x,y])∧Q (.bl true) H
theorem vq:ap ["_law_found"] ["_law_found"] (ae jN):=⟨rfl,rfl,rfl,by decide +kernel,rfl,by decide +kernel,by decide +kernel⟩
theorem uo {f:Addr}{fd:FuncData}(F:Fun K "_law_pair" "_law_pair" jN f fd)
   (T:Txt mg)  :
   ao P w K mg base CX0 1 f fd ["_law_found"] sC:=by
 refine F.ok vq (fun vs H Q E h=>?_) (fun cdv A outer s H vs Q E hr h=>?_)
 · obtain⟨_,_,_,rfl,_⟩:=h
   rfl
 · obtain⟨t,x,y,rfl,ht,q⟩:=h
   refine⟨_,(ag (ax (lO (av ez (by rfl) T.isi (by decide +kernel) (aa (pv 0) (aa (fU (v:=.ty "tuple") rfl T.tuple (by decide +kernel) rfl) ad))) (lx (cT dn (av aE (by rfl) T.len PySem.boot_len (aa (pv 0) ad)) ah (aK _)))))),?_⟩
   walk_at "dm"
   refine⟨_,eQ.tup ht,true,rfl,bn (fun _=>⟨_,.inr (SqT.of ht),rfl,?_⟩) (fun h=>absurd rfl h)⟩
   exact q
end

section
variable {P:Program}{w:World}{K:PySem.W.Frag}{mg:Str→Option Value}{base:Heap}
def kg (K:PySem.W.Frag):Sp:=fun vs H Q _=>∃ (l d:Addr)(xs ns:List Str)(kvs:List (Key×V)) (m:Int),vs=[.ref l,.ref d,.int m]∧H l=some (.lst (xs.map V.str))∧Rd H d (.dK kvs)∧kvs.map (·.1)=ns.map Sum.inr∧(∀ x∈xs,x∈ns)∧((xs.length:Nat):Int)≤m∧Q (.bl true) H
theorem ko:ap ["_law_found", "_law_known", "_law_most", "_law_one"] ["_law_found", "_law_known", "_law_most"] (ae dz):=⟨rfl,rfl,rfl,by decide +kernel,rfl,by decide +kernel,by decide +kernel⟩
theorem nv {f:Addr}{fd:FuncData}(F:Fun K "_law_list_of_names" "_law_list_of_names" dz f fd)
   (T:Txt mg)  :
   ao P w K mg base CX0 1 f fd ["_law_found", "_law_known", "_law_most"] (kg K):=by
 refine F.ok ko (fun vs H Q E h=>?_) (fun cdv A outer s H vs Q E hr h=>?_)
 · obtain⟨_,_,_,_,_,_,rfl,_⟩:=h
   rfl
 · obtain⟨l,d,xs,ns,kvs,m,rfl,hl,hd,hks,hin,hm,q⟩:=h
   have hu:(cu CX0 P w K mg base ["_law_found", "_law_known", "_law_most", "_law_one"] "_law_list_of_names" (ae dz) f cdv A outer s H E).A.units+1 < cLine:=by
     have:=hr.units
     exact Nat.lt_of_le_of_lt (Nat.add_le_add_left (by decide) _) this
   refine⟨_,(aj (aZ (PW.pt (ir (dv (dr (av ez (by rfl) T.isi (by decide +kernel) (aa (pv 0) (aa (fU (v:=.ty "list") rfl T.list (by decide +kernel) rfl) ad))))) (fh (aF js (av aE (by rfl) T.len PySem.boot_len (aa (pv 0) ad)) (pv 2) (aK _))))) (ag (ax eD)) aB)
     (aj (bz PassesOwn.never rfl (a9 (pv 0)) (au (i:=3) ko.nd rfl (Or.inl rfl)) (ag (aZ (PW.pt (ir (dv (dr (av ez (by rfl) T.isi (by decide +kernel) (aa (pv 3) (aa (fU (v:=.ty "str") rfl T.str (by decide +kernel) rfl) ad))))) (fh (ia (fq hu (pv 3) (pv 1)))))) (ag (ax eD)) aB)))
     (ag (ax eD)))),?_⟩
   have hs:=aQ
   have hkl:kvs.length=ns.length:=by
     have:=congrArg List.length hks
     rwa [List.length_map,List.length_map] at this
   refine bj (fun σ' H'=>σ'=[some (.ref l),some (.ref d),some (.int m),none]∧H'=H) (fun R hR=>?_) ?_
   · walk_at "dm"
     refine⟨_,eQ.lst hl,true,rfl,bn (fun h=>by cases h) (fun _=>⟨_,.inl (SqL.of hl),?_⟩)⟩
     rw[List.length_map]
     exact bn (fun h=>absurd h (by omega)) (fun _=>hR _ _ ⟨rfl,rfl⟩)
   rintro σ1 H1 ⟨rfl,rfl⟩
   refine bj (fun σ' H'=>H'=H1) (fun R hR=>?_) ?_
   · walk_at "dm"
     refine⟨⟨_,SqL.of hl⟩,?_⟩
     refine cc (H0:=H1) (az (SqL.of hl)) (fun i σ' H'=>∃ (o3:Option V),σ'=[some (.ref l),some (.ref d),some (.int m),o3]∧H'=H1) ⟨none,rfl,rfl⟩ (fun _ _ _ _ ⟨_,_,h⟩=>by rw[h];exact af.refl _) ?_ (fun σ H' ⟨_,_,h⟩=>hR _ _ h)
     rintro i x σ H' hi hx ⟨o3,rfl,rfl⟩ R2 hR2
     rw[List.getElem?_map] at hx
     obtain⟨z,hz,rfl⟩:=Option.map_eq_some_iff.mp hx
     have hzn:=hin z (List.mem_of_getElem? hz)
     obtain⟨v,hv⟩:∃ v,b7 kvs (Sum.inr z)=some v:=by
       have hm:Sum.inr z∈kvs.map (·.1):=by rw[hks];exact List.mem_map_of_mem hzn
       cases hv:b7 kvs (Sum.inr z) with
       | some v=>exact⟨v,rfl⟩
       | none =>
         unfold b7 at hv
         rw[Option.map_eq_none_iff,List.find?_eq_none] at hv
         obtain⟨kv,h1,h2⟩:=List.mem_map.mp hm
         exact absurd (decide_eq_true h2) (hv kv h1)
     walk_at "dm"
     exact⟨_,eQ.str _,true,rfl,bn (fun h=>by cases h) (fun _=>⟨some v,.inl ⟨_,Sum.inr z,hd,rfl,hv.symm⟩,bn (fun h=>by cases h) (fun _=>hR2 _ _ ⟨_,rfl,rfl⟩)⟩)⟩
   rintro σ2 H2 rfl
   walk_at "dm"
   exact q
def jO (K:PySem.W.Frag):Sp:=fun vs H Q _=>∃ (l d:Addr)(xs ns:List Str) (m:Int),vs=[.ref l,.ref d,.int m]∧H l=some (.lst (xs.map V.str))∧SqL K H d (ns.map V.str)∧(∀ x∈xs,x∈ns)∧((xs.length:Nat):Int)≤m∧Q (.bl true) H
theorem kj:ap ["_law_found", "_law_known", "_law_most", "_law_one"] ["_law_found", "_law_known", "_law_most"] (ae dz):=⟨rfl,rfl,rfl,by decide +kernel,rfl,by decide +kernel,by decide +kernel⟩
theorem nJ {f:Addr}{fd:FuncData}(F:Fun K "_law_list_of_names" "_law_list_of_names" dz f fd)
   (T:Txt mg)  :
   ao P w K mg base CX0 1 f fd ["_law_found", "_law_known", "_law_most"] (jO K):=by
 refine F.ok kj (fun vs H Q E h=>?_) (fun cdv A outer s H vs Q E hr h=>?_)
 · obtain⟨_,_,_,_,_,rfl,_⟩:=h
   rfl
 · obtain⟨l,d,xs,ns,m,rfl,hl,hd,hin,hm,q⟩:=h
   refine⟨_,(aj (aZ (PW.pt (ir (dv (dr (av ez (by rfl) T.isi (by decide +kernel) (aa (pv 0) (aa (fU (v:=.ty "list") rfl T.list (by decide +kernel) rfl) ad))))) (fh (aF js (av aE (by rfl) T.len PySem.boot_len (aa (pv 0) ad)) (pv 2) (aK _))))) (ag (ax eD)) aB)
     (aj (bz PassesOwn.never rfl (a9 (pv 0)) (au (i:=3) kj.nd rfl (Or.inl rfl)) (ag (aZ (PW.pt (ir (dv (dr (av ez (by rfl) T.isi (by decide +kernel) (aa (pv 3) (aa (fU (v:=.ty "str") rfl T.str (by decide +kernel) rfl) ad))))) (fh (aF dD (pv 3) (pv 1) (by with_unfolding_all rfl))))) (ag (ax eD)) aB)))
     (ag (ax eD)))),?_⟩
   have hs:=aQ
   refine bj (fun σ' H'=>σ'=[some (.ref l),some (.ref d),some (.int m),none]∧H'=H) (fun R hR=>?_) ?_
   · walk_at "dm"
     refine⟨_,eQ.lst hl,true,rfl,bn (fun h=>by cases h) (fun _=>⟨_,.inl (SqL.of hl),?_⟩)⟩
     rw[List.length_map]
     exact bn (fun h=>absurd h (by omega)) (fun _=>hR _ _ ⟨rfl,rfl⟩)
   rintro σ1 H1 ⟨rfl,rfl⟩
   refine bj (fun σ' H'=>H'=H1) (fun R hR=>?_) ?_
   · walk_at "dm"
     refine⟨⟨_,SqL.of hl⟩,?_⟩
     refine cc (H0:=H1) (az (SqL.of hl)) (fun i σ' H'=>∃ (o3:Option V),σ'=[some (.ref l),some (.ref d),some (.int m),o3]∧H'=H1) ⟨none,rfl,rfl⟩ (fun _ _ _ _ ⟨_,_,h⟩=>by rw[h];exact af.refl _) ?_ (fun σ H' ⟨_,_,h⟩=>hR _ _ h)
     rintro i x σ H' hi hx ⟨o3,rfl,rfl⟩ R2 hR2
     rw[List.getElem?_map] at hx
     obtain⟨z,hz,rfl⟩:=Option.map_eq_some_iff.mp hx
     have hzn:=hin z (List.mem_of_getElem? hz)
     walk_at "dm"
     refine⟨_,eQ.str _,true,rfl,bn (fun h=>by cases h) (fun _=>⟨_,.inl hd,rfl,dH ns,bn (fun hn=>?_) (fun _=>hR2 _ _ ⟨_,rfl,rfl⟩)⟩)⟩
     rw[eF,decide_eq_true hzn] at hn
     cases hn
   rintro σ2 H2 rfl
   walk_at "dm"
   exact q
end

section
variable {P:Program}{w:World}{K:PySem.W.Frag}{mg:Str→Option Value}{base:Heap}
def jk:Sp:=fun vs H Q _=>∃ z y:Str,vs=[.str z,.str y]∧Q (.bl (decide (z=y))) H
theorem sR:ap ["_law_found", "_law_due"] ["_law_found", "_law_due"] (ae fM):=⟨rfl,rfl,rfl,by decide +kernel,rfl,by decide +kernel,by decide +kernel⟩
theorem qh {f:Addr}{fd:FuncData}(F:Fun K "_law_text_is" "_law_text_is" fM f fd)
   (T:Txt mg)  :
   ao P w K mg base CX0 1 f fd ["_law_found", "_law_due"] jk:=by
 refine F.ok sR (fun vs H Q E h=>?_) (fun cdv A outer s H vs Q E hr h=>?_)
 · obtain⟨_,_,rfl,_⟩:=h
   rfl
 · obtain⟨z,y,rfl,q⟩:=h
   refine⟨_,(ag (ax (lO (av ez (by rfl) T.isi (by decide +kernel) (aa (pv 0) (aa (fU (v:=.ty "str") rfl T.str (by decide +kernel) rfl) ad))) (lx (cT dn (pv 0) (pv 1) (aK _)))))),?_⟩
   walk_at "dm"
   refine⟨_,eQ.str _,true,rfl,?_⟩
   rw[if_pos rfl]
   exact⟨rfl,q⟩
end

section
variable {P:Program}{w:World}{K:PySem.W.Frag}{mg:Str→Option Value}{base:Heap}
theorem iG {H:Hp}{l b:Addr}{xs zs:List V}{Q:VK}(hl:H l=some (.lst xs))(hb:H b=some (.lst zs))(hz:xs.length+zs.length≤sizeLine)(q:∀ p,H p=none→Q (.ref p) (upd H p (.lst (xs++zs)))):v6 (.ref l) (.ref b) H Q:=⟨l,b,xs,zs,rfl,rfl,hl,hb,hz,q⟩
def fY (ws:List Str):Str:=Txt.join (Str.ofString " ") ws++Str.ofString "\n"
def Few (ws:List Str):Prop:=ws.length≤20∧∀ x∈ws,x.length≤8
theorem Few.sum {ws:List Str}(h:∀ x∈ws,x.length≤8):(ws.map (·.length)).sum≤8*ws.length:=by
 induction ws with
 | nil=>exact Nat.le_refl _
 | cons a r ih =>
   have h1:=h a List.mem_cons_self
   have h2:=ih fun x hx=>h x (List.mem_cons_of_mem _ hx)
   rw[List.map_cons,List.sum_cons,List.length_cons]
   omega
theorem qR (z:Str)(l:List Str):∀ acc:Array Nat,(l.foldl (fun acc p=>acc++z.cps++p.cps) acc).size=acc.size+((l.map (·.length)).sum+l.length*z.length):=by
 induction l with
 | nil=>intro acc;simp
 | cons a r ih =>
   intro acc
   rw[List.foldl_cons,ih,Array.size_append,Array.size_append,List.map_cons,List.sum_cons,List.length_cons,Nat.add_mul]
   show acc.size+z.length+a.length+_=_
   omega
theorem rb {z:Str}{l:List Str}:(Txt.join z l).length≤(l.map (·.length)).sum+l.length*z.length:=by
 cases l with
 | nil =>
   show Str.empty.length≤_
   rw[show Str.empty.length=0 from rfl];exact Nat.zero_le _
 | cons a r =>
   show(List.foldl (fun acc p=>acc++z.cps++p.cps) a.cps r).size≤_
   rw[qR,List.map_cons,List.sum_cons,List.length_cons,Nat.add_mul]
   show a.length+_≤_
   omega
theorem cP {ws:List Str}(h:Few ws):(fY ws).length≤181:=by
 have h1:=Few.sum h.2
 have h2:=rb (z:=Str.ofString " ") (l:=ws)
 have h3:=h.1
 have e1:(Str.ofString " ").length=1:=by decide +kernel
 have e2:(Str.ofString "\n").length=1:=by decide +kernel
 unfold fY
 rw[d5,e2]
 rw[e1] at h2
 omega
theorem jX (a b c:Str):a++b++c=a++(b++c):=fH (by
 show((a.cps++b.cps)++c.cps).toList=(a.cps++(b.cps++c.cps)).toList
 simp)
theorem jG (l:List Str):∀ a:Str,Txt.join (Str.ofString "") (a::l)=l.foldl (·++·) a:=by
 have key:∀ (l:List Str) (a:Str),(⟨l.foldl (fun acc p=>acc++(Str.ofString "").cps++p.cps) a.cps⟩:Str)=l.foldl (·++·) a:=by
   intro l
   induction l with
   | nil=>intro a;rfl
   | cons b r ih =>
     intro a
     rw[List.foldl_cons,List.foldl_cons,←ih (a++b)]
     have e:a.cps++(Str.ofString "").cps++b.cps=(a++b).cps:=by
       show a.cps++(Str.ofString "").cps++b.cps=a.cps++b.cps
       rw[show(Str.ofString "").cps=#[] by decide +kernel,Array.append_empty]
     rw[e]
 exact fun a=>key l a
theorem l6 (l:List Str)(h:∀ x∈l,x.length≤181):∀ a:Str,(l.foldl (·++·) a).length≤a.length+181*l.length:=by
 induction l with
 | nil=>intro a;exact Nat.le_refl _
 | cons b r ih =>
   intro a
   have h1:=h b List.mem_cons_self
   have h2:=ih (fun x hx=>h x (List.mem_cons_of_mem _ hx)) (a++b)
   rw[d5] at h2
   rw[List.foldl_cons,List.length_cons]
   omega
def gZ (so:List Str)(lk:Str→Str→Str) (n:Str):Str:=fY (Str.ofString "bath"::n::so.map (lk n))
def cJ (so ns:List Str)(lk:Str→Str→Str):Str:=(ns.map (gZ so lk)).foldl (·++·) (fY (Str.ofString "shades"::so))
def sj (K:PySem.W.Frag):Sp:=fun vs H Q _=>∃ (a:Addr)(ws:List Str),vs=[.ref a]∧SqL K H a (ws.map V.str)∧Few ws∧Q (.str (fY ws)) H
theorem vc:ap ["words"] ["words"] (ae kr):=⟨rfl,rfl,rfl,by decide +kernel,rfl,by decide +kernel,by decide +kernel⟩
theorem nL {ws:List Str}(h:Few ws):(ws.map (·.length)).sum+ws.length*(Str.ofString " ").length≤16777216:=by
 have h1:=Few.sum h.2
 have h3:=h.1
 have e1:(Str.ofString " ").length=1:=by decide +kernel
 rw[e1]
 omega
theorem ub {f:Addr}{fd:FuncData}(F:Fun K "write_row" "write_row" kr f fd):ao P w K mg base CX0 1 f fd ["words"] (sj K):=by
 refine F.ok vc (fun vs H Q E h=>?_) (fun cdv A outer s H vs Q E hr h=>?_)
 · obtain⟨_,_,rfl,_⟩:=h
   rfl
 · obtain⟨a,ws,rfl,ha,hf,q⟩:=h
   refine⟨_,ag (ax (aw cn (dm PySem.F.plainAttrs_str PySem.F.slot_str_join PySem.F.type_str_join iC aV (aa (pv 0) ad)) aV)),?_⟩
   have hs:=aQ
   have hl:=cP hf
   unfold fY at hl
   rw[d5] at hl
   walk_at "dm"
   exact⟨rfl,ws,ha,nL hf,by omega,q⟩
theorem mx {ss:List Str}(h:∀ x∈ss,bp x=true):∀ x∈ss,x.length≤8:=fun x hx=>i5 (h x hx)
theorem pj {ss:List Str}{bs:List (Str×List Str)}{b:Str×List Str}{z:Str}(B:aP ss bs)(hb:b∈bs)(hz:z∈ss):lkV ss b z∈ss:=by
 obtain⟨i,hi⟩:=List.getElem?_of_mem hz
 have hl:=B.bln b hb
 have hil:i < b.2.length:=by rw[hl];exact(List.getElem?_eq_some_iff.mp hi).1
 have e:b7 (i8 ss b) (Sum.inr z)=some (V.str b.2[i]):=cx ss (b.2.map V.str) i z _ B.snd hi (by rw[List.getElem?_map,List.getElem?_eq_getElem hil];rfl)
 have e2:lkV ss b z=b.2[i]:=by unfold lkV;rw[e]
 rw[e2]
 exact B.bin b hb _ (List.getElem_mem hil)
theorem jd {x:Str}{ws:List Str}{n:Nat}(hx:x.length≤8)(h:∀ y∈ws,y.length≤8):∀ y∈x::ws,y.length≤8:=fun y hy=>by
 rcases List.mem_cons.mp hy with rfl | hy
 · exact hx
 · exact h y hy
theorem i4 {so ss:List Str}{bs:List (Str×List Str)}(B:aP ss bs)(hp:so.Perm ss):Few (Str.ofString "shades"::so):=by
 have:=B.s12
 refine⟨by rw[List.length_cons,hp.length_eq];omega,jd (n:=0) (by decide +kernel) fun y hy=>mx B.snm y (hp.mem_iff.mp hy)⟩
theorem gA {so ss:List Str}{bs:List (Str×List Str)}{b:Str×List Str}(B:aP ss bs)(hp:so.Perm ss)(hb:b∈bs):Few (Str.ofString "bath"::b.1::so.map (lkV ss b)):=by
 have:=B.s12
 refine⟨by rw[List.length_cons,List.length_cons,List.length_map,hp.length_eq];omega,jd (n:=0) (by decide +kernel) (jd (n:=0) (i5 (B.bnm b hb)) fun y hy=>?_)⟩
 obtain⟨z,hz,rfl⟩:=List.mem_map.mp hy
 exact mx B.snm _ (pj B hb (hp.mem_iff.mp hz))
theorem eM {so ss:List Str}{f g:Str→Str}(hp:so.Perm ss)(h:∀ z∈ss,f z=g z):so.map f=so.map g:=List.map_congr_left fun z hz=>h z (hp.mem_iff.mp hz)
def oQ (C:Addr):Sp:=fun vs H Q _=>∃ (x:Addr)(ss:List Str)(bs:List (Str×List Str)),vs=[.ref x]∧br H C x ss bs∧aP ss bs ∧
 ∀ H' so ns,af H H'→so.Perm ss→PyProof.Rows.sortedS so=true→ns.Perm (bs.map (·.1))→PyProof.Rows.sortedS ns=true→Q (.str (cJ so ns (lkB ss bs))) H'
theorem lf:ap ["book", "rows", "bath"] ["book"] (ae g0):=⟨rfl,rfl,rfl,by decide +kernel,rfl,by decide +kernel,by decide +kernel⟩
theorem rW {C f fR fS fB fTb:Addr}{fd fdR fdS fdB fdTb:FuncData}(F:Fun K "write_book" "write_book" g0 f fd)(c:Cls K C)
   (GR:ao P w K mg base CX0 1 fR fdR ["words"] (sj K))(kR:PySem.W.keepIn K (.ref fR)=true)(bR:ay K fdR ["words"] [])(mR:mg "write_row"=some (.ref fR))
   (GS:ao P w K mg base CX0 1 fS fdS ["self"] (fP C))(hmS:bQ K C "shades" fS)(bS:ay K fdS ["self"] [])
   (GB:ao P w K mg base CX0 1 fB fdB ["self"] (ng C))(hmB:bQ K C "baths" fB)(bB:ay K fdB ["self"] [])
   (GTb:ao P w K mg base CX0 2 fTb fdTb ["self", "bath"] (lX C))(hmT:bQ K C "table" fTb)(bTb:ay K fdTb ["self", "bath"] []) :
   ao P w K mg base CX0 3 f fd ["book"] (oQ C):=by
 refine F.ok lf (fun vs H Q E h=>?_) (fun cdv A outer s H vs Q E hr h=>?_)
 · obtain⟨_,_,_,rfl,_⟩:=h
   rfl
 · obtain⟨x,ss,bs,rfl,hbk,B,q⟩:=h
   have hr1:=hr.mono (j:=1) (by omega)
   refine⟨_,aj (aC (i:=1) lf.nd rfl (Or.inl rfl) (bx (aa (ar GR hr1 rfl mR kR bR .nil aJ (aa (aw la (bx (aa aV ad)) (el (pv 0) c hmS GS hr1 bS .nil aJ)) ad)) ad)))
     (al (bz PassesOwn.never rfl (a9 (el (pv 0) c hmB GB hr1 bB .nil aJ)) (au (i:=2) lf.nd rfl (Or.inl rfl))
       (ag (aO (dm PySem.F.plainAttrs_list PySem.F.slot_list_append PySem.F.type_list_append ca (pv 1) (aa (ar GR hr1 rfl mR kR bR .nil aJ (aa (aw la (bx (aa aV (aa (pv 2) ad))) (bf (pv 0) c hmT GTb hr bTb .nil aJ (aa (pv 2) ad))) ad)) ad)))))
     (ag (ax (dm PySem.F.plainAttrs_str PySem.F.slot_str_join PySem.F.type_str_join iC aV (aa (pv 1) ad))))),?_⟩
   have hs:=aQ
   have hs12:=B.s12
   have hb8:=B.b8
   have hbk0:=hbk
   obtain⟨dx,t,d,so,h1,h2,hpm,hso,h5⟩:=hbk
   have hsl:so.length=ss.length:=hpm.length_eq
   refine cut (fun σ' H'=>∃ l,σ'=[some (.ref x),some (.ref l),none]∧af H H'∧H l=none∧H' l=some (.lst [V.str (fY (Str.ofString "shades"::so))])) ?_ ?_
   · walk_at "dm"
     refine⟨by omega,fun p hp=>?_⟩
     have Sa:af H (upd H p (.lst [V.str (Str.ofString "shades")])):=af.updN hp
     refine⟨dx,_,Sa _ _ h1,cb (by decide +kernel) (by decide +kernel),x,ss,bs,rfl,af.book Sa hbk0,B,fun l so2 hl hp2 hs2=>?_⟩
     have e2:so2=so:=dk hs2 hso (hp2.trans hpm.symm)
     subst e2
     have hpl:p≠l:=fun e=>by rw[←e,ac] at hl;cases hl
     refine iG (by rw[ai hpl];exact ac) ac (by rw[List.length_map];show 1+_≤_;omega) fun p2 hp2'=>?_
     have Sb:=Sa.step (o:=.lst (so2.map V.str)) (Sa.free hl)
     have Sc:=Sb.step (o:=.lst ([V.str (Str.ofString "shades")]++so2.map V.str)) (Sb.free hp2')
     refine⟨p2,Str.ofString "shades"::so2,rfl,SqL.of ac,i4 B hpm,by omega,fun l3 hl3=>⟨Sc.step (Sc.free hl3),Sc.free hl3,ac⟩⟩
   rintro σ1 H1 ⟨l,rfl,S1,hl0,hl⟩
   walk_at "dm"
   refine⟨dx,_,S1 _ _ h1,cb (by decide +kernel) (by decide +kernel),x,ss,bs,rfl,af.book S1 hbk0,B,fun lb ns hlb hnp hns=>?_⟩
   have hlbl:l≠lb:=fun e=>by rw[←e,hl] at hlb;cases hlb
   have S2:af H1 (upd H1 lb (.lst (ns.map V.str))):=af.updN hlb
   have hnl:ns.length=bs.length:=by rw[hnp.length_eq,List.length_map]
   generalize hG:upd H1 lb (.lst (ns.map V.str))=G at S2
   have hGb:G lb=some (.lst (ns.map V.str)):=by rw[←hG];exact ac
   have hGl:G l=some (.lst [V.str (fY (Str.ofString "shades"::so))]):=S2 _ _ hl
   have SHG:af (hide H l) (hide G l):=af.hide (S1.trans S2)
   have hH0:af H (hide H l):=fun y o e=>by rw[bq (ak e hl0)];exact e
   have hbl:af H (hide G l):=hH0.trans SHG
   refine⟨lb,rfl,⟨_,SqL.of hGb⟩,?_⟩
   refine aU (H0:=hide G l) (az (SqL.of (by rw[bq (Ne.symm hlbl)];exact hGb))) (fun i σ' H'=>∃ o,σ'=[some (.ref x),some (.ref l),o]∧af (hide G l) H'∧H' l=some (.lst ((fY (Str.ofString "shades"::so)::(ns.take i).map (gZ so (lkB ss bs))).map V.str)))
     ⟨none,rfl,cw,hGl⟩ (fun _ _ _ _ ⟨_,_,h,_⟩=>h) ?_ ?_
   · rintro i y σ H' hi hy ⟨o,rfl,hS,hHl⟩
     rw[List.getElem?_map] at hy
     obtain⟨n,hn,rfl⟩:=Option.map_eq_some_iff.mp hy
     rw[List.length_map] at hi
     obtain⟨b,hb,rfl⟩:=List.mem_map.mp (hnp.mem_iff.mp (List.mem_of_getElem? hn))
     have SH:=hbl.trans hS
     walk_at "dm"
     refine⟨.inl ⟨rfl,_,SqL.of hHl⟩,by omega,fun p hp=>?_⟩
     have Sa:af H' (upd H' p (.lst [V.str (Str.ofString "bath"),V.str b.1])):=af.updN hp
     refine⟨dx,_,Sa _ _ (SH _ _ h1),cb (by decide +kernel) (by decide +kernel),x,ss,bs,b,rfl,af.book (SH.trans Sa) hbk0,B,hb,fun lt so2 hlt hp2 hs2=>?_⟩
     have e2:so2=so:=dk hs2 hso (hp2.trans hpm.symm)
     subst e2
     have hpl:p≠lt:=fun e=>by rw[←e,ac] at hlt;cases hlt
     refine iG (by rw[ai hpl];exact ac) ac (by rw[List.length_map,List.length_map];show 2+_≤_;omega) fun p2 hp2'=>?_
     have Sb:=Sa.step (o:=.lst ((so2.map (lkV ss b)).map V.str)) (Sa.free hlt)
     have Sc:=Sb.step (o:=.lst ([V.str (Str.ofString "bath"),V.str b.1]++(so2.map (lkV ss b)).map V.str)) (Sb.free hp2')
     have hll:(hide G l) l=none:=by unfold hide;rw[if_pos rfl]
     refine⟨p2,Str.ofString "bath"::b.1::so2.map (lkV ss b),rfl,SqL.of ac,gA B hpm hb,_,Sc _ _ hHl,?_,(hS.trans Sc).step hll,?_⟩
     · rw[List.length_map,List.length_cons,List.length_map,List.length_take];omega
     · rw[ac,bM hn,List.map_append,List.map_cons,List.map_cons,List.map_append]
       unfold gZ
       rw[eM (f:=lkV ss b) (g:=lkB ss bs b.1) hpm fun z _=>(ee z B.bnd hb).symm]
       rfl
   · rintro σ H' ⟨o,rfl,hS,hHl⟩
     rw[List.length_map,List.take_of_length_le (Nat.le_refl _)] at hHl
     walk_at "dm"
     have hbt:∀ z∈fY (Str.ofString "shades"::so)::ns.map (gZ so (lkB ss bs)),z.length≤181:=fun z hz=>by
       rcases List.mem_cons.mp hz with rfl | hz
       · exact cP (i4 B hpm)
       · obtain⟨n,hn,rfl⟩:=List.mem_map.mp hz
         obtain⟨b,hb,rfl⟩:=List.mem_map.mp (hnp.mem_iff.mp hn)
         unfold gZ
         rw[←eM (f:=lkV ss b) (g:=lkB ss bs b.1) hpm fun z _=>(ee z B.bnd hb).symm]
         exact cP (gA B hpm hb)
     refine⟨rfl,_,SqL.of hHl,?_,?_⟩
     · have e0:(Str.ofString "").length=0:=by decide +kernel
       have hsum:∀ l:List Str,(∀ z∈l,z.length≤181)→(l.map (·.length)).sum≤181*l.length:=by
         intro l
         induction l with
         | nil=>intro _;exact Nat.le_refl _
         | cons a r ih =>
           intro h
           have h1:=h a List.mem_cons_self
           have h2:=ih fun x hx=>h x (List.mem_cons_of_mem _ hx)
           rw[List.map_cons,List.sum_cons,List.length_cons]
           omega
       have:=hsum _ hbt
       rw[List.length_cons,List.length_map] at this
       rw[e0]
       omega
     · rw[jG]
       exact q H' so ns (hbl.trans hS) hpm hso hnp hns
def rn (K:PySem.W.Frag):Sp:=fun vs H Q _=>∃ (lo d:Addr)(ss so ns:List Str)(bs:List (Str×List Str))(lk:Str→Str→Str),vs=[.ref lo,.ref d]∧aP ss bs∧H lo=some (.lst (so.map V.str))∧so.Perm ss ∧
 lW H d ss ns lk∧ns.Perm (bs.map (·.1))∧(∀ b∈bs,∀ z∈ss,lk b.1 z=lkV ss b z)∧∀ H' ns',af H H'→ns'.Perm ns→PyProof.Rows.sortedS ns'=true→Q (.str (cJ so ns' lk)) H'
theorem lG:ap ["_law_order", "_law_tables_here", "_law_told", "_law_bath"] ["_law_order", "_law_tables_here"] (ae jh):=⟨rfl,rfl,rfl,by decide +kernel,rfl,by decide +kernel,by decide +kernel⟩
theorem t8 {f:Addr}{fd:FuncData}(F:Fun K "_law_text" "_law_text" jh f fd)(T:Txt mg):ao P w K mg base CX0 1 f fd ["_law_order", "_law_tables_here"] (rn K):=by
 refine F.ok lG (fun vs H Q E h=>?_) (fun cdv A outer s H vs Q E hr h=>?_)
 · obtain⟨_,_,_,_,_,_,_,rfl,_⟩:=h
   rfl
 · obtain⟨lo,d,ss,so,ns,bs,lk,rfl,B,hlo,hpm,hG,hns,hlk,q⟩:=h
   have hu:(cu CX0 P w K mg base ["_law_order", "_law_tables_here", "_law_told", "_law_bath"] "_law_text" (ae jh) f cdv A outer s H E).A.units+1 < cLine:=by
     have:=hr.units
     exact Nat.lt_of_le_of_lt (Nat.add_le_add_left (by decide) _) this
   refine⟨_,aj (aC (i:=2) lG.nd rfl (Or.inl rfl) (aw cn (dm PySem.F.plainAttrs_str PySem.F.slot_str_join PySem.F.type_str_join iC aV (aa (aw la (bx (aa aV ad)) (pv 0)) ad)) aV))
     (al (bz PassesOwn.never rfl (a9 (av (eO rfl) (by rfl) T.sorted (by decide +kernel) (aa (pv 1) ad))) (au (i:=3) lG.nd rfl (Or.inr rfl))
       (ag (aC (i:=2) lG.nd rfl (Or.inl rfl) (aw cn (aw cn (pv 2) (dm PySem.F.plainAttrs_str PySem.F.slot_str_join PySem.F.type_str_join iC aV (aa (aw la (bx (aa aV (aa (pv 3) ad)))
         (df (N':=["_law_shade", "_law_tables_here", "_law_bath"]) (pk:=[none,some 1,some 3]) rfl (cg.of (by rfl)) (a9 (pv 0)) (fun s H ex=>au (i:=0) (by show(["_law_shade", "_law_tables_here", "_law_bath"]:List Str).Nodup;decide +kernel) rfl (Or.inl rfl))
         (fun s H ex=>cp hu (cp hu (pv 1) (pv 2) (fun _ _=>rfl)) (pv 0) (fun _ _=>rfl)))) ad))) aV))))
     (ag (ax (pv 2)))),?_⟩
   have hs:=aQ
   have hs12:=B.s12
   have hb8:=B.b8
   have hsl:so.length=ss.length:=hpm.length_eq
   have hnl:ns.length=bs.length:=by rw[hns.length_eq,List.length_map]
   refine cut (fun σ' H'=>σ'=[some (.ref lo),some (.ref d),some (.str (fY (Str.ofString "shades"::so))),none]∧af H H') ?_ ?_
   · walk_at "dm"
     refine⟨rfl,by omega,fun p hp=>?_⟩
     have Sa:af H (upd H p (.lst [V.str (Str.ofString "shades")])):=af.updN hp
     refine iG ac (Sa _ _ hlo) (by rw[List.length_map];show 1+_≤_;omega) fun p2 hp2=>?_
     have hf:=i4 B hpm
     have hl:=cP hf
     unfold fY at hl
     rw[d5] at hl
     exact⟨p2,rfl,Str.ofString "shades"::so,SqL.of ac,nL hf,by omega,rfl,Sa.step (Sa.free hp2)⟩
   rintro σ1 H1 ⟨rfl,S1⟩
   have hGR:=hG
   obtain⟨kvs,hR,hkeys,htab⟩:=hGR
   walk_at "dm"
   refine⟨ns,kvs,af.rd S1 hR,hkeys,by omega,fun lb ns2 hlb hpp hs4=>?_⟩
   have S2:af H1 (upd H1 lb (.lst (ns2.map V.str))):=af.updN hlb
   generalize hGG:upd H1 lb (.lst (ns2.map V.str))=G at S2
   have hGb:G lb=some (.lst (ns2.map V.str)):=by rw[←hGG];exact ac
   have SG:=S1.trans S2
   refine⟨⟨_,SqL.of hGb⟩,?_⟩
   refine aU (H0:=G) (az (SqL.of hGb)) (fun i σ' H'=>∃ o,σ'=[some (.ref lo),some (.ref d),some (.str (cJ so (ns2.take i) lk)),o]∧af G H')
     ⟨none,rfl,af.refl _⟩ (fun _ _ _ _ ⟨_,_,h⟩=>h) ?_ ?_
   · rintro i y σ H' hi hy ⟨o,rfl,hS⟩
     rw[List.getElem?_map] at hy
     obtain⟨n,hn,rfl⟩:=Option.map_eq_some_iff.mp hy
     rw[List.length_map] at hi
     have hnn:n∈ns:=hpp.mem_iff.mp (List.mem_of_getElem? hn)
     obtain⟨b,hb,rfl⟩:=List.mem_map.mp (hns.mem_iff.mp hnn)
     have SH:=SG.trans hS
     walk_at "dm"
     refine⟨rfl,by omega,fun p hp=>?_⟩
     have Sa:af H' (upd H' p (.lst [V.str (Str.ofString "bath"),V.str b.1])):=af.updN hp
     generalize hG2:upd H' p (.lst [V.str (Str.ofString "bath"),V.str b.1])=G2 at Sa
     have hG2p:G2 p=some (.lst [V.str (Str.ofString "bath"),V.str b.1]):=by rw[←hG2];exact ac
     have SH2:=SH.trans Sa
     have hlo2:SqL K G2 lo (so.map V.str):=SqL.of (SH2 _ _ hlo)
     refine⟨⟨_,hlo2⟩,fun D hD=>?_⟩
     refine cq (az hlo2) (by rw[List.length_map];omega) hD (fun σ=>∃ o,σ=[o,some (.ref d),some (.str b.1)]) (fun k=>V.str (lk b.1 (so.getD k ⟨#[]⟩))) ⟨none,rfl⟩ ?_ ?_
     · rintro k y σ' H3 hk2 hy ⟨o,rfl⟩ hS3 R hR
       rw[List.getElem?_map] at hy
       obtain⟨z,hz,rfl⟩:=Option.map_eq_some_iff.mp hy
       have hzs:z∈ss:=hpm.mem_iff.mp (List.mem_of_getElem? hz)
       obtain⟨r,hg1,hg2⟩:=(Fz.tabG (af.fz (SH2.trans hS3)) hG).get hnn hzs
       walk_at "dm"
       refine⟨_,hg1,r,rfl,_,hg2,?_⟩
       have e:so.getD k ⟨#[]⟩=z:=by rw[List.getD_eq_getElem?_getD,hz];rfl
       have:=hR [some (V.str z),some (V.ref d),some (V.str b.1)] ⟨_,rfl⟩
       rw[e] at this
       exact this
     · have e:(List.range (so.map V.str).length).map (fun k=>V.str (lk b.1 (so.getD k ⟨#[]⟩)))=(so.map (lk b.1)).map V.str:=by
         rw[List.map_map]
         refine dF _ so _ _ (by rw[List.length_map]) fun k y hy=>?_
         rw[List.getD_eq_getElem?_getD,hy]
         rfl
       rw[e]
       have hDp:p≠D:=fun e=>by rw[←e,hG2p] at hD;cases hD
       refine iG (by rw[ai hDp];exact hG2p) ac (by rw[List.length_map,List.length_map];show 2+_≤_;omega) fun p2 hp2=>?_
       have Sb:af G2 (upd G2 D (.lst ((so.map (lk b.1)).map V.str))):=af.updN hD
       have hf:Few (Str.ofString "bath"::b.1::so.map (lk b.1)):=by
         rw[eM (f:=lk b.1) (g:=lkV ss b) hpm (hlk b hb)]
         exact gA B hpm hb
       have hl:=cP hf
       unfold fY at hl
       rw[d5] at hl
       have hbt:∀ z∈(ns2.take i).map (gZ so lk),z.length≤181:=fun z hz=>by
         obtain⟨n,hn,rfl⟩:=List.mem_map.mp hz
         obtain⟨b',hb',rfl⟩:=List.mem_map.mp (hns.mem_iff.mp (hpp.mem_iff.mp (List.mem_of_mem_take hn)))
         unfold gZ
         rw[eM (f:=lk b'.1) (g:=lkV ss b') hpm (hlk b' hb')]
         exact cP (gA B hpm hb')
       have hlen:=l6 _ hbt (fY (Str.ofString "shades"::so))
       have hl0:=cP (i4 B hpm)
       have hns2:ns2.length=ns.length:=hpp.length_eq
       rw[List.length_map,List.length_take] at hlen
       have hlen2:(cJ so (ns2.take i) lk).length≤1900:=by unfold cJ;omega
       have hsz:(4000:Nat)≤sizeLine:=by rw[sizeLine_eq];decide
       refine⟨p2,rfl,Str.ofString "bath"::b.1::so.map (lk b.1),SqL.of ac,nL hf,by omega,by rw[d5];omega,?_,(hS.trans Sa).trans (Sb.step (Sb.free hp2))⟩
       rw[bM hn]
       unfold cJ gZ fY
       rw[List.map_append,List.foldl_append,jX]
       rfl
   · rintro σ H' ⟨o,rfl,hS⟩
     rw[List.length_map,List.take_of_length_le (Nat.le_refl _)]
     walk_at "dm"
     exact q H' ns2 (SG.trans hS) hpp hs4
end

section
variable {P:Program}{w:World}{K:PySem.W.Frag}{mg:Str→Option Value}{base:Heap}
theorem m6 (z:Str):∀ (r:List Str)(u v:Array Nat),r.foldl (fun acc p=>acc++z.cps++p.cps) (u++v)=u++r.foldl (fun acc p=>acc++z.cps++p.cps) v
 | [],_,_=>rfl
 | p::r,u,v=>by
   rw[List.foldl_cons,List.foldl_cons,Array.append_assoc,Array.append_assoc,m6 z r u,Array.append_assoc]
theorem mJ (z u v:Str)(L:List Str):Txt.join z ((u++v)::L)=u++Txt.join z (v::L):=fH (by
 show(L.foldl (fun acc p=>acc++z.cps++p.cps) (u.cps++v.cps)).toList=(u.cps++L.foldl (fun acc p=>acc++z.cps++p.cps) v.cps).toList
 rw[m6])
theorem iM (z a b:Str)(r:List Str):Txt.join z (a::b::r)=a++z++Txt.join z (b::r):=by
 rw[←mJ]
 rfl
theorem vd (z a:Str):Txt.join z [a]=a:=rfl
theorem gg (a b:Str):(a++b).cps.toList=a.cps.toList++b.cps.toList:=by
 show(a.cps++b.cps).toList=_
 rw[Array.toList_append]
def jl (c:Nat):List (List Nat)→List Nat
 | []=>[]
 | [a]=>a
 | a::b::r=>a++c::jl c (b::r)
theorem rN (c:Nat):∀ ws:List Str,ws≠[]→(Txt.join ⟨#[c]⟩ ws).cps.toList=jl c (ws.map (·.cps.toList))
 | [],h=>absurd rfl h
 | [a],_=>rfl
 | a::b::r,_=>by
   rw[iM,gg,gg,rN c (b::r) (by simp),List.append_assoc]
   rfl
theorem sg (c:Nat):∀ ws:List Str,ws≠[]→(Str.join ⟨#[c]⟩ ws).cps.toList=jl c (ws.map (·.cps.toList))
 | [],h=>absurd rfl h
 | [a],_=>by rw[PyProof.Rows.join_one];rfl
 | a::b::r,_=>by
   rw[PyProof.Rows.join_cons_cons,gg,gg,sg c (b::r) (by simp),List.append_assoc]
   rfl
theorem o0 {c:Nat}:∀ {a b X Y:List Nat},c∉a→c∉b→a++c::X=b++c::Y→a=b∧X=Y
 | [],[],X,Y,_,_,h=>⟨rfl,(List.cons.inj h).2⟩
 | [],y::b,X,Y,_,hb,h=>absurd ((List.cons.inj h).1▸List.mem_cons_self) hb
 | x::a,[],X,Y,ha,_,h=>absurd ((List.cons.inj h).1▸List.mem_cons_self) ha
 | x::a,y::b,X,Y,ha,hb,h=>by
   obtain⟨e1,e2⟩:=List.cons.inj h
   obtain⟨e3,e4⟩:=o0 (fun m=>ha (List.mem_cons_of_mem _ m)) (fun m=>hb (List.mem_cons_of_mem _ m)) e2
   exact⟨by rw[e1,e3],e4⟩
theorem rX {c:Nat}:∀ {as bs:List (List Nat)},as≠[]→bs≠[]→(∀ a∈as,c∉a)→(∀ b∈bs,c∉b)→jl c as=jl c bs→as=bs
 | [],_,h,_,_,_,_=>absurd rfl h
 | _,[],_,h,_,_,_=>absurd rfl h
 | [a],[b],_,_,_,_,h=>by rw[show a=b from h]
 | [a],b::b2::r,_,_,ha,_,h=>absurd (by rw[show a=b++c::jl c (b2::r) from h];simp) (ha a List.mem_cons_self)
 | a::a2::r,[b],_,_,_,hb,h=>absurd (by rw[←show a++c::jl c (a2::r)=b from h];simp) (hb b List.mem_cons_self)
 | a::a2::r,b::b2::r',_,_,ha,hb,h=>by
   obtain⟨e1,e2⟩:=o0 (ha a List.mem_cons_self) (hb b List.mem_cons_self) (show a++c::jl c (a2::r)=b++c::jl c (b2::r') from h)
   rw[e1,rX (by simp) (by simp) (fun x hx=>ha x (List.mem_cons_of_mem _ hx)) (fun x hx=>hb x (List.mem_cons_of_mem _ hx)) e2]
theorem iY:∀ {as bs:List Str},as.map (·.cps.toList)=bs.map (·.cps.toList)→as=bs
 | [],[],_=>rfl
 | a::as,b::bs,h=>by
   rw[List.map_cons,List.map_cons] at h
   obtain⟨e1,e2⟩:=List.cons.inj h
   rw[fH e1,iY e2]
theorem gp {c:Nat}{ws:List Str}(hne:ws≠[])(hf:∀ w∈ws,c∉w.cps.toList):Txt.split (Txt.join ⟨#[c]⟩ ws) ⟨#[c]⟩=ws:=by
 have h1:=StrLaws.join_split (Txt.join ⟨#[c]⟩ ws) ⟨#[c]⟩
 have hp:=PyProof.Rows.split_pos (Txt.join ⟨#[c]⟩ ws) ⟨#[c]⟩
 have hfr:=StrLaws.split_free (Txt.join ⟨#[c]⟩ ws) c
 generalize Txt.split (Txt.join ⟨#[c]⟩ ws) ⟨#[c]⟩=P at h1 hp hfr
 have hP:P≠[]:=fun e=>by rw[e] at hp;simp at hp
 have h2:=congrArg (·.cps.toList) h1
 have h3:jl c (P.map (·.cps.toList))=jl c (ws.map (·.cps.toList)):=by rw[←sg c P hP,←rN c ws hne];exact h2
 refine iY (rX (by simpa using hP) (by simpa using hne) ?_ ?_ h3)
 · intro a ha
   obtain⟨p,hp,rfl⟩:=List.mem_map.mp ha
   exact hfr p hp
 · intro a ha
   obtain⟨p,hp,rfl⟩:=List.mem_map.mp ha
   exact hf p hp
theorem oT:(Str.ofString " ")=⟨#[32]⟩:=by decide +kernel
theorem wf:(Str.ofString "\n")=⟨#[10]⟩:=by decide +kernel
def cont (so:List Str)(lk:Str→Str→Str) (n:Str):Str:=Txt.join (Str.ofString " ") (Str.ofString "bath"::n::so.map (lk n))
def dN (so ns:List Str)(lk:Str→Str→Str):List Str:=Txt.join (Str.ofString " ") (Str.ofString "shades"::so)::ns.map (cont so lk)++[Str.ofString ""]
theorem jU:∀ (ck:List Str) (acc:Str),(ck.map (·++Str.ofString "\n")).foldl (·++·) (acc++Str.ofString "\n")=Txt.join (Str.ofString "\n") (acc::ck++[Str.ofString ""])
 | [],acc=>by
   show acc++Str.ofString "\n"=Txt.join (Str.ofString "\n") (acc::[Str.ofString ""])
   rw[iM,vd]
   exact fH (by rw[gg (acc++Str.ofString "\n"),show(Str.ofString "").cps.toList=[] by decide +kernel,List.append_nil])
 | r::ck,acc=>by
   rw[List.map_cons,List.foldl_cons,←jX,jU ck (acc++Str.ofString "\n"++r)]
   show Txt.join (Str.ofString "\n") ((acc++Str.ofString "\n"++r)::(ck++[Str.ofString ""]))=Txt.join (Str.ofString "\n") (acc::r::(ck++[Str.ofString ""]))
   rw[mJ,iM]
theorem mt (so ns:List Str)(lk:Str→Str→Str):cJ so ns lk=Txt.join (Str.ofString "\n") (dN so ns lk):=by
 unfold cJ dN
 rw[←jU]
 show(ns.map (gZ so lk)).foldl (·++·) _=_
 rw[List.map_map]
 rfl
theorem tQ {z:Str}(h:bp z=true){c:Nat}(hc:inL c=false):c∉z.cps.toList:=fun hm=>by
 unfold bp at h
 rw[Bool.and_eq_true] at h
 have:=List.all_eq_true.mp h.2 c hm
 rw[hc] at this
 cases this
theorem wY:inL 32=false:=by decide +kernel
theorem wk:inL 10=false:=by decide +kernel
theorem jq {c d:Nat}:∀ ws:List Str,(∀ w∈ws,d∉w.cps.toList)→d≠c→d∉(Txt.join ⟨#[c]⟩ ws).cps.toList
 | [],_,_=>by show d∉[];exact List.not_mem_nil
 | [a],h,_=>h a List.mem_cons_self
 | a::b::r,h,hd=>by
   rw[iM,gg,gg]
   intro hm
   rcases List.mem_append.mp hm with hm | hm
   · rcases List.mem_append.mp hm with hm | hm
     · exact h a List.mem_cons_self hm
     · exact hd (List.mem_singleton.mp hm)
   · exact jq (b::r) (fun w hw=>h w (List.mem_cons_of_mem _ hw)) hd hm
end

section
variable {P:Program}{w:World}{K:PySem.W.Frag}{mg:Str→Option Value}{base:Heap}
theorem lZ {xs:List V}{k:Nat}(h:k≤xs.length):fV xs (some (k:Int)) none=xs.drop k:=by
 unfold fV
 rw[HT.sIx_nat,HT.sIx_none,Nat.min_eq_left h]
 exact List.take_of_length_le (by rw[List.length_drop];exact Nat.le_refl _)
theorem tN {xs:List V}(h:2≤xs.length):fV xs (some (1:Int)) (some (-1:Int))=(xs.drop 1).take (xs.length - 2):=by
 unfold fV
 have e1:HT.sIx xs.length 0 (some (1:Int))=1:=by
   have:=HT.sIx_nat xs.length 0 1
   rw[Nat.min_eq_left (by omega)] at this
   exact this
 have e2:HT.sIx xs.length xs.length (some (-1:Int))=xs.length - 1:=by
   unfold HT.sIx
   show(if(-1:Int) < 0 then _ else _)=_
   rw[if_pos (by decide)]
   omega
 rw[e1,e2,Nat.sub_sub]
def l0 (K:PySem.W.Frag):Sp:=fun vs H Q _=>∃ (l:Addr) (w0 n:Str)(outs:List Str),vs=[.ref l]∧SqL K H l ((w0::n::outs).map V.str)∧outs.length≤900 ∧
 ∀ (lo t:Addr) H',af H H'→H lo=none→H t=none→H' t=some (.tup [.str n,.ref lo])→H' lo=some (.lst (outs.map V.str))→Q (.ref t) H'
theorem sA:ap ["words"] ["words"] (ae fw):=⟨rfl,rfl,rfl,by decide +kernel,rfl,by decide +kernel,by decide +kernel⟩
theorem pM {f:Addr}{fd:FuncData}(F:Fun K "bath_of" "bath_of" fw f fd)(T:Txt mg):ao P w K mg base CX0 1 f fd ["words"] (l0 K):=by
 refine F.ok sA (fun vs H Q E h=>?_) (fun cdv A outer s H vs Q E hr h=>?_)
 · obtain⟨_,_,_,_,rfl,_⟩:=h
   rfl
 · obtain⟨l,w0,n,outs,rfl,hl,hlen,q⟩:=h
   refine⟨_,al (aZ (aF i0 (av aE (by rfl) T.len PySem.boot_len (aa (pv 0) ad)) ah (aK _)) bU aB)
     (ag (ax (du (aa (aM aG (pv 0) ah (fun _ _=>rfl)) (aa (dj gH (pv 0) (dB ah) eI) ad))))),?_⟩
   have hs:=aQ
   have e1:atI ((w0::n::outs).map V.str) ((1:Nat):Int)=some (V.str n):=cr rfl
   walk_at "dm"
   refine⟨_,.inl hl,?_⟩
   rw[List.length_map,List.length_cons,List.length_cons]
   refine bn (fun h=>absurd h (by omega)) (fun _=>⟨_,hl,V.str n,e1,_,hl,fun lo hlo=>⟨by omega,fun t ht=>?_⟩⟩)
   have ec:fV ((w0::n::outs).map V.str) (some 2) none=outs.map V.str:=lZ (k:=2) (by rw[List.length_map,List.length_cons,List.length_cons];omega)
   have Sa:af H (upd H lo (.lst (fV ((w0::n::outs).map V.str) (some 2) none))):=af.updN hlo
   have hlt:lo≠t:=fun e=>by rw[←e,ac] at ht;cases ht
   exact q lo t _ (Sa.step (Sa.free ht)) hlo (Sa.free ht) ac (by rw[ai hlt,ac,ec])
def bsR (so ns:List Str)(lk:Str→Str→Str):List (Str×List Str):=ns.map fun n=>(n,so.map (lk n))
theorem jy (so ns:List Str)(lk:Str→Str→Str):(bsR so ns lk).map (·.1)=ns:=by
 unfold bsR
 rw[List.map_map]
 exact List.map_id ns
def f8 (so ns:List Str)(lk:Str→Str→Str):List (List Str):=(Str.ofString "shades"::so)::ns.map (fun n=>Str.ofString "bath"::n::so.map (lk n))++[[Str.ofString ""]]
theorem g5 {ws:List Str}{c:Nat}(h:∀ x∈ws,bp x=true)(hc:inL c=false):∀ x∈ws,c∉x.cps.toList:=fun x hx=>tQ (h x hx) hc
theorem all_cons {ws:List Str}{a:Str}(ha:bp a=true)(h:∀ x∈ws,bp x=true):∀ x∈a::ws,bp x=true:=fun x hx=>by
 rcases List.mem_cons.mp hx with rfl | hx
 · exact ha
 · exact h x hx
theorem tz:bp (Str.ofString "shades")=true:=by decide +kernel
theorem tF:bp (Str.ofString "bath")=true:=by decide +kernel
theorem jJ {so ns:List Str}{lk:Str→Str→Str}(B:aP so (bsR so ns lk)):(∀ x∈Str.ofString "shades"::so,bp x=true)∧∀ n∈ns,∀ x∈Str.ofString "bath"::n::so.map (lk n),bp x=true:=by
 refine⟨all_cons tz B.snm,fun n hn=>?_⟩
 have hb:(n,so.map (lk n))∈bsR so ns lk:=List.mem_map.mpr ⟨n,hn,rfl⟩
 refine all_cons tF (all_cons (B.bnm _ hb) fun x hx=>?_)
 exact B.snm x (B.bin _ hb x hx)
theorem ke {ws:List Str}(hne:ws≠[])(h:∀ x∈ws,bp x=true):Txt.split (Txt.join (Str.ofString " ") ws) (Str.ofString " ")=ws:=by
 rw[oT]
 exact gp hne (g5 h wY)
theorem lY:Txt.split (Str.ofString "") (Str.ofString " ")=[Str.ofString ""]:=by
 rw[oT]
 refine gp (c:=32) (ws:=[Str.ofString ""]) (by simp) fun w hw=>?_
 rw[List.mem_singleton.mp hw,show(Str.ofString "").cps.toList=[] by decide +kernel]
 exact List.not_mem_nil
theorem i7 {so ns:List Str}{lk:Str→Str→Str}(B:aP so (bsR so ns lk)):Txt.split (cJ so ns lk) (Str.ofString "\n")=dN so ns lk:=by
 rw[mt,wf]
 have hg:=jJ B
 refine gp (by unfold dN;simp) fun w hw=>?_
 unfold dN at hw
 rcases List.mem_append.mp hw with hw | hw
 · rcases List.mem_cons.mp hw with rfl | hw
   · rw[oT];exact jq _ (g5 hg.1 wk) (by decide)
   · obtain⟨n,hn,rfl⟩:=List.mem_map.mp hw
     unfold cont
     rw[oT];exact jq _ (g5 (hg.2 n hn) wk) (by decide)
 · rw[List.mem_singleton.mp hw,show(Str.ofString "").cps.toList=[] by decide +kernel]
   exact List.not_mem_nil
theorem ox {so ns:List Str}{lk:Str→Str→Str}(B:aP so (bsR so ns lk)):(dN so ns lk).map (fun p=>Txt.split p (Str.ofString " "))=f8 so ns lk:=by
 have hg:=jJ B
 unfold dN f8
 rw[List.map_append,List.map_cons,List.map_map,ke (by simp) hg.1]
 have e:ns.map ((fun p=>Txt.split p (Str.ofString " "))∘cont so lk)=ns.map fun n=>Str.ofString "bath"::n::so.map (lk n):=List.map_congr_left fun n hn=>ke (by simp) (hg.2 n hn)
 rw[e]
 show _++[Txt.split (Str.ofString "") (Str.ofString " ")]=_
 rw[lY]
theorem uO {so:List Str}{n z:Str}{lk:Str→Str→Str}(hd:so.Nodup)(hz:z∈so):lkV so (n,so.map (lk n)) z=lk n z:=by
 obtain⟨i,hi⟩:=List.getElem?_of_mem hz
 have e:b7 (i8 so (n,so.map (lk n))) (Sum.inr z)=some (V.str (lk n z)):=cx so ((so.map (lk n)).map V.str) i z _ hd hi (by rw[List.getElem?_map,List.getElem?_map,hi];rfl)
 unfold lkV
 rw[e]
theorem uK {so ns:List Str}{n z:Str}{lk:Str→Str→Str}(B:aP so (bsR so ns lk))(hn:n∈ns)(hz:z∈so):lkB so (bsR so ns lk) n z=lk n z:=by
 have hb:(n,so.map (lk n))∈bsR so ns lk:=List.mem_map.mpr ⟨n,hn,rfl⟩
 have:=ee (ss:=so) z B.bnd hb
 rw[uO B.snd hz] at this
 exact this
theorem t6 {so ns:List Str}{lk:Str→Str→Str}(B:aP so (bsR so ns lk)):cJ so ns (lkB so (bsR so ns lk))=cJ so ns lk:=by
 unfold cJ
 have e:ns.map (gZ so (lkB so (bsR so ns lk)))=ns.map (gZ so lk):=List.map_congr_left fun n hn=>by
   unfold gZ
   rw[List.map_congr_left (f:=lkB so (bsR so ns lk) n) (g:=lk n) fun z hz=>uK B hn hz]
 rw[e]
theorem u8 {ss so ns:List Str}{bs:List (Str×List Str)}(B:aP ss bs)(hpm:so.Perm ss)(hnp:ns.Perm (bs.map (·.1))):aP so (bsR so ns (lkB ss bs)):=by
 have hl:=hpm.length_eq
 have key:∀ b∈bsR so ns (lkB ss bs),∃ b'∈bs,b.1=b'.1∧b.2=so.map (lkB ss bs b'.1):=fun b hb=>by
   obtain⟨n,hn,rfl⟩:=List.mem_map.mp hb
   obtain⟨b',hb',rfl⟩:=List.mem_map.mp (hnp.mem_iff.mp hn)
   exact⟨b',hb',rfl,rfl⟩
 refine⟨by rw[hl];exact B.s1,by rw[hl];exact B.s12,hpm.nodup_iff.mpr B.snd,fun x hx=>B.snm x (hpm.mem_iff.mp hx),fun x hx=>B.snw x (hpm.mem_iff.mp hx),?_,?_,?_,?_,?_,?_⟩
 · have:=hnp.length_eq
   rw[List.length_map] at this
   unfold bsR
   rw[List.length_map,this];exact B.b8
 · rw[jy];exact hnp.nodup_iff.mpr B.bnd
 · intro b hb
   obtain⟨b',hb',e1,e2⟩:=key b hb
   rw[e1];exact B.bnm b' hb'
 · intro b hb
   obtain⟨b',hb',e1,e2⟩:=key b hb
   rw[e1];exact B.bnw b' hb'
 · intro b hb
   obtain⟨b',hb',e1,e2⟩:=key b hb
   rw[e2,List.length_map]
 · intro b hb x hx
   obtain⟨b',hb',e1,e2⟩:=key b hb
   rw[e2] at hx
   obtain⟨z,hz,rfl⟩:=List.mem_map.mp hx
   rw[ee z B.bnd hb']
   exact hpm.mem_iff.mpr (pj B hb' (hpm.mem_iff.mp hz))
end

section
variable {P:Program}{w:World}{K:PySem.W.Frag}{mg:Str→Option Value}{base:Heap}
def vP (H:Hp)(lb:Addr)(rw:List (List Str)):Prop:=∃ ps:List Addr,H lb=some (.lst (ps.map V.ref))∧ps.length=rw.length∧∀ (i:Nat) p ws,ps[i]?=some p→rw[i]?=some ws→H p=some (.lst (ws.map V.str))
def oO (C:Addr):Sp:=fun vs H Q _=>∃ (so ns:List Str)(lk:Str→Str→Str),vs=[.str (cJ so ns lk)]∧aP so (bsR so ns lk)∧∀ x H',H x=none→af H H'→br H' C x so (bsR so ns lk)→Q (.ref x) H'
theorem ll:ap ["text", "rows", "baths", "e"] ["text"] (ae gW):=⟨rfl,rfl,rfl,by decide +kernel,rfl,by decide +kernel,by decide +kernel⟩
theorem mn {so ns:List Str}{lk:Str→Str→Str}(B:aP so (bsR so ns lk)):(cJ so ns lk).length≤1900:=by
 have hb8:ns.length≤8:=by have:=B.b8;unfold bsR at this;rw[List.length_map] at this;exact this
 have h0:=cP (i4 B (List.Perm.refl so))
 have hbt:∀ z∈ns.map (gZ so lk),z.length≤181:=fun z hz=>by
   obtain⟨n,hn,rfl⟩:=List.mem_map.mp hz
   have hb:(n,so.map (lk n))∈bsR so ns lk:=List.mem_map.mpr ⟨n,hn,rfl⟩
   have hf:=gA B (List.Perm.refl so) hb
   rw[List.map_congr_left (f:=lkV so (n,so.map (lk n))) (g:=lk n) fun z hz=>uO B.snd hz] at hf
   exact cP hf
 have:=l6 _ hbt (fY (Str.ofString "shades"::so))
 rw[List.length_map] at this
 unfold cJ
 omega
theorem nR {so ns:List Str}{lk:Str→Str→Str}:(f8 so ns lk)[0]?=some (Str.ofString "shades"::so):=rfl
theorem g4 {so ns:List Str}{lk:Str→Str→Str}:(f8 so ns lk).length=ns.length+2:=by
 unfold f8
 rw[List.length_append,List.length_cons,List.length_map]
 rfl
theorem nX {so ns:List Str}{lk:Str→Str→Str}{i:Nat}{n:Str}(h:ns[i]?=some n):(f8 so ns lk)[i+1]?=some (Str.ofString "bath"::n::so.map (lk n)):=by
 have hi:=(List.getElem?_eq_some_iff.mp h).1
 unfold f8
 rw[List.cons_append,List.getElem?_cons_succ,List.getElem?_append_left (by rw[List.length_map];exact hi),List.getElem?_map,h]
 rfl
theorem sB {C f fO fI:Addr}{fd fdO fdI:FuncData}(F:Fun K "loosely_read" "loosely_read" gW f fd)(T:Txt mg)(M:Mk K C fI)
   (GO:ao P w K mg base CX0 1 fO fdO ["words"] (l0 K))(kO:PySem.W.keepIn K (.ref fO)=true)(bO:ay K fdO ["words"] [])(mO:mg "bath_of"=some (.ref fO))
   (GI:ao P w K mg base CX0 4 fI fdI ["self", "shades", "baths"] (nG K C))(bI:ay K fdI ["self", "shades", "baths"] [])(mC:mg "Book"=some (.ref C)) :
   ao P w K mg base CX0 6 f fd ["text"] (oO C):=by
 refine F.ok ll (fun vs H Q E h=>?_) (fun cdv A outer s H vs Q E hr h=>?_)
 · obtain⟨_,_,_,rfl,_⟩:=h
   rfl
 · obtain⟨so,ns,lk,rfl,B,q⟩:=h
   have hr1:=hr.mono (j:=1) (by omega)
   refine⟨_,aj (iE (i:=1) (N':=["row"]) (pk:=[none]) ll.nd rfl (Or.inl rfl) rfl (cg.of (by rfl)) (a9 (dm PySem.F.plainAttrs_str PySem.F.slot_str_split PySem.F.type_str_split nh (pv 0) (aa aV ad))) (fun s H ex=>au (i:=0) (by show(["row"]:List Str).Nodup;decide +kernel) rfl (Or.inl rfl))
       (fun s H ex=>(dm PySem.F.plainAttrs_str PySem.F.slot_str_split PySem.F.type_str_split nh (pv 0) (aa aV ad):PE _ _ (tBM K "str" _ (pG 0) (cM (tC (.str (Str.ofString " "))) nB)))))
     (aj (iE (i:=2) (N':=["words"]) (pk:=[none]) ll.nd rfl (Or.inl rfl) rfl (cg.of (by rfl)) (a9 (dj gH (pv 1) (dB ah) (dB (iW gn ah)))) (fun s H ex=>au (i:=0) (by show(["words"]:List Str).Nodup;decide +kernel) rfl (Or.inl rfl))
       (fun s H ex=>ar GO hr1 rfl mO kO bO .nil aJ (aa (pv 0) ad)))
     (ag (t9 fun pn W=>ag (ax (iQ M GI hr rfl mC bI .nil aJ (aa (dj (gH:SlR _ (vF K)) (aM (aG:IxR _ (ot K)) (pv 1) ah (fun _ _=>rfl)) (dB ah) eI) (aa (pv 2) ad))))))),?_⟩
   have hs:=aQ
   have hsz:(4000:Nat)≤sizeLine:=by rw[sizeLine_eq];decide
   have hb8:ns.length≤8:=by have:=B.b8;unfold bsR at this;rw[List.length_map] at this;exact this
   have hs12:=B.s12
   have hlen:=mn B
   have hrw:=ox B
   have hpl:(dN so ns lk).length=ns.length+2:=by
     have:=congrArg List.length hrw
     rw[List.length_map,g4] at this
     exact this
   refine cut (fun σ' H'=>∃ lr,σ'=[some (.str (cJ so ns lk)),some (.ref lr),none,none]∧af H H'∧vP H' lr (f8 so ns lk)) ?_ ?_
   · walk_at "dm"
     refine⟨rfl,rfl,by omega,fun lo hlo=>?_⟩
     rw[i7 B]
     have Sa:af H (upd H lo (.lst ((dN so ns lk).map V.str))):=af.updN hlo
     generalize hG:upd H lo (.lst ((dN so ns lk).map V.str))=G at Sa
     have hGl:G lo=some (.lst ((dN so ns lk).map V.str)):=by rw[←hG];exact ac
     refine⟨⟨_,SqL.of hGl⟩,fun D hD=>?_⟩
     refine gC (H0:=G) (az (SqL.of hGl)) (by rw[List.length_map];omega) (fun i xs σ' H'=>(∃ o,σ'=[o])∧af G H'∧H' D=some (.lst xs)∧∃ qs:List Addr,xs=qs.map V.ref∧qs.length=i∧∀ (j:Nat) p ws,qs[j]?=some p→(f8 so ns lk)[j]?=some ws→hide H' D p=some (.lst (ws.map V.str)))
       ⟨⟨none,rfl⟩,af.updN hD,ac,[],rfl,rfl,(by intro j p b h;simp at h)⟩ (fun i xs σ' H' ⟨_,h1,_,qs,h2,h3,_⟩=>⟨h1,by rw[h2,List.length_map];exact h3⟩) ?_ ?_
     · rintro i xs σ' H' x hi hx ⟨⟨o,rfl⟩,hS,hHD,qs,rfl,hql,hqB⟩ R hR
       rw[List.getElem?_map] at hx
       obtain⟨p,hp,rfl⟩:=Option.map_eq_some_iff.mp hx
       have hwi:(f8 so ns lk)[i]?=some (Txt.split p (Str.ofString " ")):=by rw[←hrw,List.getElem?_map,hp];rfl
       have hpl2:p.length≤(cJ so ns lk).length:=by
         have:=PyProof.Rows.part_short (x:=cJ so ns lk) (y:=Str.ofString "\n") (a:=p) (by rw[i7 B];exact List.mem_of_getElem? hp)
         exact this
       walk_at "dm"
       refine⟨rfl,rfl,by omega,fun t ht=>?_⟩
       have htD:t≠D:=fun e=>by rw[e,hHD] at ht;cases ht
       have S4:af H' (upd H' t (.lst ((Txt.split p (Str.ofString " ")).map V.str))):=af.updN ht
       refine hR _ _ _ (S4 _ _ hHD) ⟨⟨_,rfl⟩,(hS.trans S4).step hD,ac,qs++[t],by rw[List.map_append];rfl,by rw[List.length_append,hql];rfl,fun j p2 b2 hp2 hb2=>?_⟩
       rw[dS]
       by_cases hj:j < i
       · rw[List.getElem?_append_left (by omega)] at hp2
         exact af.hide S4 _ _ (hqB j p2 b2 hp2 hb2)
       · have hj2:j=i:=by
           have:=(List.getElem?_eq_some_iff.mp hp2).1
           rw[List.length_append,hql] at this
           simp only[List.length_singleton] at this
           omega
         subst hj2
         rw[List.getElem?_append_right (by omega),hql,Nat.sub_self] at hp2
         cases hp2
         rw[hwi] at hb2
         cases hb2
         rw[bq htD];exact ac
     · rintro xs σ' H' ⟨_,hS,hHD,qs,rfl,hql,hqB⟩
       rw[List.length_map] at hql
       exact⟨Sa.trans hS,qs,hHD,by rw[hql,hpl,g4],fun j p ws hp hw=>cw _ _ (hqB j p ws hp hw)⟩
   rintro σ1 H1 ⟨lr,rfl,S1,ps,hlr,hpsl,hP⟩
   rw[g4] at hpsl
   refine cut (fun σ' H'=>∃ lb,σ'=[some (.str (cJ so ns lk)),some (.ref lr),some (.ref lb),none]∧af H1 H'∧jt H' lb (bsR so ns lk)) ?_ ?_
   · walk_at "dm"
     refine⟨_,SqL.of hlr,fun lo hlo=>?_⟩
     have ec:fV (ps.map V.ref) (some 1) (some (-1))=((ps.drop 1).take ns.length).map V.ref:=by
       rw[tN (by rw[List.length_map];omega),List.length_map,hpsl,List.map_take,List.map_drop]
       rfl
     rw[ec]
     have Sa:af H1 (upd H1 lo (.lst (((ps.drop 1).take ns.length).map V.ref))):=af.updN hlo
     generalize hG:upd H1 lo (.lst (((ps.drop 1).take ns.length).map V.ref))=G at Sa
     have hGl:G lo=some (.lst (((ps.drop 1).take ns.length).map V.ref)):=by rw[←hG];exact ac
     have htl:((ps.drop 1).take ns.length).length=ns.length:=by rw[List.length_take,List.length_drop];omega
     refine⟨⟨_,SqL.of hGl⟩,fun D hD=>?_⟩
     refine gC (H0:=G) (az (SqL.of hGl)) (by rw[List.length_map];omega) (fun i xs σ' H'=>(∃ o,σ'=[o])∧af G H'∧H' D=some (.lst xs)∧∃ qs:List Addr,xs=qs.map V.ref∧qs.length=i∧∀ (j:Nat) p b,qs[j]?=some p→(bsR so ns lk)[j]?=some b→jM (hide H' D) p b)
       ⟨⟨none,rfl⟩,af.updN hD,ac,[],rfl,rfl,(by intro j p b h;simp at h)⟩ (fun i xs σ' H' ⟨_,h1,_,qs,h2,h3,_⟩=>⟨h1,by rw[h2,List.length_map];exact h3⟩) ?_ ?_
     · rintro i xs σ' H' x hi hx ⟨⟨o,rfl⟩,hS,hHD,qs,rfl,hql,hqB⟩ R hR
       rw[List.getElem?_map] at hx
       obtain⟨p,hp,rfl⟩:=Option.map_eq_some_iff.mp hx
       rw[List.length_map,htl] at hi
       obtain⟨n,hn⟩:∃ n,ns[i]?=some n:=⟨_,List.getElem?_eq_getElem hi⟩
       have hp1:ps[i+1]?=some p:=by
         rw[List.getElem?_take,if_pos hi,List.getElem?_drop] at hp
         rw[Nat.add_comm];exact hp
       have hHp:=(Sa.trans hS) _ _ (hP (i+1) p _ hp1 (nX hn))
       walk_at "dm"
       refine⟨p,_,n,_,rfl,SqL.of hHp,by rw[List.length_map];omega,fun l3 t H2 S4 hl3 ht h1 h2=>?_⟩
       have hl3D:l3≠D:=fun e=>by rw[e,hHD] at hl3;cases hl3
       have htD:t≠D:=fun e=>by rw[e,hHD] at ht;cases ht
       refine hR _ _ _ (S4 _ _ hHD) ⟨⟨_,rfl⟩,(hS.trans S4).step hD,ac,qs++[t],by rw[List.map_append];rfl,by rw[List.length_append,hql];rfl,fun j p2 b2 hp2 hb2=>?_⟩
       rw[dS]
       by_cases hj:j < i
       · rw[List.getElem?_append_left (by omega)] at hp2
         exact af.bthAt (af.hide S4) (hqB j p2 b2 hp2 hb2)
       · have hj2:j=i:=by
           have:=(List.getElem?_eq_some_iff.mp hp2).1
           rw[List.length_append,hql] at this
           simp only[List.length_singleton] at this
           omega
         subst hj2
         rw[List.getElem?_append_right (by omega),hql,Nat.sub_self] at hp2
         cases hp2
         unfold bsR at hb2
         rw[List.getElem?_map,hn] at hb2
         cases hb2
         exact⟨l3,by rw[bq htD];exact h1,by rw[bq hl3D];exact h2⟩
     · rintro xs σ' H' ⟨_,hS,hHD,qs,rfl,hql,hqB⟩
       rw[List.length_map,htl] at hql
       exact⟨Sa.trans hS,qs,hHD,by unfold bsR;rw[hql,List.length_map],fun j p b hp hb=>af.bthAt cw (hqB j p b hp hb)⟩
   rintro σ2 H2 ⟨lb,rfl,S2,hb⟩
   obtain⟨p0,hp0⟩:∃ p,ps[0]?=some p:=⟨_,List.getElem?_eq_getElem (by omega)⟩
   have hH0:=S2 _ _ (hP 0 p0 _ hp0 nR)
   have e0:atI (ps.map V.ref) ((0:Nat):Int)=some (V.ref p0):=eX (by rw[List.getElem?_map,hp0];rfl)
   walk_at "dm"
   refine⟨_,SqL.of (S2 _ _ hlr),_,e0,p0,rfl,_,SqL.of hH0,fun l2 hl2=>?_⟩
   have ec:fV ((Str.ofString "shades"::so).map V.str) (some 1) none=so.map V.str:=lZ (k:=1) (by rw[List.length_map,List.length_cons];omega)
   rw[ec]
   have Sa:af H2 (upd H2 l2 (.lst (so.map V.str))):=af.updN hl2
   intro x dx hx hdx hne
   have S5:af (upd H2 l2 (.lst (so.map V.str))) (upd (upd (upd H2 l2 (.lst (so.map V.str))) dx (.own x)) x (.ins C dx [])):=(af.updN hdx).step hx
   have S6:af (upd H2 l2 (.lst (so.map V.str))) (hide (upd (upd (upd H2 l2 (.lst (so.map V.str))) dx (.own x)) x (.ins C dx [])) x):=fun y o e=>by
     rw[bq (ak e hx)];exact S5 y o e
   refine⟨x,dx,l2,lb,so,bsR so ns lk,rfl,ac,SqL.of (S5 _ _ ac),af.bths (Sa.trans S5) hb,B,fun H3 S3 hbk=>⟨rfl,?_⟩⟩
   exact q x H3 (((S1.trans S2).trans Sa).free hx) ((((S1.trans S2).trans Sa).trans S6).trans S3) hbk
def sL (C:Addr):Sp:=fun vs H Q _=>∃ (so ns:List Str)(lk:Str→Str→Str),vs=[.str (cJ so ns lk)]∧aP so (bsR so ns lk)∧PyProof.Rows.sortedS so=true∧PyProof.Rows.sortedS ns=true∧∀ x H',H x=none→af H H'→br H' C x so (bsR so ns lk)→Q (.ref x) H'
theorem sM:ap ["text", "book"] ["text"] (ae kQ):=⟨rfl,rfl,rfl,by decide +kernel,rfl,by decide +kernel,by decide +kernel⟩
theorem tH {C f fL fW:Addr}{fd fdL fdW:FuncData}(F:Fun K "read_book" "read_book" kQ f fd)
   (GL:ao P w K mg base CX0 6 fL fdL ["text"] (oO C))(kL:PySem.W.keepIn K (.ref fL)=true)(bL:ay K fdL ["text"] [])(mL:mg "loosely_read"=some (.ref fL))
   (GW:ao P w K mg base CX0 3 fW fdW ["book"] (oQ C))(kW:PySem.W.keepIn K (.ref fW)=true)(bW:ay K fdW ["book"] [])(mW:mg "write_book"=some (.ref fW)) :
   ao P w K mg base CX0 7 f fd ["text"] (sL C):=by
 refine F.ok sM (fun vs H Q E h=>?_) (fun cdv A outer s H vs Q E hr h=>?_)
 · obtain⟨_,_,_,rfl,_⟩:=h
   rfl
 · obtain⟨so,ns,lk,rfl,B,hso,hns,q⟩:=h
   have hr3:=hr.mono (j:=3) (by omega)
   refine⟨_,al (aC (i:=1) sM.nd rfl (Or.inl rfl) (ar GL hr rfl mL kL bL .nil aJ (aa (pv 0) ad)))
     (al (aZ (aF rO (ar GW hr3 rfl mW kW bW .nil aJ (aa (pv 1) ad)) (pv 0) (aK _)) bU aB)
     (ag (ax (pv 1)))),?_⟩
   walk_at "dm"
   refine⟨so,ns,lk,rfl,B,fun x H1 hx S1 hbk=>⟨x,so,_,rfl,hbk,B,fun H2 so2 ns2 S2 h1 h2 h3 h4=>?_⟩⟩
   rw[jy] at h3
   have e1:so2=so:=dk h2 hso h1
   have e2:ns2=ns:=dk h4 hns h3
   subst e1 e2
   rw[t6 B]
   exact⟨rfl,bn (fun h=>absurd rfl h) (fun _=>q x H2 hx (S1.trans S2) (af.book S2 hbk))⟩
end

section
variable {P:Program}{w:World}{K:PySem.W.Frag}{mg:Str→Option Value}{base:Heap}
theorem nQ {J:It}{n:Nat}{vs:Nat→V→Prop}{g:TG}{tc:TT}{te:TE}{D:Addr}{Q:Hp→Prop}{σ:St}{H:Hp}(S:dQ J H n vs)(hn:n≤sizeLine)(hD:H D=none)(Pσ:St→Prop)(bt:Nat→Bool)(out:Nat→V)
   (h0:Pσ σ)(step:∀ i x σ' H',i < n→vs i x→Pσ σ'→af H H'→∀ (R1:V→St→Hp→Prop)(R0:St→Hp→Prop),(bt i=true→∀ σ2,Pσ σ2→R1 (out i) σ2 H')→(bt i=false→∀ σ2,Pσ σ2→R0 σ2 H')→g x σ' H' fun σ2 H3=>tc σ2 H3 fun b H3'=>if b=true then te σ2 H3' fun v H4=>R1 v σ2 H4 else R0 σ2 H3')
   (fin:Q (upd H D (.lst (((List.range n).filter bt).map out)))):lh J g tc te D Q σ (upd H D (.lst [])):=by
 refine⟨fun i m σ' H'=>m=n - i∧i≤n∧Pσ σ'∧H'=upd H D (.lst (((List.range i).filter bt).map out)),⟨n,by simp,Nat.zero_le _,h0,rfl⟩,?_⟩
 rintro i m σ' H' ⟨rfl,hi,p,rfl⟩
 have sm:af H (upd H D (.lst (((List.range i).filter bt).map out))):=af.updN hD
 by_cases hlt:i < n
 · refine .inr ⟨S.go i _ hlt sm,fun σ2 H2=>Pσ σ2∧H2=upd H D (.lst (((List.range (i+1)).filter bt).map out)),fun σ2 H2 ⟨p',e⟩=>⟨n - (i+1),by omega,rfl,hlt,p',e⟩,fun x H2 y=>?_⟩
   obtain⟨e,hv⟩:=S.yld i _ x H2 hlt sm y
   subst e
   have hlen:((List.range i).filter bt).length≤i:=by
     have:=List.length_filter_le bt (List.range i)
     rwa [List.length_range] at this
   refine step i x σ' _ hlt hv p sm (fun v σ2 H4=>∃ xs,H4 D=some (.lst xs)∧xs.length < sizeLine∧Pσ σ2∧upd H4 D (.lst (xs++[v]))=upd H D (.lst (((List.range (i+1)).filter bt).map out))) (fun σ2 H4=>Pσ σ2∧H4=upd H D (.lst (((List.range (i+1)).filter bt).map out))) (fun hb σ2 p2=>?_) (fun hb σ2 p2=>⟨p2,?_⟩)
   · refine⟨((List.range i).filter bt).map out,ac,by rw[List.length_map];omega,p2,?_⟩
     rw[iR,List.range_succ,List.filter_append,List.filter_cons_of_pos (by simpa using hb),List.filter_nil,List.map_append,List.map_singleton]
   · rw[List.range_succ,List.filter_append,List.filter_cons_of_neg (by simpa using hb),List.filter_nil,List.append_nil]
 · have e:i=n:=by omega
   subst e
   exact .inl ⟨S.stop _ sm,fin⟩
def gG (H:Hp)(ps:List Addr)(L:List (List V)):Prop:=ps.length=L.length∧∀ (i:Nat) p e,ps[i]?=some p→L[i]?=some e→H p=some (.tup e)
theorem gG.same {H H':Hp}{ps:List Addr}{L:List (List V)}(S:af H H')(h:gG H ps L):gG H' ps L:=⟨h.1,fun i p e hp he=>S _ _ (h.2 i p e hp he)⟩
theorem gG.snoc {H:Hp}{ps:List Addr}{L:List (List V)}{t:Addr}{e:List V}(h:gG H ps L)(ht:H t=some (.tup e)):gG H (ps++[t]) (L++[e]):=by
 refine⟨by rw[List.length_append,List.length_append,h.1];rfl,fun i p e2 hp he=>?_⟩
 by_cases hi:i < ps.length
 · rw[List.getElem?_append_left hi] at hp
   rw[List.getElem?_append_left (by rw[←h.1];exact hi)] at he
   exact h.2 i p e2 hp he
 · have hj:i=ps.length:=by
     have:=(List.getElem?_eq_some_iff.mp hp).1
     rw[List.length_append,List.length_singleton] at this
     omega
   subst hj
   rw[List.getElem?_append_right (Nat.le_refl _),Nat.sub_self] at hp
   rw[List.getElem?_append_right (by rw[h.1];exact Nat.le_refl _),h.1,Nat.sub_self] at he
   cases hp
   cases he
   exact ht
theorem qA {J:It}{n:Nat}{vs:Nat→V→Prop}{g:TG}{tc:TT}{te:TE}{D:Addr}{Q:Hp→Prop}{σ:St}{H:Hp}(S:dQ J H n vs)(hn:n≤sizeLine)(hD:H D=none)(Pσ:St→Prop)(bt:Nat→Bool)(out:Nat→List V)
   (h0:Pσ σ)(step:∀ i x σ' H',i < n→vs i x→Pσ σ'→af H H'→∀ (R1:V→St→Hp→Prop)(R0:St→Hp→Prop),(bt i=true→∀ t σ2,Pσ σ2→H' t=none→R1 (.ref t) σ2 (upd H' t (.tup (out i))))→(bt i=false→∀ σ2,Pσ σ2→R0 σ2 H')→g x σ' H' fun σ2 H3=>tc σ2 H3 fun b H3'=>if b=true then te σ2 H3' fun v H4=>R1 v σ2 H4 else R0 σ2 H3')
   (fin:∀ ps H',af H H'→H' D=some (.lst (ps.map V.ref))→gG H' ps (((List.range n).filter bt).map out)→Q H'):lh J g tc te D Q σ (upd H D (.lst [])):=by
 refine⟨fun i m σ' H'=>m=n - i∧i≤n∧Pσ σ'∧∃ ps,af H H'∧H' D=some (.lst (ps.map V.ref))∧gG (hide H' D) ps (((List.range i).filter bt).map out),⟨n,by simp,Nat.zero_le _,h0,[],af.updN hD,ac,rfl,by intro i p e h;simp at h⟩,?_⟩
 rintro i m σ' H' ⟨rfl,hi,p,ps,sm,hHD,hT⟩
 by_cases hlt:i < n
 · refine .inr ⟨S.go i _ hlt sm,fun σ2 H2=>Pσ σ2∧∃ ps,af H H2∧H2 D=some (.lst (ps.map V.ref))∧gG (hide H2 D) ps (((List.range (i+1)).filter bt).map out),fun σ2 H2 ⟨p',e⟩=>⟨n - (i+1),by omega,rfl,hlt,p',e⟩,fun x H2 y=>?_⟩
   obtain⟨e,hv⟩:=S.yld i _ x H2 hlt sm y
   subst e
   have hlen:ps.length≤i:=by
     have:=List.length_filter_le bt (List.range i)
     rw[List.length_range] at this
     rw[hT.1,List.length_map];exact this
   refine step i x σ' _ hlt hv p sm (fun v σ2 H4=>∃ xs,H4 D=some (.lst xs)∧xs.length < sizeLine∧Pσ σ2∧∃ ps,af H (upd H4 D (.lst (xs++[v])))∧upd H4 D (.lst (xs++[v])) D=some (.lst (ps.map V.ref))∧gG (hide (upd H4 D (.lst (xs++[v]))) D) ps (((List.range (i+1)).filter bt).map out)) (fun σ2 H4=>Pσ σ2∧∃ ps,af H H4∧H4 D=some (.lst (ps.map V.ref))∧gG (hide H4 D) ps (((List.range (i+1)).filter bt).map out)) (fun hb t σ2 p2 ht=>?_) (fun hb σ2 p2=>⟨p2,ps,sm,hHD,?_⟩)
   · have htD:t≠D:=fun e=>by rw[e,hHD] at ht;cases ht
     refine⟨ps.map V.ref,by rw[ai (Ne.symm htD)];exact hHD,by rw[List.length_map];omega,p2,ps++[t],(sm.step (sm.free ht)).step hD,by rw[ac,List.map_append];rfl,?_⟩
     rw[List.range_succ,List.filter_append,List.filter_cons_of_pos (by simpa using hb),List.filter_nil,List.map_append,List.map_singleton,dS]
     exact(gG.same (af.hide (af.updN ht)) hT).snoc (by rw[bq htD];exact ac)
   · rw[List.range_succ,List.filter_append,List.filter_cons_of_neg (by simpa using hb),List.filter_nil,List.append_nil]
     exact hT
 · have e:i=n:=by omega
   subst e
   exact .inl ⟨S.stop _ sm,fin ps H' sm hHD (hT.same cw)⟩
end

section
variable {P:Program}{w:World}{K:PySem.W.Frag}{mg:Str→Option Value}{base:Heap}
def j9 (C cN:Addr):Sp:=fun vs H Q E=>∃ (x:Addr)(ss:List Str)(bs:List (Str×List Str)) (z:Str),vs=[.ref x,.str z]∧br H C x ss bs∧aP ss bs∧Shw z∧(z∈bs.map (·.1)→Q .non H)∧(z∉bs.map (·.1)→E (.ref cN) none H)
theorem oj {C f cN:Addr}{fd:FuncData}(F:Fun K "check_bath" "Book.check_bath" dC f fd)(c:Cls K C)(nT:bP K C "tables")(XN:fc K cN)(mN:mg "NoBath"=some (.ref cN)):ao P w K mg base (CX1 P w) 1 f fd ["self", "bath"] (j9 C cN):=by
 refine F.okX mU (fun vs H Q E h=>?_) (fun cdv A outer s H vs Q E hr h=>?_)
 · obtain⟨_,_,_,_,rfl,_⟩:=h
   rfl
 · obtain⟨x,ss,bs,z,rfl,⟨dx,t,d,so,h1,h2,h3,h4,h5⟩,B,hz,q,qe⟩:=h
   have hu:(cu (CX1 P w) P w K mg base ["self", "bath"] "Book.check_bath" (ae dC) f cdv A outer s H E).A.units+1 < cLine:=by
     have:=hr.units
     exact Nat.lt_of_le_of_lt (Nat.add_le_add_left (by decide) _) this
   refine⟨_,ag (aZ (ia (fq hu (pv 1) (bV (pv 0) rfl))) (ag (cU rfl rfl mN XN.exc PySem.F.excBase_ValueError (aa (gD (pv 1)) ad) gI)) aB),?_⟩
   by_cases hm:z∈bs.map (·.1)
   · obtain⟨b,hb,rfl⟩:=List.mem_map.mp hm
     obtain⟨r,hg,hr⟩:=gx.get B h5 hb
     walk_at "dm"
     exact⟨C,dx,_,h1,c,nT,_,cY,d,rfl,_,hg,q hm⟩
   · obtain⟨ds,e1,e2,e3⟩:=h5
     walk_at "dm"
     refine⟨C,dx,_,h1,c,nT,_,cY,d,rfl,none,.inl ⟨_,Sum.inr z,e1,rfl,(bX _ _ _ hm).symm⟩,?_⟩
     exact⟨hz.1,hz.2,fun y=>⟨by decide,qe hm⟩⟩
def iZ (C cS:Addr):Sp:=fun vs H Q E=>∃ (x:Addr)(ss:List Str)(bs:List (Str×List Str)) (y:Str),vs=[.ref x,.str y]∧br H C x ss bs∧Shw y∧(y∈ss→Q .non H)∧(y∉ss→E (.ref cS) none H)
theorem ms {C f cS:Addr}{fd:FuncData}(F:Fun K "check_shade" "Book.check_shade" dU f fd)(c:Cls K C)(nO:bP K C "order")(XS:fc K cS)(mS:mg "NoShade"=some (.ref cS)):ao P w K mg base (CX1 P w) 1 f fd ["self", "shade"] (iZ C cS):=by
 refine F.okX jZ (fun vs H Q E h=>?_) (fun cdv A outer s H vs Q E hr h=>?_)
 · obtain⟨_,_,_,_,rfl,_⟩:=h
   rfl
 · obtain⟨x,ss,bs,y,rfl,⟨dx,t,d,so,h1,h2,h3,h4,h5⟩,hy,q,qe⟩:=h
   refine⟨_,ag (aZ (aF dD (pv 1) (bV (pv 0) rfl) (by with_unfolding_all rfl)) (ag (cU rfl rfl mS XS.exc PySem.F.excBase_ValueError (aa (gD (pv 1)) ad) gI)) aB),?_⟩
   by_cases hm:y∈ss
   · have hyo:y∈so:=h3.mem_iff.mpr hm
     walk_at "dm"
     refine⟨C,dx,_,h1,c,nO,_,fg,t,rfl,_,.inr (SqT.of h2),rfl,dH so,?_⟩
     rw[eF,decide_eq_true hyo]
     exact q hm
   · have hyo:y∉so:=fun h=>hm (h3.mem_iff.mp h)
     walk_at "dm"
     refine⟨C,dx,_,h1,c,nO,_,fg,t,rfl,_,.inr (SqT.of h2),rfl,dH so,?_⟩
     rw[eF,decide_eq_false hyo]
     exact⟨hy.1,hy.2,fun w=>⟨by decide,qe hm⟩⟩
end

section
variable {P:Program}{w:World}{K:PySem.W.Frag}{mg:Str→Option Value}{base:Heap}
abbrev Bk:=List Str×List (Str×List Str)
structure Hs where
 cl:List (Str×Str)
 day:Int
 dp:List (Int×Str×Str×Str)
 bk:List (Int×Bk)
def clV (cl:List (Str×Str)):List (Key×V):=cl.map fun c=>(Sum.inr c.1,V.str c.2)
def bkV (bk:List (Int×Bk))(rs:List Addr):List (Key×V):=(bk.zip rs).map fun e=>(Sum.inl e.1.1,V.ref e.2)
structure Ad where
 x:Addr
 dx:Addr
 d1:Addr
 ls:Addr
 db:Addr
def hid (H:Hp)(A:Ad):Hp:=fun b=>if b=A.x∨b=A.d1∨b=A.ls∨b=A.db then none else H b
theorem bH {H:Hp}{A:Ad}:af (hid H A) H:=fun b o e=>by
 unfold hid at e
 split at e
 · cases e
 · exact e
theorem fe {H H':Hp}{A:Ad}(S:af H H'):af (hid H A) (hid H' A):=fun b o e=>by
 unfold hid at e ⊢
 split at e
 · cases e
 · rename_i h;rw[if_neg h];exact S b o e
def hfs (A:Ad) (day:Int):List (Str×V):=[("first_shades",.ref A.d1),("day_now",.int day),("standing",.ref A.ls),("books_from",.ref A.db)]
structure aY (H:Hp)(C CB:Addr)(A:Ad)(W:Hp)(ss:List Str) (h:Hs):Prop where
 ins:H A.x=some (.ins C A.dx (hfs A h.day))
 cl:H A.d1=some (.dK (clV h.cl))
 dp:∃ ps:List Addr,H A.ls=some (.lst (ps.map V.ref))∧ps.length=h.dp.length∧∀ (i:Nat) p e,ps[i]?=some p→h.dp[i]?=some e→W p=some (.tup [.int e.1,.str e.2.1,.str e.2.2.1,.str e.2.2.2])
 bk:∃ rs:List Addr,H A.db=some (.dK (bkV h.bk rs))∧rs.length=h.bk.length∧∀ (i:Nat) r e,rs[i]?=some r→h.bk[i]?=some e→br W CB r e.2.1 e.2.2
 ne:A.d1≠A.db
 sub:af W (hid H A)
def wm (H W W':Hp):Prop:=af W W'∧∀ b o,W b=none→H b=some o→W' b=none
structure cW (ss:List Str)(names:List Str) (h:Hs):Prop where
 cnd:(h.cl.map (·.1)).Nodup
 csh:∀ c∈h.cl,c.2∈ss
 cnm:∀ c∈h.cl,bp c.1=true
 d1:1≤h.day
 d4:h.day≤400
 dl:h.dp.length≤1000
 dd:∀ e∈h.dp,1≤e.1∧e.1≤h.day
 ds:∀ e∈h.dp,e.2.2.2∈ss
 k1:∃ b r,h.bk=(1,b)::r
 ks:h.bk.Pairwise (fun a b=>a.1 < b.1)
 kd:∀ e∈h.bk,1≤e.1∧e.1≤h.day
 kl:h.bk.length≤400
 kb:∀ e∈h.bk,aP e.2.1 e.2.2∧(∀ n,n∈e.2.2.map (·.1)↔n∈names)∧∀ z,z∈e.2.1↔z∈ss
def dc:List (Int×Bk)→Int→Bk
 | [],_=>([],[])
 | [e],_=>e.2
 | e::e2::r,d=>if e2.1≤d then dc (e2::r) d else e.2
theorem pd:∀ (bk:List (Int×Bk)) (d M:Int)(b:Bk),bk.Pairwise (fun a b=>a.1 < b.1)→(M,b)∈bk→M≤d→(∀ e∈bk,e.1≤d→e.1≤M)→dc bk d=b
 | [],_,_,_,_,h,_,_=>by cases h
 | [e],d,M,b,_,h,_,_=>by rw[List.mem_singleton] at h;rw[←h];rfl
 | e::e2::r,d,M,b,hp,h,hM,hx=>by
   have hp2:=List.pairwise_cons.mp hp
   unfold dc
   by_cases h2:e2.1≤d
   · rw[if_pos h2]
     rcases List.mem_cons.mp h with h | h
     · have h3:=hp2.1 e2 List.mem_cons_self
       have h4:=hx e2 (List.mem_cons_of_mem _ List.mem_cons_self) h2
       rw[←h] at h3
       exact absurd h3 (by show ¬(M < e2.1);omega)
     · exact pd (e2::r) d M b hp2.2 h hM fun e he=>hx e (List.mem_cons_of_mem _ he)
   · rw[if_neg h2]
     rcases List.mem_cons.mp h with h | h
     · rw[←h]
     · rcases List.mem_cons.mp h with h | h
       · rw[←h] at h2;exact absurd hM h2
       · have:=(List.pairwise_cons.mp hp2.2).1 _ h
         exact absurd hM (by show ¬(M≤d);have h5:e2.1 < M:=this;omega)
theorem lC {cl:List (Str×Str)}{c:Str×Str}(hd:(cl.map (·.1)).Nodup)(h:c∈cl):b7 (clV cl) (Sum.inr c.1)=some (V.str c.2):=by
 induction cl with
 | nil=>cases h
 | cons a r ih =>
   rw[List.map_cons,List.nodup_cons] at hd
   unfold clV b7
   rw[List.map_cons,List.find?_cons]
   by_cases e:a.1=c.1
   · rcases List.mem_cons.mp h with h | h
     · rw[h];simp
     · exact absurd (List.mem_map_of_mem (f:=(·.1)) h) (by rw[←e];exact hd.1)
   · rcases List.mem_cons.mp h with h | h
     · exact absurd (by rw[h]) e
     · have:=ih hd.2 h
       unfold clV b7 at this
       simp only[Sum.inr.injEq,e,decide_false]
       exact this
theorem eJ {cl:List (Str×Str)}{z:Str}(h:z∉cl.map (·.1)):b7 (clV cl) (Sum.inr z)=none:=by
 unfold b7 clV
 rw[Option.map_eq_none_iff,List.find?_eq_none]
 intro kv hkv
 obtain⟨c,hc,rfl⟩:=List.mem_map.mp hkv
 simp only[Sum.inr.injEq,decide_eq_true_eq]
 exact fun e=>h (by rw[←e];exact List.mem_map_of_mem hc)
theorem af.house {H H':Hp}{C CB:Addr}{A:Ad}{W:Hp}{ss:List Str}{h:Hs}(S:af H H')(hh:aY H C CB A W ss h):aY H' C CB A W ss h:=by
 obtain⟨h1,h2,⟨ps,h3,h4,h5⟩,⟨rs,h6,h7,h8⟩,h9,h10⟩:=hh
 exact⟨S _ _ h1,S _ _ h2,⟨ps,S _ _ h3,h4,h5⟩,⟨rs,S _ _ h6,h7,h8⟩,h9,h10.trans (fe S)⟩
theorem tG {H:Hp}{A:Ad}{b:Addr}{o:HO}(b1:b≠A.x)(b2:b≠A.d1)(b3:b≠A.ls)(b4:b≠A.db):hid (upd H b o) A=upd (hid H A) b o:=by
 funext y
 unfold hid
 by_cases hy:y=A.x∨y=A.d1∨y=A.ls∨y=A.db
 · rw[if_pos hy]
   have hyb:y≠b:=fun e=>by rw[e] at hy;rcases hy with z | z | z | z;exact b1 z;exact b2 z;exact b3 z;exact b4 z
   rw[ai hyb,if_pos hy]
 · rw[if_neg hy]
   by_cases e:y=b
   · rw[e,ac,ac]
   · rw[ai e,ai e,if_neg hy]
theorem aY.up {H:Hp}{C CB:Addr}{A:Ad}{W:Hp}{ss:List Str}{h:Hs}(hh:aY H C CB A W ss h):af W H:=hh.sub.trans bH
theorem dX {A:Ad}{d:Int}:List.lookup (Str.ofString "first_shades") (hfs A d)=some (.ref A.d1):=rfl
theorem vB {A:Ad}{d:Int}:List.lookup (Str.ofString "day_now") (hfs A d)=some (.int d):=rfl
theorem jm {A:Ad}{d:Int}:List.lookup (Str.ofString "standing") (hfs A d)=some (.ref A.ls):=rfl
theorem mH {A:Ad}{d:Int}:List.lookup (Str.ofString "books_from") (hfs A d)=some (.ref A.db):=rfl
theorem gj {A:Ad}{d:Int}{m:Str}(h1:(m==Str.ofString "first_shades")=false)(h2:(m==Str.ofString "day_now")=false)(h3:(m==Str.ofString "standing")=false)(h4:(m==Str.ofString "books_from")=false):List.lookup m (hfs A d)=none:=by
 unfold hfs
 rw[List.lookup_cons,h1]
 show List.lookup m [(Str.ofString "day_now",V.int d),(Str.ofString "standing",V.ref A.ls),(Str.ofString "books_from",V.ref A.db)]=none
 rw[List.lookup_cons,h2]
 show List.lookup m [(Str.ofString "standing",V.ref A.ls),(Str.ofString "books_from",V.ref A.db)]=none
 rw[List.lookup_cons,h3]
 show List.lookup m [(Str.ofString "books_from",V.ref A.db)]=none
 rw[List.lookup_cons,h4]
 rfl
structure Hx (K:PySem.W.Frag)(mg:Str→Option Value)(C:Addr):Prop where
 c:Cls K C
 n1:bP K C "first_shades"
 n2:bP K C "day_now"
 n3:bP K C "standing"
 n4:bP K C "books_from"
 fd:∃ t,mg "FIRST_DAY"=some (.int 1 t)
 ld:∃ t,mg "LAST_DAY"=some (.int 400 t)
 mc:∃ t,mg "MOST_CLOTHS"=some (.int 50 t)
 md:∃ t,mg "MOST_DIPS"=some (.int 1000 t)
 max:mg "max"=none
def lv (cND:Addr):Sp:=fun vs H Q E=>∃ d:Int,vs=[.int d]∧((1≤d∧d≤400)→Q .non H)∧(¬(1≤d∧d≤400)→E (.ref cND) none H)
theorem vv:ap ["day"] ["day"] (ae jV):=⟨rfl,rfl,rfl,by decide +kernel,rfl,by decide +kernel,by decide +kernel⟩
theorem tI {f:Addr}{fd:FuncData}{CH CB cND:Addr}(F:Fun K "check_day" "check_day" jV f fd)
   (T:Txt mg)(hX:Hx K mg CH)(cB:Cls K CB)(XND:fc K cND)(mND:mg "NoDay"=some (.ref cND)) :
   ao P w K mg base (CX1 P w) 1 f fd ["day"] (lv cND):=by
 refine F.okX vv (fun vs H Q E h=>?_) (fun cdv A outer s H vs Q E hr h=>?_)
 · obtain⟨_,rfl,_⟩:=h
   rfl
 · obtain⟨d,rfl,q,qe⟩:=h
   obtain⟨_,hfd⟩:=hX.fd
   obtain⟨_,hld⟩:=hX.ld
   refine⟨_,(ag (aZ (PW.pt (ir (aF i0 (pv 0) (cz (v:=.int 1) rfl hfd ⟨_,rfl⟩) (aK _)) (fh (aF js (pv 0) (cz (v:=.int 400) rfl hld ⟨_,rfl⟩) (aK _))))) (ag (cU rfl rfl mND XND.exc PySem.F.excBase_ValueError (aa aV ad) gI)) aB)),?_⟩
   walk_at "dm"
   refine bn (fun h=>⟨by decide,qe (by omega)⟩) (fun h1=>bn (fun h=>⟨by decide,qe (by omega)⟩) (fun h2=>q (by omega)))
def qW (CH CB cNC:Addr):Sp:=fun vs H Q E=>∃ (A:Ad)(W:Hp)(ss:List Str) (h:Hs) (z:Str),vs=[.ref A.x,.str z]∧aY H CH CB A W ss h∧Shw z∧(h.cl.map (·.1)).Nodup∧(z∈h.cl.map (·.1)→Q .non H)∧(z∉h.cl.map (·.1)→E (.ref cNC) none H)
theorem wS:ap ["self", "cloth"] ["self", "cloth"] (ae dR):=⟨rfl,rfl,rfl,by decide +kernel,rfl,by decide +kernel,by decide +kernel⟩
theorem vX {f:Addr}{fd:FuncData}{CH CB cNC:Addr}(F:Fun K "check_cloth" "House.check_cloth" dR f fd)
   (T:Txt mg)(hX:Hx K mg CH)(cB:Cls K CB)(XNC:fc K cNC)(mNC:mg "NoCloth"=some (.ref cNC)) :
   ao P w K mg base (CX1 P w) 1 f fd ["self", "cloth"] (qW CH CB cNC):=by
 refine F.okX wS (fun vs H Q E h=>?_) (fun cdv A outer s H vs Q E hr h=>?_)
 · obtain⟨_,_,_,_,_,rfl,_⟩:=h
   rfl
 · obtain⟨A0,W,ss,h,z,rfl,hh,hz,hnd,q,qe⟩:=h
   have hu:(cu (CX1 P w) P w K mg base ["self", "cloth"] "House.check_cloth" (ae dR) f cdv A outer s H E).A.units+1 < cLine:=by
     have:=hr.units
     exact Nat.lt_of_le_of_lt (Nat.add_le_add_left (by decide) _) this
   refine⟨_,(ag (aZ (ia (fq hu (pv 1) (bV (pv 0) rfl))) (ag (cU rfl rfl mNC XNC.exc PySem.F.excBase_ValueError (aa (gD (pv 1)) ad) gI)) aB)),?_⟩
   by_cases hm:z∈h.cl.map (·.1)
   · obtain⟨c,hc,rfl⟩:=List.mem_map.mp hm
     walk_at "dm"
     exact⟨CH,A0.dx,_,hh.ins,hX.c,hX.n1,_,dX,A0.d1,rfl,_,.inl ⟨_,Sum.inr c.1,.inl hh.cl,rfl,(lC hnd hc).symm⟩,q hm⟩
   · walk_at "dm"
     exact⟨CH,A0.dx,_,hh.ins,hX.c,hX.n1,_,dX,A0.d1,rfl,none,.inl ⟨_,Sum.inr z,.inl hh.cl,rfl,(eJ hm).symm⟩,hz.1,hz.2,fun y=>⟨by decide,qe hm⟩⟩
def uB (CH CB cND cLa:Addr):Sp:=fun vs H Q E=>∃ (A:Ad)(W:Hp)(ss:List Str) (h:Hs) (d:Int),vs=[.ref A.x,.int d]∧aY H CH CB A W ss h∧((1≤d∧d≤400)→h.day≤d→Q .non H)∧(¬(1≤d∧d≤400)→E (.ref cND) none H)∧((1≤d∧d≤400)→d < h.day→E (.ref cLa) none H)
theorem we:ap ["self", "day"] ["self", "day"] (ae gP):=⟨rfl,rfl,rfl,by decide +kernel,rfl,by decide +kernel,by decide +kernel⟩
theorem vD {f fCD:Addr}{fd fdCD:FuncData}{CH CB cLa cND:Addr}(F:Fun K "check_day_to_do" "House.check_day_to_do" gP f fd)
   (T:Txt mg)(hX:Hx K mg CH)(cB:Cls K CB)(XLa:fc K cLa)(mLa:mg "Late"=some (.ref cLa))
   (GCD:ao P w K mg base (CX1 P w) 1 fCD fdCD ["day"] (lv cND))(kCD:PySem.W.keepIn K (.ref fCD)=true)(bCD:ay K fdCD ["day"] [])(mCD:mg "check_day"=some (.ref fCD)) :
   ao P w K mg base (CX1 P w) 2 f fd ["self", "day"] (uB CH CB cND cLa):=by
 refine F.okX we (fun vs H Q E h=>?_) (fun cdv A outer s H vs Q E hr h=>?_)
 · obtain⟨_,_,_,_,_,rfl,_⟩:=h
   rfl
 · obtain⟨A0,W,ss,h,d,rfl,hh,q,qd,ql⟩:=h
   have hr1:=hr.mono (j:=1) (by omega)
   refine⟨_,(aj (aO (ar GCD hr1 rfl mCD kCD bCD .nil d2 (aa (pv 1) ad)))
     (ag (aZ (aF i0 (pv 1) (bV (pv 0) rfl) (aK _)) (ag (cU rfl rfl mLa XLa.exc PySem.F.excBase_ValueError (aa aV ad) gI)) aB))),?_⟩
   refine bj (fun σ' H'=>(1≤d∧d≤400)∧σ'=[some (.ref A0.x),some (.int d)]∧H'=H) (fun R hR=>?_) ?_
   · walk_at "dm"
     exact⟨d,rfl,fun hd=>hR _ _ ⟨hd,rfl,rfl⟩,qd⟩
   rintro σ1 H1 ⟨hd,rfl,rfl⟩
   walk_at "dm"
   exact⟨CH,A0.dx,_,hh.ins,hX.c,hX.n2,_,vB,_,rfl,bn (fun h1=>⟨by decide,ql hd h1⟩) (fun h1=>q hd (by omega))⟩
end

section
variable {P:Program}{w:World}{K:PySem.W.Frag}{mg:Str→Option Value}{base:Heap}
theorem lm {bk:List (Int×Bk)}{rs:List Addr}(h:rs.length=bk.length):(bkV bk rs).length=bk.length:=by
 unfold bkV
 rw[List.length_map,List.length_zip,h,Nat.min_self]
theorem oz:∀ {bk:List (Int×Bk)}{rs:List Addr}{i:Nat}{e:Int×Bk}{r:Addr},bk.Pairwise (fun a b=>a.1 < b.1)→bk[i]?=some e→rs[i]?=some r→b7 (bkV bk rs) (Sum.inl e.1)=some (V.ref r)
 | [],_,i,_,_,_,h,_=>by simp at h
 | a::bk,[],i,_,_,_,_,h=>by simp at h
 | a::bk,r0::rs,0,e,r,_,h1,h2=>by
   simp only[List.getElem?_cons_zero,Option.some.injEq] at h1 h2
   subst h1 h2
   unfold bkV b7
   simp
 | a::bk,r0::rs,i+1,e,r,hp,h1,h2=>by
   simp only[List.getElem?_cons_succ] at h1 h2
   have hp2:=List.pairwise_cons.mp hp
   have hlt:=hp2.1 e (List.mem_of_getElem? h1)
   have ih:=oz hp2.2 h1 h2
   unfold bkV b7 at ih ⊢
   rw[List.zip_cons_cons,List.map_cons,List.find?_cons]
   have hne:¬(a.1=e.1):=by omega
   simp only[Sum.inl.injEq,hne,decide_false]
   exact ih
def lR (CH CB cND:Addr):Sp:=fun vs H Q E=>∃ (A:Ad)(W:Hp)(ss names:List Str) (h:Hs) (d:Int),vs=[.ref A.x,.int d]∧aY H CH CB A W ss h∧cW ss names h∧((1≤d∧d≤400)→∀ r H',af H H'→br W CB r (dc h.bk d).1 (dc h.bk d).2→Q (.ref r) H')∧(¬(1≤d∧d≤400)→E (.ref cND) none H)
theorem tW:ap ["self", "day"] ["self", "day"] (ae gh):=⟨rfl,rfl,rfl,by decide +kernel,rfl,by decide +kernel,by decide +kernel⟩
theorem sQ {f fCD:Addr}{fd fdCD:FuncData}{CH CB cND:Addr}(F:Fun K "book" "House.book" gh f fd)
   (T:Txt mg)(hX:Hx K mg CH)(cB:Cls K CB)
   (GCD:ao P w K mg base (CX1 P w) 1 fCD fdCD ["day"] (lv cND))(kCD:PySem.W.keepIn K (.ref fCD)=true)(bCD:ay K fdCD ["day"] [])(mCD:mg "check_day"=some (.ref fCD)) :
   ao P w K mg base (CX1 P w) 2 f fd ["self", "day"] (lR CH CB cND):=by
 refine F.okX tW (fun vs H Q E h=>?_) (fun cdv A outer s H vs Q E hr h=>?_)
 · obtain⟨_,_,_,_,_,_,rfl,_⟩:=h
   rfl
 · obtain⟨A0,W,ss,names,h,d,rfl,hh,ho,q,qd⟩:=h
   have hu:(cu (CX1 P w) P w K mg base ["self", "day"] "House.book" (ae gh) f cdv A outer s H E).A.units+1 < cLine:=by
     have:=hr.units
     exact Nat.lt_of_le_of_lt (Nat.add_le_add_left (by decide) _) this
   have hr1:=hr.mono (j:=1) (by omega)
   refine⟨_,(aj (aO (ar GCD hr1 rfl mCD kCD bCD .nil d2 (aa (pv 1) ad)))
     (ag (ax (cp hu (bV (pv 0) rfl) (av (qy rfl) (by rfl) hX.max (by decide +kernel) (aa (uq (l5 (N':=["start", "day"]) (pk:=[none,some 1]) rfl (cg.of (by rfl)) (tY (bV (pv 0) rfl)) (fun s H ex=>(au (i:=0) (by show(["start", "day"]:List Str).Nodup;decide +kernel) rfl (Or.inl rfl))) (fun s H ex=>(aF uH (pv 0) (pv 1) (aK _))) (fun s H ex=>(pv 0)))) ad)) (fun _ _=>rfl))))),?_⟩
   have hs:=aQ
   refine bj (fun σ' H'=>(1≤d∧d≤400)∧σ'=[some (.ref A0.x),some (.int d)]∧H'=H) (fun R hR=>?_) ?_
   · walk_at "dm"
     exact⟨d,rfl,fun hd=>hR _ _ ⟨hd,rfl,rfl⟩,qd⟩
   rintro σ1 H1 ⟨hd,rfl,rfl⟩
   obtain⟨rs,hdb,hrl,hrB⟩:=hh.bk
   have hkl:=ho.kl
   have hnf:∀ o u,H1 A0.db≠some (.frz o u):=fun o u e=>by rw[hdb] at e;cases e
   have hkm:(bkV h.bk rs).map (·.1)=h.bk.map (fun e=>Sum.inl e.1):=by
     unfold bkV
     rw[List.map_map]
     have:(fun e:(Int×Bk)×Addr=>(Sum.inl e.1.1:Key))=(fun e=>(Sum.inl e.1:Key))∘Prod.fst:=rfl
     show(h.bk.zip rs).map (fun e=>(Sum.inl e.1.1:Key))=_
     rw[this,←List.map_map,List.map_fst_zip (by omega)]
   walk_at "dm"
   refine⟨CH,A0.dx,_,hh.ins,hX.c,hX.n4,_,mH,CH,A0.dx,_,hh.ins,hX.c,hX.n4,_,mH,A0.db,rfl,_,.inl ⟨hdb,fun o D hD=>?_⟩⟩
   have hDb:D≠A0.db:=fun e=>by rw[e,ac] at hD;cases hD
   refine nQ (mK (H1:=upd H1 A0.db (.frz o (.dK (bkV h.bk rs)))) ac) (by rw[lm hrl];omega) hD (fun σ=>∃ o,σ=[o,some (.int d)]) (fun i=>decide ((h.bk.getD i (0,([],[]))).1≤d)) (fun i=>V.int (h.bk.getD i (0,([],[]))).1) ⟨none,rfl⟩ ?_ ?_
   · rintro i x σ' H3 hi ⟨k,v,hk,rfl⟩ ⟨o2,rfl⟩ hS R1 R0 h1 h0
     rw[lm hrl] at hi
     obtain⟨e,he⟩:∃ e,h.bk[i]?=some e:=⟨_,List.getElem?_eq_getElem hi⟩
     have ek:k=Sum.inl e.1:=by
       have:=congrArg (fun l=>l[i]?) hkm
       simp only[List.getElem?_map,hk,he] at this
       simpa using this
     subst ek
     have eg:h.bk.getD i (0,([],[]))=e:=by rw[List.getD_eq_getElem?_getD,he];rfl
     rw[eg] at h1 h0
     walk_at "dm"
     refine⟨_,rfl,bn (fun hle=>h1 (decide_eq_true (by simpa using hle)) _ ⟨_,rfl⟩) (fun hle=>h0 (decide_eq_false (by simpa using hle)) _ ⟨_,rfl⟩)⟩
   · refine .inr ⟨A0.db,o,_,by rw[ai (Ne.symm hDb)];exact ac,hnf,?_⟩
     have hD1:H1 D=none:=by rw[ai hDb] at hD;exact hD
     have SF:∀ L:List V,af H1 (upd (upd (upd H1 A0.db (.frz o (.dK (bkV h.bk rs)))) D (.lst L)) A0.db (.dK (bkV h.bk rs))):=fun L b ob e=>by
       by_cases hb:b=A0.db
       · rw[hb,hdb] at e;rw[hb,ac];exact e
       · rw[ai hb,ai (ak e hD1),ai hb];exact e
     rw[lm hrl]
     have eL:((List.range h.bk.length).filter (fun i=>decide ((h.bk.getD i (0,([],[]))).1≤d))).map (fun i=>V.int (h.bk.getD i (0,([],[]))).1)=(((List.range h.bk.length).filter (fun i=>decide ((h.bk.getD i (0,([],[]))).1≤d))).map (fun i=>(h.bk.getD i (0,([],[]))).1)).map V.int:=by rw[List.map_map];rfl
     rw[eL]
     have mem:∀ M,M∈((List.range h.bk.length).filter (fun i=>decide ((h.bk.getD i (0,([],[]))).1≤d))).map (fun i=>(h.bk.getD i (0,([],[]))).1)↔∃ (i:Nat)(e:Int×Bk),h.bk[i]?=some e∧e.1≤d∧e.1=M:=fun M=>by
       rw[List.mem_map]
       constructor
       · rintro⟨i,hi,rfl⟩
         obtain⟨h1,h2⟩:=List.mem_filter.mp hi
         have hl:=List.mem_range.mp h1
         refine⟨i,h.bk.getD i (0,([],[])),?_,by simpa using h2,rfl⟩
         rw[List.getD_eq_getElem?_getD,List.getElem?_eq_getElem hl];rfl
       · rintro⟨i,e,h1,h2,rfl⟩
         have eg:h.bk.getD i (0,([],[]))=e:=by rw[List.getD_eq_getElem?_getD,h1];rfl
         exact⟨i,List.mem_filter.mpr ⟨List.mem_range.mpr (List.getElem?_eq_some_iff.mp h1).1,by rw[eg];exact decide_eq_true h2⟩,by rw[eg]⟩
     refine⟨_,SqL.of (by rw[ai hDb];exact ac),?_,fun M hM hmax=>?_⟩
     · obtain⟨b0,r0,hb0⟩:=ho.k1
       exact List.length_pos_of_mem ((mem 1).mpr ⟨0,(1,b0),by rw[hb0];rfl,hd.1,rfl⟩)
     · obtain⟨i,e,he,hle,rfl⟩:=(mem M).mp hM
       obtain⟨r,hr0⟩:∃ r,rs[i]?=some r:=⟨_,List.getElem?_eq_getElem (by rw[hrl];exact(List.getElem?_eq_some_iff.mp he).1)⟩
       refine⟨A0.db,rfl,V.ref r,.inl ⟨_,Sum.inl e.1,.inl ac,rfl,(oz ho.ks he hr0).symm⟩,q hd r _ (SF _) ?_⟩
       rw[pd h.bk d e.1 e.2 ho.ks (List.mem_of_getElem? he) hle fun e2 he2 hle2=>by
         obtain⟨j,hj⟩:=List.getElem?_of_mem he2
         exact hmax _ ((mem e2.1).mpr ⟨j,e2,hj,hle2,rfl⟩)]
       exact hrB i r e hr0 he
def nF (CH CB:Addr):Sp:=fun vs H Q E=>∃ (A:Ad)(W:Hp)(ss names:List Str) (h:Hs),vs=[.ref A.x]∧aY H CH CB A W ss h∧cW ss names h∧(∀ r H',af H H'→br W CB r (dc h.bk 400).1 (dc h.bk 400).2→Q (.ref r) H')
theorem vE:ap ["self"] ["self"] (ae eu):=⟨rfl,rfl,rfl,by decide +kernel,rfl,by decide +kernel,by decide +kernel⟩
theorem tP {f fHB:Addr}{fd fdHB:FuncData}{CH CB cND:Addr}(F:Fun K "newest_book" "House.newest_book" eu f fd)
   (T:Txt mg)(hX:Hx K mg CH)(cB:Cls K CB)
   (GHB:ao P w K mg base (CX1 P w) 2 fHB fdHB ["self", "day"] (lR CH CB cND))(hmHB:bQ K CH "book" fHB)(bHB:ay K fdHB ["self", "day"] []) :
   ao P w K mg base (CX1 P w) 3 f fd ["self"] (nF CH CB):=by
 refine F.okX vE (fun vs H Q E h=>?_) (fun cdv A outer s H vs Q E hr h=>?_)
 · obtain⟨_,_,_,_,_,rfl,_⟩:=h
   rfl
 · obtain⟨A0,W,ss,names,h,rfl,hh,ho,q⟩:=h
   obtain⟨_,hld⟩:=hX.ld
   have cH:=hX.c
   have hr2:=hr.mono (j:=2) (by omega)
   refine⟨_,(ag (ax (bf (pv 0) cH hmHB GHB hr2 bHB .nil d2 (aa (cz (v:=.int 400) rfl hld ⟨_,rfl⟩) ad)))),?_⟩
   walk_at "dm"
   exact⟨A0.dx,_,hh.ins,gj (by decide +kernel) (by decide +kernel) (by decide +kernel) (by decide +kernel),A0,W,ss,names,h,400,rfl,hh,ho,fun _=>q,fun hn=>absurd (by omega) hn⟩
end

section
variable {P:Program}{w:World}{K:PySem.W.Frag}{mg:Str→Option Value}{base:Heap}
def bZ (dp:List (Int×Str×Str×Str)) (c:Str) (d:Int):List (Int×Str×Str):=(dp.filter fun e=>decide (e.2.1=c)&&decide (e.1≤d)).map fun e=>(e.1,e.2.2.1,e.2.2.2)
def ba (h:Hs) (c:Str) (d:Int):Str:=match (bZ h.dp c d).getLast? with
 | some e=>e.2.2
 | none=>((h.cl.lookup c).getD ⟨#[]⟩)
abbrev d0:Int×Str×Str×Str:=(0,⟨#[]⟩,⟨#[]⟩,⟨#[]⟩)
theorem lV {α β:Type}(l:List α)(dflt:α)(p:α→Bool)(f:α→β):(((List.range l.length).filter (fun i=>p (l.getD i dflt))).map (fun i=>f (l.getD i dflt)))=(l.filter p).map f:=by
 have e:l=(List.range l.length).map (fun i=>l.getD i dflt):=by
   refine List.ext_getElem? fun i=>?_
   rw[List.getElem?_map]
   by_cases hi:i < l.length
   · rw[List.getElem?_range hi,List.getElem?_eq_getElem hi]
     show _=some (l.getD i dflt)
     rw[List.getD_eq_getElem?_getD,List.getElem?_eq_getElem hi];rfl
   · rw[List.getElem?_eq_none (by omega),List.getElem?_eq_none (by simpa using hi)];rfl
 conv=>rhs;rw[e]
 rw[List.filter_map,List.map_map]
 rfl
def mM (CH CB cNC cND:Addr):Sp:=fun vs H Q E=>∃ (A:Ad)(W:Hp)(ss names:List Str) (h:Hs) (z:Str) (d:Int),vs=[.ref A.x,.str z,.int d]∧aY H CH CB A W ss h∧cW ss names h∧Shw z∧(z∈h.cl.map (·.1)→(1≤d∧d≤400)→∀ l ps H',af H H'→H l=none→H' l=some (.lst (ps.map V.ref))→gG H' ps ((bZ h.dp z d).map fun e=>[.int e.1,.str e.2.1,.str e.2.2])→Q (.ref l) H')∧(z∉h.cl.map (·.1)→E (.ref cNC) none H)∧(z∈h.cl.map (·.1)→¬(1≤d∧d≤400)→E (.ref cND) none H)
theorem q9:ap ["self", "cloth", "day"] ["self", "cloth", "day"] (ae fi):=⟨rfl,rfl,rfl,by decide +kernel,rfl,by decide +kernel,by decide +kernel⟩
theorem pB {f fHC fCD:Addr}{fd fdHC fdCD:FuncData}{CH CB cNC cND:Addr}(F:Fun K "trail" "House.trail" fi f fd)
   (T:Txt mg)(hX:Hx K mg CH)(cB:Cls K CB)
   (GHC:ao P w K mg base (CX1 P w) 1 fHC fdHC ["self", "cloth"] (qW CH CB cNC))(hmHC:bQ K CH "check_cloth" fHC)(bHC:ay K fdHC ["self", "cloth"] [])
   (GCD:ao P w K mg base (CX1 P w) 1 fCD fdCD ["day"] (lv cND))(kCD:PySem.W.keepIn K (.ref fCD)=true)(bCD:ay K fdCD ["day"] [])(mCD:mg "check_day"=some (.ref fCD)) :
   ao P w K mg base (CX1 P w) 2 f fd ["self", "cloth", "day"] (mM CH CB cNC cND):=by
 refine F.okX q9 (fun vs H Q E h=>?_) (fun cdv A outer s H vs Q E hr h=>?_)
 · obtain⟨_,_,_,_,_,_,_,rfl,_⟩:=h
   rfl
 · obtain⟨A0,W,ss,names,h,z,d,rfl,hh,ho,hz,q,qc,qd⟩:=h
   have cH:=hX.c
   have hr1:=hr.mono (j:=1) (by omega)
   refine⟨_,(aj (aO (bf (pv 0) cH hmHC GHC hr1 bHC .nil d2 (aa (pv 1) ad)))
     (aj (aO (ar GCD hr1 rfl mCD kCD bCD .nil d2 (aa (pv 2) ad)))
     (ag (ax (l5 (N':=["when", "dipped", "bath", "out", "cloth", "day"]) (pk:=[none,none,none,none,some 1,some 2]) rfl (cg.of (by rfl)) (a9 (bV (pv 0) rfl)) (fun s H ex=>((d7 (n:=4) rfl (aX (au (i:=0) (by show(["when", "dipped", "bath", "out", "cloth", "day"]:List Str).Nodup;decide +kernel) rfl (Or.inl rfl)) (aX (au (i:=1) (by show(["when", "dipped", "bath", "out", "cloth", "day"]:List Str).Nodup;decide +kernel) rfl (Or.inl rfl)) (aX (au (i:=2) (by show(["when", "dipped", "bath", "out", "cloth", "day"]:List Str).Nodup;decide +kernel) rfl (Or.inl rfl)) (aX (au (i:=3) (by show(["when", "dipped", "bath", "out", "cloth", "day"]:List Str).Nodup;decide +kernel) rfl (Or.inl rfl)) dh))))):PG _ _ (qa K 4 (dw (cO 0) (dw (cO 1) (dw (cO 2) (dw (cO 3) nE))))))) (fun s H ex=>(PW.pt (vp (aF dn (pv 1) (pv 4) (aK _)) (tM (aF uH (pv 0) (pv 5) (aK _)))))) (fun s H ex=>(du (aa (pv 0) (aa (pv 2) (aa (pv 3) ad)))))))))),?_⟩
   have hs:=aQ
   refine bj (fun σ' H'=>z∈h.cl.map (·.1)∧σ'=[some (.ref A0.x),some (.str z),some (.int d)]∧H'=H) (fun R hR=>?_) ?_
   · walk_at "dm"
     exact⟨A0.dx,_,hh.ins,gj (by decide +kernel) (by decide +kernel) (by decide +kernel) (by decide +kernel),A0,W,ss,h,z,rfl,hh,hz,ho.cnd,fun hm=>hR _ _ ⟨hm,rfl,rfl⟩,qc⟩
   rintro σ1 H1 ⟨hm,rfl,rfl⟩
   refine bj (fun σ' H'=>(1≤d∧d≤400)∧σ'=[some (.ref A0.x),some (.str z),some (.int d)]∧H'=H1) (fun R hR=>?_) ?_
   · walk_at "dm"
     exact⟨d,rfl,fun hd=>hR _ _ ⟨hd,rfl,rfl⟩,qd hm⟩
   rintro σ2 H2 ⟨hd,rfl,rfl⟩
   obtain⟨ps,hls,hpl,hpT⟩:=hh.dp
   have hdl:=ho.dl
   walk_at "dm"
   refine⟨CH,A0.dx,_,hh.ins,hX.c,hX.n3,_,jm,A0.ls,rfl,⟨_,SqL.of hls⟩,fun D hD=>?_⟩
   refine qA (az (SqL.of hls)) (by rw[List.length_map];omega) hD (fun σ=>∃ o1 o2 o3 o4,σ=[o1,o2,o3,o4,some (.str z),some (.int d)]) (fun i=>(fun e:Int×Str×Str×Str=>decide (e.2.1=z)&&decide (e.1≤d)) (h.dp.getD i d0)) (fun i=>(fun e:Int×Str×Str×Str=>[V.int e.1,.str e.2.2.1,.str e.2.2.2]) (h.dp.getD i d0)) ⟨none,none,none,none,rfl⟩ ?_ ?_
   · rintro i x σ' H3 hi hx ⟨o1,o2,o3,o4,rfl⟩ hS R1 R0 h1 h0
     rw[List.getElem?_map] at hx
     obtain⟨p,hp,rfl⟩:=Option.map_eq_some_iff.mp hx
     obtain⟨e,he⟩:∃ e,h.dp[i]?=some e:=⟨_,List.getElem?_eq_getElem (by rw[List.length_map] at hi;omega)⟩
     have ht:=hS _ _ (hh.up _ _ (hpT i p e hp he))
     have eg:h.dp.getD i d0=e:=by rw[List.getD_eq_getElem?_getD,he];rfl
     simp only[eg] at h1 h0
     refine vT ht ?_
     walk_at "dm"
     refine⟨rfl,bn (fun hc=>bn (fun hle=>⟨by omega,fun p hp=>h1 (by simp[hc,hle]) p _ ⟨_,_,_,_,rfl⟩ hp⟩) (fun hle=>h0 (by simp[hle]) _ ⟨_,_,_,_,rfl⟩)) (fun hc=>h0 (by simp[hc]) _ ⟨_,_,_,_,rfl⟩)⟩
   · intro qs H' S' hHD hT
     rw[List.length_map,hpl,lV h.dp d0 (fun e=>decide (e.2.1=z)&&decide (e.1≤d)) (fun e=>[V.int e.1,.str e.2.2.1,.str e.2.2.2])] at hT
     refine q hm hd D qs H' S' hD hHD ?_
     unfold bZ
     rw[List.map_map]
     exact hT
theorem dI {cl:List (Str×Str)}{c:Str×Str}(hd:(cl.map (·.1)).Nodup)(h:c∈cl):cl.lookup c.1=some c.2:=by
 induction cl with
 | nil=>cases h
 | cons a r ih =>
   rw[List.map_cons,List.nodup_cons] at hd
   rw[List.lookup_cons]
   by_cases e:c.1=a.1
   · rw[show(c.1==a.1)=true from beq_iff_eq.mpr e]
     rcases List.mem_cons.mp h with h | h
     · rw[h]
     · exact absurd (List.mem_map_of_mem (f:=(·.1)) h) (by rw[e];exact hd.1)
   · rw[show(c.1==a.1)=false from beq_eq_false_iff_ne.mpr e]
     rcases List.mem_cons.mp h with h | h
     · exact absurd (by rw[h]) e
     · exact ih hd.2 h
def gJ (CH CB cNC cND:Addr):Sp:=fun vs H Q E=>∃ (A:Ad)(W:Hp)(ss names:List Str) (h:Hs) (z:Str) (d:Int),vs=[.ref A.x,.str z,.int d]∧aY H CH CB A W ss h∧cW ss names h∧Shw z∧(z∈h.cl.map (·.1)→(1≤d∧d≤400)→∀ H',af H H'→Q (.str (ba h z d)) H')∧(z∉h.cl.map (·.1)→E (.ref cNC) none H)∧(z∈h.cl.map (·.1)→¬(1≤d∧d≤400)→E (.ref cND) none H)
theorem l7:ap ["self", "cloth", "day", "trail"] ["self", "cloth", "day"] (ae eW):=⟨rfl,rfl,rfl,by decide +kernel,rfl,by decide +kernel,by decide +kernel⟩
theorem pV {f fHT:Addr}{fd fdHT:FuncData}{CH CB cNC cND:Addr}(F:Fun K "shade" "House.shade" eW f fd)
   (T:Txt mg)(hX:Hx K mg CH)(cB:Cls K CB)
   (GHT:ao P w K mg base (CX1 P w) 2 fHT fdHT ["self", "cloth", "day"] (mM CH CB cNC cND))(hmHT:bQ K CH "trail" fHT)(bHT:ay K fdHT ["self", "cloth", "day"] []) :
   ao P w K mg base (CX1 P w) 3 f fd ["self", "cloth", "day"] (gJ CH CB cNC cND):=by
 refine F.okX l7 (fun vs H Q E h=>?_) (fun cdv A outer s H vs Q E hr h=>?_)
 · obtain⟨_,_,_,_,_,_,_,rfl,_⟩:=h
   rfl
 · obtain⟨A0,W,ss,names,h,z,d,rfl,hh,ho,hz,q,qc,qd⟩:=h
   have hu:(cu (CX1 P w) P w K mg base ["self", "cloth", "day", "trail"] "House.shade" (ae eW) f cdv A outer s H E).A.units+1 < cLine:=by
     have:=hr.units
     exact Nat.lt_of_le_of_lt (Nat.add_le_add_left (by decide) _) this
   have cH:=hX.c
   have hr2:=hr.mono (j:=2) (by omega)
   refine⟨_,(aj (aC (i:=3) l7.nd rfl (Or.inl rfl) (bf (pv 0) cH hmHT GHT hr2 bHT .nil d2 (aa (pv 1) (aa (pv 2) ad))))
     (aj (aZ (aF dn (av aE (by rfl) T.len PySem.boot_len (aa (pv 3) ad)) ah (aK _)) (ag (ax (cp hu (bV (pv 0) rfl) (pv 1) (fun _ _=>rfl)))) aB)
     (ag (ax (aM cC (aM aG (pv 3) (iW gn ah) (fun _ _=>rfl)) ah (fun _ _=>rfl)))))),?_⟩
   have hs:=aQ
   refine bj (fun σ' H'=>∃ l ps,(z∈h.cl.map (·.1))∧(1≤d∧d≤400)∧σ'=[some (.ref A0.x),some (.str z),some (.int d),some (.ref l)]∧af H H'∧H' l=some (.lst (ps.map V.ref))∧gG H' ps ((bZ h.dp z d).map fun e=>[.int e.1,.str e.2.1,.str e.2.2])) (fun R hR=>?_) ?_
   · walk_at "dm"
     exact⟨A0.dx,_,hh.ins,gj (by decide +kernel) (by decide +kernel) (by decide +kernel) (by decide +kernel),A0,W,ss,names,h,z,d,rfl,hh,ho,hz,fun hm hd l ps H' S' hl hH hT=>hR _ _ ⟨l,ps,hm,hd,rfl,S',hH,hT⟩,qc,qd⟩
   rintro σ1 H1 ⟨l,ps,hm,hd,rfl,S1,hl1,hT⟩
   have q:=q hm hd
   refine bj (fun σ' H'=>bZ h.dp z d≠[]∧σ'=[some (.ref A0.x),some (.str z),some (.int d),some (.ref l)]∧H'=H1) (fun R hR=>?_) ?_
   · obtain⟨c,hc,rfl⟩:=List.mem_map.mp hm
     walk_at "dm"
     have hpl:=hT.1
     rw[List.length_map] at hpl
     refine⟨_,.inl (SqL.of hl1),rfl,?_⟩
     rw[List.length_map,hpl]
     refine bn (fun h0=>?_) (fun h0=>hR _ _ ⟨fun e=>h0 (by rw[e];rfl),rfl,rfl⟩)
     have e0:bZ h.dp c.1 d=[]:=List.length_eq_zero_iff.mp (by omega)
     refine⟨CH,A0.dx,_,S1 _ _ hh.ins,hX.c,hX.n1,_,dX,_,rfl,_,.inl ⟨_,Sum.inr c.1,.inl (S1 _ _ hh.cl),rfl,(lC ho.cnd hc).symm⟩,?_⟩
     have es:ba h c.1 d=c.2:=by
       unfold ba
       rw[e0]
       show(h.cl.lookup c.1).getD _=_
       rw[dI ho.cnd hc]
       rfl
     have:=q H1 S1
     rw[es] at this
     exact this
   rintro σ2 H2 ⟨hne,rfl,rfl⟩
   have hpl:=hT.1
   rw[List.length_map] at hpl
   have hlast:(bZ h.dp z d).getLast?=some ((bZ h.dp z d).getLast hne):=List.getLast?_eq_some_getLast hne
   have hps:ps≠[]:=fun e=>hne (List.length_eq_zero_iff.mp (by rw[←hpl,e];rfl))
   walk_at "dm"
   have ea:atI (ps.map V.ref) (-1)=some (V.ref (ps.getLast hps)):=by
     have e:ps.map V.ref=ps.dropLast.map V.ref++[V.ref (ps.getLast hps)]:=by
       rw[←List.map_singleton,←List.map_append,List.dropLast_concat_getLast hps]
     rw[e]
     exact gv _ _
   have ht:=hT.2 (ps.length - 1) (ps.getLast hps) [.int ((bZ h.dp z d).getLast hne).1,.str ((bZ h.dp z d).getLast hne).2.1,.str ((bZ h.dp z d).getLast hne).2.2] (by rw[List.getLast_eq_getElem];exact List.getElem?_eq_getElem _) (by rw[List.getElem?_map,hpl,List.getLast_eq_getElem,List.getElem?_eq_getElem (by have:=List.length_pos_iff.mpr hne;omega)];rfl)
   refine⟨_,SqL.of hl1,_,ea,_,rfl,_,SqT.of ht,V.str ((bZ h.dp z d).getLast hne).2.2,rfl,?_⟩
   have es:ba h z d=((bZ h.dp z d).getLast hne).2.2:=by
     unfold ba
     rw[hlast]
   rw[←es]
   exact q H2 S1
end

section
variable {P:Program}{w:World}{K:PySem.W.Frag}{mg:Str→Option Value}{base:Heap}
theorem pF1 {v:V}:cF (Str.ofString "first_shades") v []=[(Str.ofString "first_shades",v)]:=rfl
theorem pF2 {v u:V}:cF (Str.ofString "day_now") u [(Str.ofString "first_shades",v)]=[(Str.ofString "first_shades",v),(Str.ofString "day_now",u)]:=by
 show(if Str.ofString "first_shades"=Str.ofString "day_now" then _ else _)=_
 rw[if_neg (by decide +kernel)]
 rfl
theorem pF3 {v u t:V}:cF (Str.ofString "standing") t [(Str.ofString "first_shades",v),(Str.ofString "day_now",u)]=[(Str.ofString "first_shades",v),(Str.ofString "day_now",u),(Str.ofString "standing",t)]:=by
 unfold cF
 rw[if_neg (by decide +kernel)]
 unfold cF
 rw[if_neg (by decide +kernel)]
 rfl
theorem pF4 {v u t r:V}:cF (Str.ofString "books_from") r [(Str.ofString "first_shades",v),(Str.ofString "day_now",u),(Str.ofString "standing",t)]=[(Str.ofString "first_shades",v),(Str.ofString "day_now",u),(Str.ofString "standing",t),(Str.ofString "books_from",r)]:=by
 unfold cF
 rw[if_neg (by decide +kernel)]
 unfold cF
 rw[if_neg (by decide +kernel)]
 unfold cF
 rw[if_neg (by decide +kernel)]
 rfl
theorem pFd {A:Ad}{d e:Int}:cF (Str.ofString "day_now") (.int e) (hfs A d)=hfs A e:=by
 unfold hfs cF
 rw[if_neg (by decide +kernel)]
 unfold cF
 rw[if_pos rfl]
def lu (CH CB:Addr):Sp:=fun vs H Q _=>∃ (x dx bk:Addr)(W:Hp)(ss:List Str)(bs:List (Str×List Str)),vs=[.ref x,.ref bk]∧H x=some (.ins CH dx [])∧af W (hide H x)∧br W CB bk ss bs∧∀ (A:Ad) H',A.x=x→af (hide H x) (hid H' A)→aY H' CH CB A W ss ⟨[],1,[],[(1,(ss,bs))]⟩→Q .non H'
theorem sZ:ap ["self", "book"] ["self", "book"] (ae hJ):=⟨rfl,rfl,rfl,by decide +kernel,rfl,by decide +kernel,by decide +kernel⟩
theorem qS {f:Addr}{fd:FuncData}{CH CB :Addr}(F:Fun K "__init__" "House.__init__" hJ f fd)
   (T:Txt mg)(hX:Hx K mg CH)(cB:Cls K CB)  :
   ao P w K mg base CX0 1 f fd ["self", "book"] (lu CH CB):=by
 refine F.ok sZ (fun vs H Q E h=>?_) (fun cdv A outer s H vs Q E hr h=>?_)
 · obtain⟨_,_,_,_,_,_,rfl,_⟩:=h
   rfl
 · obtain⟨x,dx,bk,W,ss,bs,rfl,hx,hW,hbk,q⟩:=h
   obtain⟨_,hfd⟩:=hX.fd
   refine⟨_,(aj (gs (pv 0) fb rfl)
     (aj (gs (pv 0) (cz (v:=.int 1) rfl hfd ⟨_,rfl⟩) rfl)
     (aj (gs (pv 0) (bx ad) rfl)
     (ag (gs (pv 0) (sT (qY (cz (v:=.int 1) rfl hfd ⟨_,rfl⟩) (pv 1) sU) rfl rfl (by simp) (by decide)) rfl))))),?_⟩
   have hs:=aQ
   have hx0:hide H x x=none:=by unfold hide;rw[if_pos rfl]
   refine bj (fun σ' H'=>∃ d1,σ'=[some (.ref x),some (.ref bk)]∧H d1=none∧H'=upd (upd H d1 (.dK [])) x (.ins CH dx [("first_shades",.ref d1)])) (fun R hR=>?_) ?_
   · walk_at "dm"
     intro d hd
     have hxd:x≠d:=fun e=>by rw[←e,hx] at hd;cases hd
     exact⟨CH,dx,_,by rw[ai hxd];exact hx,hX.c,hX.n1,by decide,hR _ _ ⟨d,rfl,hd,by rw[pF1]⟩⟩
   rintro σ1 H1 ⟨d1,rfl,hd1,rfl⟩
   have hxd1:x≠d1:=fun e=>by rw[←e,hx] at hd1;cases hd1
   refine bj (fun σ' H'=>σ'=[some (.ref x),some (.ref bk)]∧H'=upd (upd H d1 (.dK [])) x (.ins CH dx [("first_shades",.ref d1),("day_now",.int 1)])) (fun R hR=>?_) ?_
   · walk_at "dm"
     exact⟨CH,dx,_,ac,hX.c,hX.n2,by simp,hR _ _ ⟨rfl,by rw[pF2,iR]⟩⟩
   rintro σ2 H2 ⟨rfl,rfl⟩
   refine bj (fun σ' H'=>∃ ls,σ'=[some (.ref x),some (.ref bk)]∧upd (upd H d1 (.dK [])) x (.ins CH dx [("first_shades",.ref d1),("day_now",.int 1)]) ls=none∧H'=upd (upd (upd (upd H d1 (.dK [])) x (.ins CH dx [("first_shades",.ref d1),("day_now",.int 1)])) ls (.lst [])) x (.ins CH dx [("first_shades",.ref d1),("day_now",.int 1),("standing",.ref ls)])) (fun R hR=>?_) ?_
   · walk_at "dm"
     refine⟨by omega,fun ls hls=>?_⟩
     have hxl:x≠ls:=fun e=>by rw[←e,ac] at hls;cases hls
     exact⟨CH,dx,_,by rw[ai hxl];exact ac,hX.c,hX.n3,by simp,hR _ _ ⟨ls,rfl,hls,by rw[pF3]⟩⟩
   rintro σ3 H3 ⟨ls,rfl,hls,rfl⟩
   have hxl:x≠ls:=fun e=>by rw[←e,ac] at hls;cases hls
   have hlsH:ls≠d1:=fun e=>by rw[e,ai (Ne.symm hxd1),ac] at hls;cases hls
   have hlsN:H ls=none:=by rw[ai (Ne.symm hxl),ai hlsH] at hls;exact hls
   walk_at "dm"
   intro p hp
   have hxp:x≠p:=fun e=>by rw[←e,ac] at hp;cases hp
   have hlp:ls≠p:=fun e=>by rw[←e,ai (Ne.symm hxl),ac] at hp;cases hp
   have hdp:d1≠p:=fun e=>by rw[←e,ai (Ne.symm hxd1),ai (Ne.symm hlsH),ai (Ne.symm hxd1),ac] at hp;cases hp
   have hpN:H p=none:=by rw[ai (Ne.symm hxp),ai (Ne.symm hlp),ai (Ne.symm hxp),ai (Ne.symm hdp)] at hp;exact hp
   refine⟨ac,[(Sum.inl 1,V.ref bk)],rfl,by simp,CH,dx,_,by rw[ai hxp,ai hxp,ac],hX.c,hX.n4,by simp,?_⟩
   rw[pF4]
   have e1:cE [] [((Sum.inl 1:Key),V.ref bk)]=[(Sum.inl 1,V.ref bk)]:=rfl
   rw[e1]
   have S:af (hide H x) (hid (upd (upd (upd (upd (upd (upd (upd H d1 (.dK [])) x (.ins CH dx [("first_shades",.ref d1),("day_now",.int 1)])) ls (.lst [])) x (.ins CH dx [("first_shades",.ref d1),("day_now",.int 1),("standing",.ref ls)])) p (.dK [])) p (.dK [(Sum.inl 1,V.ref bk)])) x (.ins CH dx [("first_shades",.ref d1),("day_now",.int 1),("standing",.ref ls),("books_from",.ref p)])) ⟨x,dx,d1,ls,p⟩):=fun b o e=>by
     have hbx:b≠x:=fun z=>by rw[z,hx0] at e;cases e
     rw[bq hbx] at e
     have h1:b≠d1:=ak e hd1
     have h2:b≠ls:=ak e hlsN
     have h3:b≠p:=ak e hpN
     unfold hid
     rw[if_neg (fun z=>by rcases z with z | z | z | z;exact hbx z;exact h1 z;exact h2 z;exact h3 z)]
     rw[ai hbx,ai h3,ai h3,ai hbx,ai h2,ai hbx,ai h1]
     exact e
   refine q ⟨x,dx,d1,ls,p⟩ _ rfl S ⟨ac,?_,⟨[],?_,rfl,by intro i p e h;simp at h⟩,⟨[bk],?_,rfl,?_⟩,hdp,hW.trans S⟩
   · show upd _ x _ d1=_
     rw[ai (Ne.symm hxd1),ai hdp,ai hdp,ai (Ne.symm hxd1),ai (Ne.symm hlsH),ai (Ne.symm hxd1),ac]
     rfl
   · show upd _ x _ ls=_
     rw[ai (Ne.symm hxl),ai hlp,ai hlp,ai (Ne.symm hxl),ac]
     rfl
   · show upd _ x _ p=_
     rw[ai (Ne.symm hxp),ac]
     rfl
   · intro i r e hr he
     rcases i with _ | i
     · cases hr
       cases he
       exact hbk
     · simp at hr
end

section
variable {P:Program}{w:World}{K:PySem.W.Frag}{mg:Str→Option Value}{base:Heap}
theorem m7:∀ {bk:List (Int×Bk)}{d:Int},bk≠[]→∃ e∈bk,dc bk d=e.2
 | [],_,h=>absurd rfl h
 | [e],d,_=>⟨e,List.mem_cons_self,rfl⟩
 | e::e2::r,d,_=>by
   unfold dc
   by_cases h2:e2.1≤d
   · rw[if_pos h2]
     obtain⟨x,hx,hxe⟩:=m7 (bk:=e2::r) (d:=d) (by simp)
     exact⟨x,List.mem_cons_of_mem _ hx,hxe⟩
   · rw[if_neg h2]
     exact⟨e,List.mem_cons_self,rfl⟩
theorem cW.on {ss names:List Str}{h:Hs}(ho:cW ss names h) (d:Int):aP (dc h.bk d).1 (dc h.bk d).2∧(∀ n,n∈(dc h.bk d).2.map (·.1)↔n∈names)∧∀ z,z∈(dc h.bk d).1↔z∈ss:=by
 obtain⟨b,r,hb⟩:=ho.k1
 obtain⟨e,he,hbk⟩:=m7 (bk:=h.bk) (d:=d) (by rw[hb];simp)
 rw[hbk]
 exact ho.kb e he
theorem rM {cl:List (Str×Str)}{c z:Str}(h:c∉cl.map (·.1)):eV (clV cl) (Sum.inr c) (V.str z)=clV (cl++[(c,z)]):=by
 rw[ej _ (eJ h)]
 unfold clV
 rw[List.map_append]
 rfl
theorem oY {cl:List (Str×Str)}:(clV cl).length=cl.length:=List.length_map ..
theorem ln {H:Hp}{A:Ad}{b:Addr}{o:HO}(h:b=A.x∨b=A.d1∨b=A.ls∨b=A.db):hid (upd H b o) A=hid H A:=by
 funext y
 unfold hid
 by_cases hy:y=A.x∨y=A.d1∨y=A.ls∨y=A.db
 · rw[if_pos hy,if_pos hy]
 · rw[if_neg hy,if_neg hy]
   exact ai fun e=>hy (by rw[e];exact h)
theorem aY.xd {H:Hp}{C CB:Addr}{A:Ad}{W:Hp}{ss:List Str}{h:Hs}(hh:aY H C CB A W ss h):A.x≠A.d1∧A.x≠A.ls∧A.x≠A.db∧A.d1≠A.ls∧A.ls≠A.db:=by
 obtain⟨h1,h2,⟨ps,h3,_⟩,⟨rs,h6,_⟩,_,_⟩:=hh
 refine⟨fun e=>?_,fun e=>?_,fun e=>?_,fun e=>?_,fun e=>?_⟩
 · rw[e,h2] at h1;cases h1
 · rw[e,h3] at h1;cases h1
 · rw[e,h6] at h1;cases h1
 · rw[e,h3] at h2;cases h2
 · rw[e,h6] at h3;cases h3
def jv (CH CB cBN cKn cNS cFu:Addr):Sp:=fun vs H Q E=>∃ (A:Ad)(W:Hp)(ss names:List Str) (h:Hs) (c z:Str),vs=[.ref A.x,.str c,.str z]∧aY H CH CB A W ss h∧cW ss names h∧h.cl.length≤1000∧Shw c∧Shw z∧(bp c=false→∀ H',af H H'→E (.ref cBN) none H')∧(bp c=true→c∈h.cl.map (·.1)→∀ H',af H H'→E (.ref cKn) none H')∧(bp c=true→c∉h.cl.map (·.1)→z∉ss→∀ H',af H H'→E (.ref cNS) none H')∧(bp c=true→c∉h.cl.map (·.1)→z∈ss→50≤h.cl.length→∀ H',af H H'→E (.ref cFu) none H')∧(bp c=true→c∉h.cl.map (·.1)→z∈ss→h.cl.length < 50→∀ H',af (hid H A) (hid H' A)→aY H' CH CB A W ss { h with cl:=h.cl++[(c,z)] }→Q .non H')
theorem rq:ap ["self", "cloth", "shade"] ["self", "cloth", "shade"] (ae eT):=⟨rfl,rfl,rfl,by decide +kernel,rfl,by decide +kernel,by decide +kernel⟩
theorem pC {f fGd fHN fMH:Addr}{fd fdGd fdHN fdMH:FuncData}{CH CB cBN cFu cKn cNS:Addr}(F:Fun K "bring" "House.bring" eT f fd)
   (T:Txt mg)(hX:Hx K mg CH)(cB:Cls K CB)(XBN:fc K cBN)(mBN:mg "BadName"=some (.ref cBN))(XKn:fc K cKn)(mKn:mg "Known"=some (.ref cKn))(XFu:fc K cFu)(mFu:mg "Full"=some (.ref cFu))
   (GGd:ao P w K mg base CX0 1 fGd fdGd ["text"] om)(kGd:PySem.W.keepIn K (.ref fGd)=true)(bGd:ay K fdGd ["text"] [])(mGd:mg "good_name"=some (.ref fGd))
   (GHN:ao P w K mg base (CX1 P w) 3 fHN fdHN ["self"] (nF CH CB))(hmHN:bQ K CH "newest_book" fHN)(bHN:ay K fdHN ["self"] [])
   (GMH:ao P w K mg base (CX1 P w) 1 fMH fdMH ["self", "shade"] (iZ CB cNS))(hmMH:bQ K CB "check_shade" fMH)(bMH:ay K fdMH ["self", "shade"] []) :
   ao P w K mg base (CX1 P w) 5 f fd ["self", "cloth", "shade"] (jv CH CB cBN cKn cNS cFu):=by
 refine F.okX rq (fun vs H Q E h=>?_) (fun cdv A outer s H vs Q E hr h=>?_)
 · obtain⟨_,_,_,_,_,_,_,rfl,_⟩:=h
   rfl
 · obtain⟨A0,W,ss,names,h,c,z,rfl,hh,ho,hcl,hc,hz,qb,qk,qs,qf,q⟩:=h
   have hu:(cu (CX1 P w) P w K mg base ["self", "cloth", "shade"] "House.bring" (ae eT) f cdv A outer s H E).A.units+1 < cLine:=by
     have:=hr.units
     exact Nat.lt_of_le_of_lt (Nat.add_le_add_left (by decide) _) this
   obtain⟨_,hmc⟩:=hX.mc
   have cH:=hX.c
   have hr1:=hr.mono (j:=1) (by omega)
   have hr3:=hr.mono (j:=3) (by omega)
   refine⟨_,(aj (aZ (dv (dr (ar GGd hr1 rfl mGd kGd bGd .nil aJ (aa (pv 1) ad)))) (ag (cU rfl rfl mBN XBN.exc PySem.F.excBase_ValueError (aa (gD (pv 1)) ad) gI)) aB)
     (aj (aZ (ia (qK hu (pv 1) (bV (pv 0) rfl))) (ag (cU rfl rfl mKn XKn.exc PySem.F.excBase_ValueError (aa (gD (pv 1)) ad) gI)) aB)
     (aj (aO (bf (el (pv 0) cH hmHN GHN hr3 bHN .nil d2) cB hmMH GMH hr1 bMH .nil d2 (aa (pv 2) ad)))
     (aj (aZ (aF io (av pQ (by rfl) T.len PySem.boot_len (aa (bV (pv 0) rfl) ad)) (cz (v:=.int 50) rfl hmc ⟨_,rfl⟩) (aK _)) (ag (cU rfl rfl mFu XFu.exc PySem.F.excBase_ValueError (aa aV ad) gI)) aB)
     (ag (gw hu (bV (pv 0) rfl) (pv 1) (pv 2) rfl)))))),?_⟩
   have hs:=aQ
   refine bj (fun σ' H'=>bp c=true∧σ'=[some (.ref A0.x),some (.str c),some (.str z)]∧af H H') (fun R hR=>?_) ?_
   · walk_at "dm"
     refine⟨c,rfl,hc.1,fun H2 S2=>?_⟩
     by_cases hg:bp c=true
     · rw[hg]
       exact⟨_,rfl,bn (fun h=>by cases h) (fun _=>hR _ _ ⟨hg,rfl,S2⟩)⟩
     · have hg':bp c=false:=by simpa using hg
       rw[hg']
       exact⟨_,rfl,bn (fun _=>⟨hc.1,hc.2,fun y=>⟨by decide,qb hg' _ S2⟩⟩) (fun h=>absurd rfl h)⟩
   rintro σ1 H1 ⟨hg,rfl,S1⟩
   have hh1:=af.house S1 hh
   refine bj (fun σ' H'=>c∉h.cl.map (·.1)∧σ'=[some (.ref A0.x),some (.str c),some (.str z)]∧H'=H1) (fun R hR=>?_) ?_
   · by_cases hm:c∈h.cl.map (·.1)
     · obtain⟨c0,hc0,rfl⟩:=List.mem_map.mp hm
       walk_at "dm"
       exact⟨CH,A0.dx,_,hh1.ins,hX.c,hX.n1,_,dX,A0.d1,rfl,_,.inl ⟨_,Sum.inr c0.1,.inl hh1.cl,rfl,(lC ho.cnd hc0).symm⟩,hc.1,hc.2,fun y=>⟨by decide,qk hg hm _ S1⟩⟩
     · walk_at "dm"
       exact⟨CH,A0.dx,_,hh1.ins,hX.c,hX.n1,_,dX,A0.d1,rfl,none,.inl ⟨_,Sum.inr c,.inl hh1.cl,rfl,(eJ hm).symm⟩,hR _ _ ⟨hm,rfl,rfl⟩⟩
   rintro σ2 H2 ⟨hm,rfl,rfl⟩
   refine bj (fun σ' H'=>z∈ss∧σ'=[some (.ref A0.x),some (.str c),some (.str z)]∧af H H') (fun R hR=>?_) ?_
   · walk_at "dm"
     refine⟨A0.dx,_,hh1.ins,gj (by decide +kernel) (by decide +kernel) (by decide +kernel) (by decide +kernel),A0,W,ss,names,h,rfl,hh1,ho,fun r H3 S3 hbk=>?_⟩
     have hbk2:=af.book (af.house S3 hh1).up hbk
     have hbk3:=hbk2
     obtain⟨dxb,tb,db,so,b1,b2,b3,b4,b5⟩:=hbk2
     exact⟨r,rfl,dxb,_,b1,cb (by decide +kernel) (by decide +kernel),r,_,_,z,rfl,hbk3,hz,fun hzs=>hR _ _ ⟨((ho.on 400).2.2 z).mp hzs,rfl,S1.trans S3⟩,fun hzs=>qs hg hm (fun y=>hzs (((ho.on 400).2.2 z).mpr y)) _ (S1.trans S3)⟩
   rintro σ3 H3 ⟨hzs,rfl,S3⟩
   have hh3:=af.house S3 hh
   refine bj (fun σ' H'=>h.cl.length < 50∧σ'=[some (.ref A0.x),some (.str c),some (.str z)]∧H'=H3) (fun R hR=>?_) ?_
   · walk_at "dm"
     refine⟨CH,A0.dx,_,hh3.ins,hX.c,hX.n1,_,dX,A0.d1,rfl,_,hh3.cl,?_⟩
     rw[oY]
     exact bn (fun h5=>⟨by decide,qf hg hm hzs (by omega) _ S3⟩) (fun h5=>hR _ _ ⟨by omega,rfl,rfl⟩)
   rintro σ4 H4 ⟨h50,rfl,rfl⟩
   obtain⟨n1,n2,n3,n4,n5⟩:=hh3.xd
   walk_at "dm"
   refine⟨CH,A0.dx,_,hh3.ins,hX.c,hX.n1,_,dX,A0.d1,rfl,_,.inl ⟨_,Sum.inr c,hh3.cl,rfl,by rw[oY];omega,rfl⟩,?_⟩
   rw[rM hm]
   have eh:hid (upd H4 A0.d1 (.dK (clV (h.cl++[(c,z)])))) A0=hid H4 A0:=ln (.inr (.inl rfl))
   refine q hg hm hzs h50 _ (by rw[eh];exact fe S3) ?_
   obtain⟨h1,h2,⟨ps,h3,h4,h5⟩,⟨rs,h6,h7,h8⟩,h9,h10⟩:=hh3
   exact⟨by rw[ai n1];exact h1,ac,⟨ps,by rw[ai (Ne.symm n4)];exact h3,h4,h5⟩,⟨rs,by rw[ai (Ne.symm h9)];exact h6,h7,h8⟩,h9,by rw[eh];exact h10⟩
end

section
variable {P:Program}{w:World}{K:PySem.W.Frag}{mg:Str→Option Value}{base:Heap}
theorem oh {ss names:List Str}{h:Hs}(ho:cW ss names h){c:Str}(hc:c∈h.cl.map (·.1)) (d:Int):ba h c d∈ss:=by
 unfold ba
 split
 · rename_i e he
   have hm:=List.mem_of_getLast? he
   unfold bZ at hm
   obtain⟨x,hx,rfl⟩:=List.mem_map.mp hm
   exact ho.ds x (List.mem_filter.mp hx).1
 · obtain⟨c0,hc0,rfl⟩:=List.mem_map.mp hc
   rw[dI ho.cnd hc0]
   exact ho.csh c0 hc0
def nP (CH CB cNC cNB cND cLa cFu:Addr):Sp:=fun vs H Q E=>∃ (A:Ad)(W:Hp)(ss names:List Str) (h:Hs) (c b:Str) (d:Int),vs=[.ref A.x,.str c,.str b,.int d]∧aY H CH CB A W ss h∧cW ss names h∧Shw c∧Shw b∧(c∉h.cl.map (·.1)→∀ H',af H H'→E (.ref cNC) none H')∧(c∈h.cl.map (·.1)→b∉names→∀ H',af H H'→E (.ref cNB) none H')∧(c∈h.cl.map (·.1)→b∈names→¬(1≤d∧d≤400)→∀ H',af H H'→E (.ref cND) none H')∧(c∈h.cl.map (·.1)→b∈names→(1≤d∧d≤400)→d < h.day→∀ H',af H H'→E (.ref cLa) none H')∧(c∈h.cl.map (·.1)→b∈names→(1≤d∧d≤400)→h.day≤d→1000≤h.dp.length→∀ H',af H H'→E (.ref cFu) none H')∧(c∈h.cl.map (·.1)→b∈names→(1≤d∧d≤400)→h.day≤d→h.dp.length < 1000→∀ H' W',af (hid H A) (hid H' A)→wm H W W'→aY H' CH CB A W' ss { h with day:=d,dp:=h.dp++[(d,c,b,lkB (dc h.bk d).1 (dc h.bk d).2 b (ba h c d))] }→Q (.str (lkB (dc h.bk d).1 (dc h.bk d).2 b (ba h c d))) H')
theorem re:ap ["self", "cloth", "bath", "day", "out"] ["self", "cloth", "bath", "day"] (ae jT):=⟨rfl,rfl,rfl,by decide +kernel,rfl,by decide +kernel,by decide +kernel⟩
theorem sV {f fHC fHN fMC fHD fHB fHS fMO:Addr}{fd fdHC fdHN fdMC fdHD fdHB fdHS fdMO:FuncData}{CH CB cFu cLa cNB cNC cND:Addr}(F:Fun K "dip" "House.dip" jT f fd)
   (T:Txt mg)(hX:Hx K mg CH)(cB:Cls K CB)(XFu:fc K cFu)(mFu:mg "Full"=some (.ref cFu))
   (GHC:ao P w K mg base (CX1 P w) 1 fHC fdHC ["self", "cloth"] (qW CH CB cNC))(hmHC:bQ K CH "check_cloth" fHC)(bHC:ay K fdHC ["self", "cloth"] [])
   (GHN:ao P w K mg base (CX1 P w) 3 fHN fdHN ["self"] (nF CH CB))(hmHN:bQ K CH "newest_book" fHN)(bHN:ay K fdHN ["self"] [])
   (GMC:ao P w K mg base (CX1 P w) 1 fMC fdMC ["self", "bath"] (j9 CB cNB))(hmMC:bQ K CB "check_bath" fMC)(bMC:ay K fdMC ["self", "bath"] [])
   (GHD:ao P w K mg base (CX1 P w) 2 fHD fdHD ["self", "day"] (uB CH CB cND cLa))(hmHD:bQ K CH "check_day_to_do" fHD)(bHD:ay K fdHD ["self", "day"] [])
   (GHB:ao P w K mg base (CX1 P w) 2 fHB fdHB ["self", "day"] (lR CH CB cND))(hmHB:bQ K CH "book" fHB)(bHB:ay K fdHB ["self", "day"] [])
   (GHS:ao P w K mg base (CX1 P w) 3 fHS fdHS ["self", "cloth", "day"] (gJ CH CB cNC cND))(hmHS:bQ K CH "shade" fHS)(bHS:ay K fdHS ["self", "cloth", "day"] [])
   (GMO:ao P w K mg base CX0 2 fMO fdMO ["self", "bath", "shade"] (nw CB))(hmMO:bQ K CB "out" fMO)(bMO:ay K fdMO ["self", "bath", "shade"] []) :
   ao P w K mg base (CX1 P w) 5 f fd ["self", "cloth", "bath", "day"] (nP CH CB cNC cNB cND cLa cFu):=by
 refine F.okX re (fun vs H Q E h=>?_) (fun cdv A outer s H vs Q E hr h=>?_)
 · obtain⟨_,_,_,_,_,_,_,_,rfl,_⟩:=h
   rfl
 · obtain⟨A0,W,ss,names,h,c,b,d,rfl,hh,ho,hc,hb,qc,qb,qd,ql,qf,q⟩:=h
   obtain⟨_,hmd⟩:=hX.md
   have cH:=hX.c
   have hr1:=hr.mono (j:=1) (by omega)
   have hr2:=hr.mono (j:=2) (by omega)
   have hr3:=hr.mono (j:=3) (by omega)
   refine⟨_,(aj (aO (bf (pv 0) cH hmHC GHC hr1 bHC .nil d2 (aa (pv 1) ad)))
     (aj (aO (bf (el (pv 0) cH hmHN GHN hr3 bHN .nil d2) cB hmMC GMC hr1 bMC .nil d2 (aa (pv 2) ad)))
     (aj (aO (bf (pv 0) cH hmHD GHD hr2 bHD .nil d2 (aa (pv 3) ad)))
     (aj (aZ (aF io (av aE (by rfl) T.len PySem.boot_len (aa (bV (pv 0) rfl) ad)) (cz (v:=.int 1000) rfl hmd ⟨_,rfl⟩) (aK _)) (ag (cU rfl rfl mFu XFu.exc PySem.F.excBase_ValueError (aa aV ad) gI)) aB)
     (aj (aC (i:=4) re.nd rfl (Or.inl rfl) (bf (bf (pv 0) cH hmHB GHB hr2 bHB .nil d2 (aa (pv 3) ad)) cB hmMO GMO hr2 bMO .nil aJ (aa (pv 2) (aa (bf (pv 0) cH hmHS GHS hr3 bHS .nil d2 (aa (pv 1) (aa (pv 3) ad))) ad))))
     (aj (aO (dm PySem.F.plainAttrs_list PySem.F.slot_list_append PySem.F.type_list_append ca (bV (pv 0) rfl) (aa (du (aa (pv 3) (aa (pv 1) (aa (pv 2) (aa (pv 4) ad))))) ad)))
     (aj (gs (pv 0) (pv 3) rfl)
     (ag (ax (pv 4)))))))))),?_⟩
   have hs:=aQ
   have lo:∀ {m:Str}{dd:Int},(m==Str.ofString "first_shades")=false→(m==Str.ofString "day_now")=false→(m==Str.ofString "standing")=false→(m==Str.ofString "books_from")=false→List.lookup m (hfs A0 dd)=none:=fun h1 h2 h3 h4=>gj h1 h2 h3 h4
   refine bj (fun σ' H'=>c∈h.cl.map (·.1)∧σ'=[some (.ref A0.x),some (.str c),some (.str b),some (.int d),none]∧H'=H) (fun R hR=>?_) ?_
   · walk_at "dm"
     exact⟨A0.dx,_,hh.ins,lo (by decide +kernel) (by decide +kernel) (by decide +kernel) (by decide +kernel),A0,W,ss,h,c,rfl,hh,hc,ho.cnd,fun hm=>hR _ _ ⟨hm,rfl,rfl⟩,fun hm=>qc hm _ (af.refl H)⟩
   rintro σ1 H1 ⟨hm,rfl,rfl⟩
   refine bj (fun σ' H'=>b∈names∧σ'=[some (.ref A0.x),some (.str c),some (.str b),some (.int d),none]∧af H1 H') (fun R hR=>?_) ?_
   · walk_at "dm"
     refine⟨A0.dx,_,hh.ins,lo (by decide +kernel) (by decide +kernel) (by decide +kernel) (by decide +kernel),A0,W,ss,names,h,rfl,hh,ho,fun r H3 S3 hbk=>?_⟩
     have hbk2:=af.book (af.house S3 hh).up hbk
     have hbk3:=hbk2
     obtain⟨dxb,tb,db,so,b1,b2,b3,b4,b5⟩:=hbk2
     obtain⟨B,hN,_⟩:=ho.on 400
     exact⟨r,rfl,dxb,_,b1,cb (by decide +kernel) (by decide +kernel),r,_,_,b,rfl,hbk3,B,hb,fun hzs=>hR _ _ ⟨(hN b).mp hzs,rfl,S3⟩,fun hzs=>qb hm (fun z=>hzs ((hN b).mpr z)) _ S3⟩
   rintro σ2 H2 ⟨hbn,rfl,S2⟩
   have hh2:=af.house S2 hh
   refine bj (fun σ' H'=>(1≤d∧d≤400)∧h.day≤d∧σ'=[some (.ref A0.x),some (.str c),some (.str b),some (.int d),none]∧H'=H2) (fun R hR=>?_) ?_
   · walk_at "dm"
     exact⟨A0.dx,_,hh2.ins,lo (by decide +kernel) (by decide +kernel) (by decide +kernel) (by decide +kernel),A0,W,ss,h,d,rfl,hh2,fun hd hl=>hR _ _ ⟨hd,hl,rfl,rfl⟩,fun hd=>qd hm hbn hd _ S2,fun hd hl=>ql hm hbn hd hl _ S2⟩
   rintro σ3 H3 ⟨hd,hl,rfl,rfl⟩
   obtain⟨ps,hls,hpl,hpT⟩:=hh2.dp
   refine bj (fun σ' H'=>h.dp.length < 1000∧σ'=[some (.ref A0.x),some (.str c),some (.str b),some (.int d),none]∧H'=H3) (fun R hR=>?_) ?_
   · walk_at "dm"
     refine⟨CH,A0.dx,_,hh2.ins,hX.c,hX.n3,_,jm,A0.ls,rfl,_,.inl (SqL.of hls),?_⟩
     rw[List.length_map,hpl]
     exact bn (fun h5=>⟨by decide,qf hm hbn hd hl (by omega) _ S2⟩) (fun h5=>hR _ _ ⟨by omega,rfl,rfl⟩)
   rintro σ4 H4 ⟨h1000,rfl,rfl⟩
   obtain⟨B,hN,hZ⟩:=ho.on d
   refine bj (fun σ' H'=>σ'=[some (.ref A0.x),some (.str c),some (.str b),some (.int d),some (.str (lkB (dc h.bk d).1 (dc h.bk d).2 b (ba h c d)))]∧af H4 H') (fun R hR=>?_) ?_
   · walk_at "dm"
     refine⟨A0.dx,_,hh2.ins,lo (by decide +kernel) (by decide +kernel) (by decide +kernel) (by decide +kernel),A0,W,ss,names,h,d,rfl,hh2,ho,fun _ r H5 S5 hbk=>?_,fun hn=>absurd hd hn⟩
     have hbk2:=af.book (af.house S5 hh2).up hbk
     have hbk3:=hbk2
     obtain⟨dxb,tb,db,so,b1,b2,b3,b4,b5⟩:=hbk2
     refine⟨r,rfl,dxb,_,b1,cb (by decide +kernel) (by decide +kernel),A0.dx,_,S5 _ _ hh2.ins,lo (by decide +kernel) (by decide +kernel) (by decide +kernel) (by decide +kernel),A0,W,ss,names,h,c,d,rfl,af.house S5 hh2,ho,hc,fun _ _ H6 S6=>?_,fun hn=>absurd hm hn,fun _ hn=>absurd hd hn⟩
     obtain⟨bb,hbb,rfl⟩:=List.mem_map.mp ((hN b).mpr hbn)
     refine⟨r,_,_,bb,_,rfl,af.book S6 hbk3,B,hbb,(hZ _).mpr (oh ho hm d),?_⟩
     rw[←ee _ B.bnd hbb]
     exact hR _ _ ⟨rfl,S5.trans S6⟩
   rintro σ5 H5 ⟨rfl,S5⟩
   generalize hout:lkB (dc h.bk d).1 (dc h.bk d).2 b (ba h c d)=out at q
   have hh5:=af.house S5 hh2
   obtain⟨n1,n2,n3,n4,n5⟩:=hh5.xd
   have hls5:=S5 _ _ hls
   refine bj (fun σ' H'=>∃ t,σ'=[some (.ref A0.x),some (.str c),some (.str b),some (.int d),some (.str out)]∧H5 t=none∧H'=upd (upd H5 t (.tup [.int d,.str c,.str b,.str out])) A0.ls (.lst (ps.map V.ref++[V.ref t]))) (fun R hR=>?_) ?_
   · walk_at "dm"
     refine⟨CH,A0.dx,_,hh5.ins,hX.c,hX.n3,_,jm,?_⟩
     refine⟨.inl ⟨rfl,_,SqL.of hls5⟩,by omega,fun t ht=>⟨A0.ls,rfl,_,?_,by rw[List.length_map];omega,hR _ _ ⟨t,rfl,ht,rfl⟩⟩⟩
     rw[ai (ak hls5 ht)]
     exact hls5
   rintro σ6 H6 ⟨t,rfl,ht,rfl⟩
   have htx:A0.x≠t:=ak hh5.ins ht
   have htl:A0.ls≠t:=ak hls5 ht
   refine bj (fun σ' H'=>σ'=[some (.ref A0.x),some (.str c),some (.str b),some (.int d),some (.str out)]∧H'=upd (upd (upd H5 t (.tup [.int d,.str c,.str b,.str out])) A0.ls (.lst (ps.map V.ref++[V.ref t]))) A0.x (.ins CH A0.dx (hfs A0 d))) (fun R hR=>?_) ?_
   · walk_at "dm"
     refine⟨CH,A0.dx,_,by rw[ai n2,ai htx];exact hh5.ins,hX.c,hX.n2,by show 4 < 1000;decide,hR _ _ ⟨rfl,?_⟩⟩
     rw[pFd]
   rintro σ7 H7 ⟨rfl,rfl⟩
   walk_at "dm"
   have e1:hid (upd (upd (upd H5 t (.tup [.int d,.str c,.str b,.str out])) A0.ls (.lst (ps.map V.ref++[V.ref t]))) A0.x (.ins CH A0.dx (hfs A0 d))) A0=hid (upd H5 t (.tup [.int d,.str c,.str b,.str out])) A0:=by
     rw[ln (.inl rfl),ln (.inr (.inr (.inl rfl)))]
   have St:af H5 (upd H5 t (.tup [.int d,.str c,.str b,.str out])):=af.updN ht
   obtain⟨h1,h2,⟨ps',h3,h4,h5⟩,⟨rs,h6,h7,h8⟩,h9,h10⟩:=hh5
   have hWt:W t=none:=by
     have hx:hid H5 A0 t=none:=by unfold hid;rw[ht];split<;>rfl
     exact h10.free hx
   have htd:A0.d1≠t:=ak h2 ht
   have htb:A0.db≠t:=ak h6 ht
   have SW:af W (upd W t (.tup [.int d,.str c,.str b,.str out])):=af.updN hWt
   refine q hm hbn hd hl h1000 _ (upd W t (.tup [.int d,.str c,.str b,.str out])) (by rw[e1];exact fe ((S2.trans S5).trans St)) ⟨SW,fun y o hy hHy=>?_⟩ ?_
   · have hyt:y≠t:=fun z=>by rw[z] at hHy;have:=(S2.trans S5) _ _ hHy;rw[ht] at this;cases this
     rw[ai hyt];exact hy
   have eps:ps'=ps:=by
     rw[hls5] at h3
     have h3':ps.map V.ref=ps'.map V.ref:=by simpa using h3
     exact(List.map_inj_right (fun a b e=>by simpa using e)).mp h3'.symm
   subst eps
   refine⟨ac,by rw[ai (Ne.symm n1),ai n4,ai htd];exact h2,⟨ps'++[t],by rw[ai (Ne.symm n2),ac,List.map_append];rfl,by rw[List.length_append,List.length_append,h4];rfl,?_⟩,⟨rs,by rw[ai (Ne.symm n3),ai (Ne.symm n5),ai htb];exact h6,h7,fun i r e hr he=>af.book SW (h8 i r e hr he)⟩,h9,?_⟩
   · intro i p e hp he
     by_cases hi:i < ps'.length
     · rw[List.getElem?_append_left hi] at hp
       rw[List.getElem?_append_left (by omega)] at he
       exact SW _ _ (h5 i p e hp he)
     · have hj:i=ps'.length:=by
         have:=(List.getElem?_eq_some_iff.mp hp).1
         rw[List.length_append,List.length_singleton] at this
         omega
       subst hj
       rw[List.getElem?_append_right (Nat.le_refl _),Nat.sub_self] at hp
       rw[List.getElem?_append_right (by omega),h4,Nat.sub_self] at he
       cases hp
       cases he
       exact ac
   · rw[e1,tG (Ne.symm htx) (Ne.symm htd) (Ne.symm htl) (Ne.symm htb)]
     intro y o hy
     by_cases hyt:y=t
     · rw[hyt,ac] at hy;rw[hyt,ac];exact hy
     · rw[ai hyt] at hy;rw[ai hyt];exact h10 _ _ hy
end

section
variable {P:Program}{w:World}{K:PySem.W.Frag}{mg:Str→Option Value}{base:Heap}
theorem mz (dp:List (Int×Str×Str×Str)) (d:Int) (c b o z:Str) (e:Int):bZ (dp++[(d,c,b,o)]) z e=bZ dp z e++(if c=z∧d≤e then[(d,b,o)] else[]):=by
 unfold bZ
 rw[List.filter_append,List.map_append]
 congr 1
 by_cases h:c=z∧d≤e
 · rw[if_pos h]
   simp[h.1,h.2]
 · rw[if_neg h]
   have:(decide (c=z)&&decide (d≤e))=false:=by
     rw[Bool.and_eq_false_iff]
     by_cases hc:c=z
     · exact .inr (decide_eq_false fun z=>h ⟨hc,z⟩)
     · exact .inl (decide_eq_false hc)
   simp[this]
theorem cG (h:Hs) (d:Int) (c b o z:Str) (e dy:Int):ba { h with day:=dy,dp:=h.dp++[(d,c,b,o)] } z e=if c=z∧d≤e then o else ba h z e:=by
 unfold ba
 show(match (bZ (h.dp++[(d,c,b,o)]) z e).getLast? with | some e=>e.2.2 | none=>_)=_
 rw[mz]
 by_cases hc:c=z∧d≤e
 · rw[if_pos hc,if_pos hc,List.getLast?_append]
   rfl
 · rw[if_neg hc,if_neg hc,List.append_nil]
   all_goals rfl
theorem cW.dip {ss names:List Str}{h:Hs}{d:Int}{c b o:Str}(ho:cW ss names h)(hd:1≤d∧d≤400)(hl:h.day≤d)(hn:h.dp.length < 1000)(hos:o∈ss):cW ss names { h with day:=d,dp:=h.dp++[(d,c,b,o)] } :=
 ⟨ho.cnd,ho.csh,ho.cnm,hd.1,hd.2,by show(h.dp++_).length≤1000;rw[List.length_append,List.length_singleton];omega,fun e he=>by
     rcases List.mem_append.mp he with he | he
     · have:=ho.dd e he;exact⟨this.1,by show e.1≤d;omega⟩
     · rw[List.mem_singleton.mp he];exact⟨hd.1,Int.le_refl _⟩,fun e he=>by
     rcases List.mem_append.mp he with he | he
     · exact ho.ds e he
     · rw[List.mem_singleton.mp he];exact hos,ho.k1,ho.ks,fun e he=>by have:=ho.kd e he;exact⟨this.1,by show e.1≤d;omega⟩,ho.kl,ho.kb⟩
theorem cW.bring {ss names:List Str}{h:Hs}{c z:Str}(ho:cW ss names h)(hc:c∉h.cl.map (·.1))(hz:z∈ss)(hg:bp c=true):cW ss names { h with cl:=h.cl++[(c,z)] } :=
 ⟨by show((h.cl++_).map _).Nodup;rw[List.map_append];exact lJ ho.cnd hc,fun e he=>by
     rcases List.mem_append.mp he with he | he
     · exact ho.csh e he
     · rw[List.mem_singleton.mp he];exact hz,fun e he=>by
     rcases List.mem_append.mp he with he | he
     · exact ho.cnm e he
     · rw[List.mem_singleton.mp he];exact hg,ho.d1,ho.d4,ho.dl,ho.dd,ho.ds,ho.k1,ho.ks,ho.kd,ho.kl,ho.kb⟩
theorem cW.new {ss:List Str}{bs:List (Str×List Str)}(B:aP ss bs):cW ss (bs.map (·.1)) ⟨[],1,[],[(1,(ss,bs))]⟩ :=
 ⟨List.nodup_nil,(fun e he=>by cases he),(fun e he=>by cases he),by show(1:Int)≤1;decide,by show(1:Int)≤400;decide,by show 0≤1000;decide,(fun e he=>by cases he),(fun e he=>by cases he),⟨(ss,bs),[],rfl⟩,List.pairwise_singleton _ _,fun e he=>by rw[List.mem_singleton.mp he];exact⟨by show(1:Int)≤1;decide,by show(1:Int)≤1;decide⟩,by show 1≤400;decide,fun e he=>by rw[List.mem_singleton.mp he];exact⟨B,fun n=>Iff.rfl,fun z=>Iff.rfl⟩⟩
end

section
variable {P:Program}{w:World}{K:PySem.W.Frag}{mg:Str→Option Value}{base:Heap}
theorem vI {H:Hp}{A:Ad}{b:Addr}{o:HO}(h:H b=some o)(b1:b≠A.x)(b2:b≠A.d1)(b3:b≠A.ls)(b4:b≠A.db):hid H A b=some o:=by
 unfold hid;rw[if_neg (fun z=>by rcases z with z | z | z | z;exact b1 z;exact b2 z;exact b3 z;exact b4 z)];exact h
theorem iO {H H':Hp}{C CB:Addr}{A:Ad}{W:Hp}{ss:List Str}{h:Hs}{b:Addr}{o:HO}(hh:aY H C CB A W ss h)(hb:H b=none)(h':H' b=some o):hid H' A b=some o:=by
 obtain⟨_,hls,_⟩:=hh.dp
 obtain⟨_,hdb,_⟩:=hh.bk
 exact vI h' (fun z=>by rw[z,hh.ins] at hb;cases hb) (fun z=>by rw[z,hh.cl] at hb;cases hb) (fun z=>by rw[z,hls] at hb;cases hb) (fun z=>by rw[z,hdb] at hb;cases hb)
theorem qU {B0 G:Hp}{x:Addr}{o:HO}(S:af B0 G)(h:B0 x=none):af B0 (upd G x o):=fun b u e=>by
 rw[ai (fun z=>by rw[z,h] at e;cases e)];exact S _ _ e
theorem wO {xs:List V}{k:Nat}:fV xs none (some (k:Int))=xs.take k:=by
 unfold fV
 have e1:HT.sIx xs.length 0 none=0:=rfl
 have e2:HT.sIx xs.length xs.length (some (k:Int))=min k xs.length:=by rw[HT.sIx_nat]
 rw[e1,e2,List.drop_zero,Nat.sub_zero]
 rcases Nat.le_total k xs.length with h | h
 · rw[Nat.min_eq_left h]
 · rw[Nat.min_eq_right h,List.take_length,List.take_of_length_le h]
theorem mQ {cs so:List Str}{i:Nat}{c z:Str}(hc:cs[i]?=some c)(hz:so[i]?=some z):(cs.take (i+1)).zip (so.take (i+1))=(cs.take i).zip (so.take i)++[(c,z)]:=by
 have h1:=(List.getElem?_eq_some_iff.mp hc).1
 have h2:=(List.getElem?_eq_some_iff.mp hz).1
 rw[bM hc,bM hz,List.zip_append (by rw[List.length_take,List.length_take];omega)]
 rfl
def TR (lk:Str→Str→Str)(row:List Str) (dy st:Int) (z:Str) (j:Nat):List (Int×Str×Str):=(List.range j).map fun k:Nat=>(dy+(k:Int)*st,row.getD k ⟨#[]⟩,aR lk (row.take (k+1)) z)
theorem dA {h:Hs}{d e:Int}(hd:∀ x∈h.dp,x.1≤d)(he:d≤e) (c:Str):ba h c e=ba h c d:=by
 have:bZ h.dp c e=bZ h.dp c d:=by
   unfold bZ
   congr 1
   refine List.filter_congr fun x hx=>?_
   have:=hd x hx
   rw[decide_eq_true (show x.1≤e by omega),decide_eq_true this]
 unfold ba
 rw[this]
def abc:List Str:=["a", "b", "c", "d", "e", "f", "g", "h", "i", "j", "k", "l"].map Str.ofString
theorem vU:abc.Nodup:=by decide +kernel
theorem vh:∀ c∈abc,Shw c∧bp c=true:=by
 unfold Shw
 decide +kernel
def iq (K:PySem.W.Frag)(CH CB:Addr):Sp:=fun vs H Q _=>∃ (x lo tb lr lt:Addr)(so ss ns sb:List Str)(bb:List (Str×List Str))(lk:Str→Str→Str)(row told:List Str) (d:Int),vs=[.ref x,.ref lo,.ref tb,.ref lr,.ref lt,.int d]∧br H CB x sb bb∧aP sb bb∧H lo=some (.lst (so.map V.str))∧(∀ z∈so,z∈sb∧z∈ss)∧1≤so.length∧so.length≤12∧lW H tb ss ns lk∧(∀ n∈ns,∀ z∈ss,lk n z∈ss)∧H lr=some (.lst (row.map V.str))∧H lt=some (.lst (told.map V.str))∧(∀ n∈row,n∈bb.map (·.1)∧n∈ns)∧(∀ n∈told,n∈bb.map (·.1))∧row.length+told.length≤1000∧(∀ z∈so,aR lk row z=aR (lkB sb bb) row z)∧(∀ z∈so,aR (lkB sb bb) told (aR (lkB sb bb) row z)=z)∧1≤d∧d≤399∧∀ H',Q (.bl true) H'
theorem bK:ap ["_law_book", "_law_order", "_law_tables_here", "_law_row_here", "_law_told", "_law_day", "_law_house", "_law_many", "_law_cloths", "_law_k", "_law_on", "_law_baths", "_law_bath", "_law_cloth"] ["_law_book", "_law_order", "_law_tables_here", "_law_row_here", "_law_told", "_law_day"] (ae de):=⟨rfl,rfl,rfl,by decide +kernel,rfl,by decide +kernel,by decide +kernel⟩
theorem lj {f fHR fHQ fHS fTI fAE fHI:Addr}{fd fdHR fdHQ fdHS fdTI fdAE fdHI:FuncData}{CH CB cBN cKn cNS cFu cNC cNB cND cLa:Addr}(F:Fun K "_law_back_again" "_law_back_again" de f fd)
   (T:Txt mg)(hX:Hx K mg CH)(TM:mg "max"=none)
   (GHR:ao P w K mg base (CX1 P w) 5 fHR fdHR ["self", "cloth", "shade"] (jv CH CB cBN cKn cNS cFu))(hmHR:bQ K CH "bring" fHR)(bHR:ay K fdHR ["self", "cloth", "shade"] [])
   (GHQ:ao P w K mg base (CX1 P w) 5 fHQ fdHQ ["self", "cloth", "bath", "day"] (nP CH CB cNC cNB cND cLa cFu))(hmHQ:bQ K CH "dip" fHQ)(bHQ:ay K fdHQ ["self", "cloth", "bath", "day"] [])
   (GHS:ao P w K mg base (CX1 P w) 3 fHS fdHS ["self", "cloth", "day"] (gJ CH CB cNC cND))(hmHS:bQ K CH "shade" fHS)(bHS:ay K fdHS ["self", "cloth", "day"] [])
   (GTI:ao P w K mg base CX0 1 fTI fdTI ["_law_found", "_law_due"] jk)(kTI:PySem.W.keepIn K (.ref fTI)=true)(bTI:ay K fdTI ["_law_found", "_law_due"] [])(mTI:mg "_law_text_is"=some (.ref fTI))
   (GAE:ao P w K mg base CX0 1 fAE fdAE ["_law_tables_here", "_law_row_here", "_law_shade"] (lB K))(kAE:PySem.W.keepIn K (.ref fAE)=true)(bAE:ay K fdAE ["_law_tables_here", "_law_row_here", "_law_shade"] [])(mAE:mg "_law_at_end"=some (.ref fAE))
   (MH:Mk K CH fHI)(GHI:ao P w K mg base CX0 1 fHI fdHI ["self", "book"] (lu CH CB))(bHI:ay K fdHI ["self", "book"] [])(mCH:mg "House"=some (.ref CH)) :
   ao P w K mg base CX0 6 f fd ["_law_book", "_law_order", "_law_tables_here", "_law_row_here", "_law_told", "_law_day"] (iq K CH CB):=by
 refine F.ok bK (fun vs H Q E h=>?_) (fun cdv A outer s H vs Q E hr h=>?_)
 · obtain⟨_,_,_,_,_,_,_,_,_,_,_,_,_,_,rfl,_⟩:=h
   rfl
 · obtain⟨x,lo,tb,lr,lt,so,ss,ns,sb,bb,lk,row,told,d,rfl,hbk,Bb,hlo,hsob,hs1,hs12,hG,hcls,hlr,hlt,hrow,htold,hrl,heq,hend,hd1,hd4,q⟩:=h
   have cH:=hX.c
   have hr1:=hr.mono (j:=1) (by omega)
   have hr2:=hr.mono (j:=2) (by omega)
   have hr3:=hr.mono (j:=3) (by omega)
   have hr5:=hr.mono (j:=5) (by omega)
   refine⟨_,(aj (aC (i:=6) bK.nd rfl (Or.inl rfl) (iQ MH GHI hr2 rfl mCH bHI .nil aJ (aa (pv 0) ad)))
     (aj (aC (i:=7) bK.nd rfl (Or.inl rfl) (av (fF rfl) (by rfl) T.min (by decide +kernel) (aa (av aE (by rfl) T.len PySem.boot_len (aa (pv 1) ad)) (aa (aw cf ah (av (kF rfl) (by rfl) TM (by decide +kernel) (aa ah (aa (aw bJ (av aE (by rfl) T.len PySem.boot_len (aa (pv 3) ad)) (av aE (by rfl) T.len PySem.boot_len (aa (pv 4) ad))) ad)))) ad))))
     (aj (aC (i:=8) bK.nd rfl (Or.inl rfl) (dj gH (bx (wA ["a", "b", "c", "d", "e", "f", "g", "h", "i", "j", "k", "l"] (by decide +kernel))) eI (dB (pv 7))))
     (aj (bz PassesOwn.never rfl (cj rfl T.range (aa (pv 7) ad)) (au (i:=9) bK.nd rfl (Or.inl rfl)) (ag (aO (bf (pv 6) cH hmHR GHR hr5 bHR .nil fZ (aa (aM aG (pv 8) (pv 9) (fun _ _=>rfl)) (aa (aM aG (pv 1) (pv 9) (fun _ _=>rfl)) ad))))))
     (aj (bz PassesOwn.never rfl (a9 (bx (aa (du (aa (pv 5) (aa (pv 3) ad))) (aa (du (aa (aw bJ (pv 5) ah) (aa (pv 4) ad))) ad)))) (d7 (n:=2) rfl (aX (au (i:=10) bK.nd rfl (Or.inl rfl)) (aX (au (i:=11) bK.nd rfl (Or.inl rfl)) dh))) (ag (bz PassesOwn.never rfl (a9 (pv 11)) (au (i:=12) bK.nd rfl (Or.inl rfl)) (ag (bz PassesOwn.never rfl (a9 (pv 8)) (au (i:=13) bK.nd rfl (Or.inl rfl)) (ag (aO (bf (pv 6) cH hmHQ GHQ hr5 bHQ .nil fZ (aa (pv 13) (aa (pv 12) (aa (pv 10) ad)))))))))))
     (aj (bz PassesOwn.never rfl (cj rfl T.range (aa (pv 7) ad)) (au (i:=9) bK.nd rfl (Or.inl rfl)) (aj (aZ (dv (dr (ar GTI hr1 rfl mTI kTI bTI .nil aJ (aa (bf (pv 6) cH hmHS GHS hr3 bHS .nil fZ (aa (aM aG (pv 8) (pv 9) (fun _ _=>rfl)) (aa (pv 5) ad))) (aa (ar GAE hr1 rfl mAE kAE bAE .nil aJ (aa (pv 2) (aa (pv 3) (aa (aM aG (pv 1) (pv 9) (fun _ _=>rfl)) ad)))) ad))))) (ag (ax eD)) aB)
     (ag (aZ (dv (dr (ar GTI hr1 rfl mTI kTI bTI .nil aJ (aa (bf (pv 6) cH hmHS GHS hr3 bHS .nil fZ (aa (aM aG (pv 8) (pv 9) (fun _ _=>rfl)) (aa (aw bJ (pv 5) ah) ad))) (aa (aM aG (pv 1) (pv 9) (fun _ _=>rfl)) ad))))) (ag (ax eD)) aB))))
     (ag (ax eD)))))))),?_⟩
   have hs:=aQ
   have lk0:∀ {A0:Ad}{m:Str}{dd:Int},(m==Str.ofString "first_shades")=false→(m==Str.ofString "day_now")=false→(m==Str.ofString "standing")=false→(m==Str.ofString "books_from")=false→List.lookup m (hfs A0 dd)=none:=fun h1 h2 h3 h4=>gj h1 h2 h3 h4
   refine bj (fun σ' H'=>∃ (A0:Ad)(W:Hp),σ'=[some (.ref x),some (.ref lo),some (.ref tb),some (.ref lr),some (.ref lt),some (.int d),some (.ref A0.x),none,none,none,none,none,none,none]∧af H (hid H' A0)∧aY H' CH CB A0 W sb ⟨[],1,[],[(1,(sb,bb))]⟩) (fun R hR=>?_) ?_
   · walk_at "dm"
     intro xh dx hx hdx hne
     have S6':af H (hide (upd (upd H dx (.own xh)) xh (.ins CH dx [])) xh):=fun y o e=>by
       rw[bq (ak e hx),ai (ak e hx),ai (ak e hdx)];exact e
     exact⟨xh,dx,x,_,sb,bb,rfl,ac,af.refl _,af.book S6' hbk,fun A0 H2 hA S7 hh=>⟨rfl,by rw[←hA];exact hR _ _ ⟨A0,_,rfl,S6'.trans S7,hh⟩⟩⟩
   rintro σ1 H1 ⟨A0,W,rfl,S1,hh1⟩
   have ho1:=cW.new Bb
   have S1u:=S1.trans (bH (A:=A0))
   refine bj (fun σ' H'=>∃ m:Nat,m≤so.length∧m*(row.length+told.length)≤1000∧σ'=[some (.ref x),some (.ref lo),some (.ref tb),some (.ref lr),some (.ref lt),some (.int d),some (.ref A0.x),some (.int m),none,none,none,none,none,none]∧H'=H1) (fun R hR=>?_) ?_
   · walk_at "dm"
     refine⟨_,.inl (SqL.of (S1u _ _ hlo)),_,.inl (SqL.of (S1u _ _ hlr)),_,.inl (SqL.of (S1u _ _ hlt)),?_,?_⟩
     · split<;>omega
     · rw[List.length_map,List.length_map,List.length_map]
       have eg:(if((row.length:Nat):Int)+((told.length:Nat):Int) > 1 then((row.length:Nat):Int)+((told.length:Nat):Int) else 1)=((max 1 (row.length+told.length):Nat):Int):=by split<;>omega
       rw[eg]
       have ed:(1000:Int) / ((max 1 (row.length+told.length):Nat):Int)=((1000 / max 1 (row.length+told.length):Nat):Int):=(Int.natCast_ediv 1000 _).symm
       rw[ed]
       have em:(if((1000 / max 1 (row.length+told.length):Nat):Int) < ((so.length:Nat):Int) then((1000 / max 1 (row.length+told.length):Nat):Int) else((so.length:Nat):Int))=((min so.length (1000 / max 1 (row.length+told.length)):Nat):Int):=by split<;>omega
       rw[em]
       exact⟨by omega,hR _ _ ⟨_,Nat.min_le_left _ _,Nat.le_trans (Nat.mul_le_mul (Nat.min_le_right _ _) (Nat.le_max_right 1 _)) (Nat.div_mul_le_self _ _),rfl,rfl⟩⟩
   rintro σ2 H2 ⟨m,hm1,hm2,rfl,rfl⟩
   refine bj (fun σ' H'=>∃ (lc:Addr)(cs:List Str),σ'=[some (.ref x),some (.ref lo),some (.ref tb),some (.ref lr),some (.ref lt),some (.int d),some (.ref A0.x),some (.int m),some (.ref lc),none,none,none,none,none]∧af H2 H'∧hid H' A0 lc=some (.lst (cs.map V.str))∧cs.length=m∧cs.Nodup∧∀ c∈cs,Shw c∧bp c=true) (fun R hR=>?_) ?_
   · walk_at "dm"
     refine⟨by omega,fun p hp=>⟨_,SqL.of ac,fun lc hlc=>?_⟩⟩
     have Sp:=af.updN (o:=.lst (abc.map V.str)) hp
     refine hR _ _ ⟨lc,abc.take m,rfl,Sp.trans (af.updN hlc),iO hh1 (Sp.free hlc) ?_,by rw[List.length_take];show min m 12=m;omega,vU.sublist (List.take_sublist _ _),fun c hc=>vh c (List.mem_of_mem_take hc)⟩
     rw[ac,wO]
     show some (HO.lst ((abc.map V.str).take m))=_
     rw[List.map_take]
   rintro σ3 H3 ⟨lc,cs,rfl,S3,hlc,hcl,hcnd,hcnm⟩
   have hh3:=af.house S3 hh1
   have S3h:af H (hid H3 A0):=S1.trans (fe S3)
   refine bj (fun σ' H'=>∃ o9,σ'=[some (.ref x),some (.ref lo),some (.ref tb),some (.ref lr),some (.ref lt),some (.int d),some (.ref A0.x),some (.int m),some (.ref lc),o9,none,none,none,none]∧af (hid H3 A0) (hid H' A0)∧aY H' CH CB A0 W sb ⟨cs.zip (so.take m),1,[],[(1,(sb,bb))]⟩∧cW sb (bb.map (·.1)) ⟨cs.zip (so.take m),1,[],[(1,(sb,bb))]⟩) (fun R hR=>?_) ?_
   · walk_at "dm"
     refine⟨by omega,by omega,?_⟩
     rw[Int.toNat_natCast]
     refine cc (H0:=fun _=>none) bu (fun i σ' H'=>∃ o9,σ'=[some (.ref x),some (.ref lo),some (.ref tb),some (.ref lr),some (.ref lt),some (.int d),some (.ref A0.x),some (.int m),some (.ref lc),o9,none,none,none,none]∧af (hid H3 A0) (hid H' A0)∧aY H' CH CB A0 W sb ⟨(cs.take i).zip (so.take i),1,[],[(1,(sb,bb))]⟩∧cW sb (bb.map (·.1)) ⟨(cs.take i).zip (so.take i),1,[],[(1,(sb,bb))]⟩) ⟨none,rfl,af.refl _,hh3,ho1⟩ (fun _ _ _ _ _ b o e=>by cases e) ?_ ?_
     · rintro i y σ' H' hi rfl ⟨o9,rfl,hS,hh,ho⟩ R2 hR2
       have hz:(0:Int)+(i:Int)=i:=by omega
       rw[hz]
       obtain⟨c,hc⟩:∃ c,cs[i]?=some c:=⟨_,List.getElem?_eq_getElem (by omega)⟩
       obtain⟨z,hzi⟩:∃ z,so[i]?=some z:=⟨_,List.getElem?_eq_getElem (by omega)⟩
       have hzs:z∈sb:=(hsob z (List.mem_of_getElem? hzi)).1
       have hcm:=hcnm c (List.mem_of_getElem? hc)
       have hcn:c∉((cs.take i).zip (so.take i)).map (·.1):=fun h=>by
         rw[List.map_fst_zip (by rw[List.length_take,List.length_take];omega)] at h
         exact gy hcnd hc h
       have hln:((cs.take i).zip (so.take i)).length≤12:=by rw[List.length_zip,List.length_take,List.length_take];omega
       walk_at "dm"
       refine⟨A0.dx,_,hh.ins,lk0 (by decide +kernel) (by decide +kernel) (by decide +kernel) (by decide +kernel),_,SqL.of (bH _ _ (hS _ _ hlc)),_,cr hc,_,SqL.of (bH _ _ (hS _ _ (S3h _ _ hlo))),_,cr hzi,A0,W,sb,_,_,_,_,rfl,hh,ho,by show((cs.take i).zip (so.take i)).length≤1000;omega,hcm.1,Bb.snw z hzs,fun hn=>absurd (hcm.2.symm.trans hn) (by decide),fun _ hn=>absurd hn hcn,fun _ _ hn=>absurd hzs hn,fun _ _ _ hn=>absurd hn (by show ¬(50≤((cs.take i).zip (so.take i)).length);omega),fun _ _ _ _ H2 S2 hh2=>hR2 _ _ ⟨_,rfl,hS.trans S2,?_,?_⟩⟩
       · rw[mQ hc hzi];exact hh2
       · rw[mQ hc hzi];exact ho.bring hcn hzs hcm.2
     · rintro σ' H' ⟨o9,rfl,hS,hh,ho⟩
       rw[List.take_of_length_le (l:=cs) (by omega)] at hh ho
       exact hR _ _ ⟨o9,rfl,hS,hh,ho⟩
   rintro σ4 H4 ⟨o9,rfl,S4,hh4,ho4⟩
   have S4h:af H (hid H4 A0):=S3h.trans S4
   have hlr4:=S4h _ _ hlr
   have hlt4:=S4h _ _ hlt
   have hlc4:=S4 _ _ hlc
   have hlkp:∀ {k:Nat}{c z:Str},cs[k]?=some c→so[k]?=some z→(cs.zip (so.take m)).lookup c=some z:=fun {k c z} h1 h2=>by
     have hk:k < m:=by rw[←hcl];exact(List.getElem?_eq_some_iff.mp h1).1
     have hn:((cs.zip (so.take m)).map (·.1)).Nodup:=by rw[List.map_fst_zip (by rw[List.length_take];omega)];exact hcnd
     have hm:(c,z)∈cs.zip (so.take m):=List.mem_of_getElem? (i:=k) (by rw[List.getElem?_zip_eq_some];exact⟨h1,by rw[List.getElem?_take_of_lt hk];exact h2⟩)
     exact dI (c:=(c,z)) hn hm
   have hcmem:∀ c∈cs,c∈(cs.zip (so.take m)).map (·.1):=fun c h1=>by
     rw[List.map_fst_zip (by rw[List.length_take];omega)];exact h1
   obtain⟨Wp,hWp⟩:∃ Wp:Hp→Nat→List Str→Nat→Nat→Hp→Prop,∀ G i bths j q H',Wp G i bths j q H'↔∃ (W':Hp) (h':Hs),af (hid G A0) (hid H' A0)∧aY H' CH CB A0 W' sb h'∧cW sb (bb.map (·.1)) h'∧h'.cl=cs.zip (so.take m)∧h'.bk=[(1,(sb,bb))]∧h'.day≤d+(i:Int)∧h'.dp.length=(if i=0 then 0 else row.length*m)+(j*m+q)∧∀ (k:Nat) (c z:Str),cs[k]?=some c→so[k]?=some z→ba h' c 400=aR (lkB sb bb) (bths.take (if k < q then j+1 else j)) (if i=0 then z else aR (lkB sb bb) row z)∧ba h' c d=(if i=0 then aR (lkB sb bb) (bths.take (if k < q then j+1 else j)) z else aR (lkB sb bb) row z):=⟨_,fun _ _ _ _ _ _=>Iff.rfl⟩
   have Wp0:∀ {G},af H4 G→Wp G 0 row 0 0 G:=fun {G} SG=>by
     rw[hWp]
     refine⟨W,_,af.refl _,af.house SG hh4,ho4,rfl,rfl,by show 1≤_;omega,by rw[if_pos rfl];show 0=_;omega,fun k c z h1 h2=>?_⟩
     have e:∀ e,ba ⟨cs.zip (so.take m),1,[],[(1,(sb,bb))]⟩ c e=z:=fun e=>by
       unfold ba
       show((cs.zip (so.take m)).lookup c).getD ⟨#[]⟩=z
       rw[hlkp h1 h2]
       rfl
     rw[e,e,if_pos rfl,if_pos rfl,if_neg (Nat.not_lt_zero k)]
     exact⟨rfl,rfl⟩
   have Wpj:∀ {G i bths j H'},Wp G i bths j m H'→Wp G i bths (j+1) 0 H':=fun {G i bths j H'} h=>by
     rw[hWp] at h ⊢
     obtain⟨W',h',a1,a2,a3,a4,a5,a6,a7,a8⟩:=h
     refine⟨W',h',a1,a2,a3,a4,a5,a6,by rw[a7,Nat.add_mul];omega,fun k c z h1 h2=>?_⟩
     have:=a8 k c z h1 h2
     rw[if_pos (show k < m by rw[←hcl];exact(List.getElem?_eq_some_iff.mp h1).1)] at this
     rw[if_neg (Nat.not_lt_zero k)]
     exact this
   have Wp1:∀ {G H'},Wp G 0 row row.length 0 H'→Wp G 1 told 0 0 H':=fun {G H'} h=>by
     rw[hWp] at h ⊢
     obtain⟨W',h',a1,a2,a3,a4,a5,a6,a7,a8⟩:=h
     refine⟨W',h',a1,a2,a3,a4,a5,by omega,by rw[a7,if_pos rfl,if_neg (show ¬((1:Nat)=0) by decide)];omega,fun k c z h1 h2=>?_⟩
     have:=a8 k c z h1 h2
     rw[if_pos rfl,if_pos rfl,if_neg (Nat.not_lt_zero k),List.take_of_length_le (Nat.le_refl _)] at this
     rw[if_neg (show ¬((1:Nat)=0) by decide),if_neg (show ¬((1:Nat)=0) by decide),if_neg (Nat.not_lt_zero k)]
     exact this
   have hday:1≤d∧d+1≤400:=⟨hd1,by omega⟩
   refine bj (fun σ' H'=>∃ (W':Hp) (h':Hs)(o10 o11 o12 o13:Option V),σ'=[some (.ref x),some (.ref lo),some (.ref tb),some (.ref lr),some (.ref lt),some (.int d),some (.ref A0.x),some (.int m),some (.ref lc),o9,o10,o11,o12,o13]∧af (hid H4 A0) (hid H' A0)∧aY H' CH CB A0 W' sb h'∧cW sb (bb.map (·.1)) h'∧h'.cl=cs.zip (so.take m)∧∀ (k:Nat) (c z:Str),cs[k]?=some c→so[k]?=some z→ba h' c (d+1)=aR (lkB sb bb) told (aR (lkB sb bb) row z)∧ba h' c d=aR (lkB sb bb) row z) (fun R hR=>?_) ?_
   · walk_at "dm"
     refine⟨by omega,fun p1 hp1=>⟨by omega,fun p2 hp2=>⟨by omega,fun p3 hp3=>?_⟩⟩⟩
     have s1:=af.updN (o:=.tup [V.int d,V.ref lr]) hp1
     have s2:=af.updN (o:=.tup [V.int (d+1),V.ref lt]) hp2
     have s3:=af.updN (o:=.lst [V.ref p1,V.ref p2]) hp3
     have g1:=(s2.trans s3) p1 _ ac
     have g2:=s3 p2 _ ac
     have g3:upd (upd (upd H4 p1 (.tup [V.int d,V.ref lr])) p2 (.tup [V.int (d+1),V.ref lt])) p3 (.lst [V.ref p1,V.ref p2]) p3=some (.lst [V.ref p1,V.ref p2]):=ac
     have SG:=s1.trans (s2.trans s3)
     have n1:=hp1
     have n2:=s1.free hp2
     have n3:=(s1.trans s2).free hp3
     generalize upd (upd (upd H4 p1 (.tup [V.int d,V.ref lr])) p2 (.tup [V.int (d+1),V.ref lt])) p3 (.lst [V.ref p1,V.ref p2])=G at *
     have k1:=iO hh4 n1 g1
     have k2:=iO hh4 n2 g2
     have k3:=iO hh4 n3 g3
     have SGh:=fe (A:=A0) SG
     have hlrG:=SGh _ _ hlr4
     have hltG:=SGh _ _ hlt4
     have hlcG:=SGh _ _ hlc4
     refine⟨⟨_,SqL.of g3⟩,?_⟩
     refine cc (H0:=hid G A0) (az (SqL.of k3)) (fun i σ' H'=>∃ (o10 o11 o12 o13:Option V),σ'=[some (.ref x),some (.ref lo),some (.ref tb),some (.ref lr),some (.ref lt),some (.int d),some (.ref A0.x),some (.int m),some (.ref lc),o9,o10,o11,o12,o13]∧af (hid G A0) (hid H' A0)∧(i=0→Wp G 0 row 0 0 H')∧(i=1→Wp G 1 told 0 0 H')∧(i=2→Wp G 1 told told.length 0 H')) ⟨_,_,_,_,rfl,af.refl _,fun _=>Wp0 SG,(fun h=>by cases h),(fun h=>by cases h)⟩ (fun _ _ _ _ ⟨_,_,_,_,_,h,_⟩=>h.trans bH) ?_ ?_
     · rintro i y σ' H' hi hy ⟨o10,o11,o12,o13,rfl,hS,w0,w1,w2⟩ R2 hR2
       obtain⟨tp,dd,lb,bths,rfl,htp,hlb,hdd,hcase,hW⟩:∃ (tp:Addr) (dd:Int)(lb:Addr)(bths:List Str),y=.ref tp∧hid G A0 tp=some (.tup [.int dd,.ref lb])∧hid G A0 lb=some (.lst (bths.map V.str))∧dd=d+(i:Int)∧(i=0∧bths=row∨i=1∧bths=told)∧Wp G i bths 0 0 H':=by
         match i,hi,hy with
         | 0,_,hy=>cases hy;exact⟨p1,_,lr,row,rfl,k1,hlrG,by omega,.inl ⟨rfl,rfl⟩,w0 rfl⟩
         | 1,_,hy=>cases hy;exact⟨p2,_,lt,told,rfl,k2,hltG,by omega,.inr ⟨rfl,rfl⟩,w1 rfl⟩
         | i+2,hi,_=>exact absurd hi (by show ¬(i+2 < 2);omega)
       have hdd2:1≤dd∧dd≤400:=by rcases hcase with ⟨rfl,_⟩ | ⟨rfl,_⟩<;>exact⟨by omega,by omega⟩
       have hbn:∀ n∈bths,n∈bb.map (·.1):=by
         rcases hcase with ⟨_,rfl⟩ | ⟨_,rfl⟩
         · exact fun n hn=>(hrow n hn).1
         · exact htold
       refine gq (bH _ _ (hS _ _ htp)) ?_
       walk_at "dm"
       refine⟨⟨_,SqL.of (bH _ _ (hS _ _ hlb))⟩,?_⟩
       refine cc (H0:=hid G A0) (az (SqL.of hlb)) (fun j σ' H'=>∃ (o12 o13:Option V),σ'=[some (.ref x),some (.ref lo),some (.ref tb),some (.ref lr),some (.ref lt),some (.int d),some (.ref A0.x),some (.int m),some (.ref lc),o9,some (.int dd),some (.ref lb),o12,o13]∧af (hid G A0) (hid H' A0)∧Wp G i bths j 0 H') ⟨_,_,rfl,hS,hW⟩ (fun _ _ _ _ ⟨_,_,_,h,_⟩=>h.trans bH) ?_ ?_
       · rintro j y σ' H' hj hy ⟨o12,o13,rfl,hS,hW⟩ R3 hR3
         rw[List.getElem?_map] at hy
         obtain⟨n,hn,rfl⟩:=Option.map_eq_some_iff.mp hy
         rw[List.length_map] at hj
         have hnm:=hbn n (List.mem_of_getElem? hn)
         have hnS:Shw n:=by
           obtain⟨b',hb',rfl⟩:=List.mem_map.mp hnm
           exact Bb.bnw b' hb'
         walk_at "dm"
         refine⟨⟨_,SqL.of (bH _ _ (hS _ _ hlcG))⟩,?_⟩
         refine cc (H0:=hid G A0) (az (SqL.of hlcG)) (fun q σ' H''=>∃ (o13:Option V),σ'=[some (.ref x),some (.ref lo),some (.ref tb),some (.ref lr),some (.ref lt),some (.int d),some (.ref A0.x),some (.int m),some (.ref lc),o9,some (.int dd),some (.ref lb),some (.str n),o13]∧af (hid G A0) (hid H'' A0)∧Wp G i bths j q H'') ⟨_,rfl,hS,hW⟩ (fun _ _ _ _ ⟨_,_,h,_⟩=>h.trans bH) ?_ ?_
         · rintro q y σ' H'' hq hy ⟨o13,rfl,hS,hW⟩ R4 hR4
           rw[List.getElem?_map] at hy
           obtain⟨c,hc,rfl⟩:=Option.map_eq_some_iff.mp hy
           rw[List.length_map] at hq
           obtain⟨z,hzi⟩:∃ z,so[q]?=some z:=⟨_,List.getElem?_eq_getElem (by omega)⟩
           rw[hWp] at hW
           obtain⟨W',h',_,hh,ho,ecl,ebk,hdy,hdl,hsh⟩:=hW
           have hcm:=hcnm c (List.mem_of_getElem? hc)
           have hcl':c∈h'.cl.map (·.1):=by rw[ecl];exact hcmem c (List.mem_of_getElem? hc)
           have hzs:z∈sb:=(hsob z (List.mem_of_getElem? hzi)).1
           have hall:∀ x∈h'.dp,x.1≤h'.day:=fun x hx=>(ho.dd x hx).2
           have hs1:=(hsh q c z hc hzi).1
           rw[if_neg (Nat.lt_irrefl _)] at hs1
           have hsd:ba h' c dd=aR (lkB sb bb) (bths.take j) (if i=0 then z else aR (lkB sb bb) row z):=by
             rw[dA hall (by omega) c,←dA hall (e:=400) ho.d4 c]
             exact hs1
           have hst:(if i=0 then z else aR (lkB sb bb) row z)∈sb:=by
             split
             · exact hzs
             · exact dY (cR Bb) _ z (fun m hm=>(hrow m hm).1) hzs
           have hem:aR (lkB sb bb) (bths.take j) (if i=0 then z else aR (lkB sb bb) row z)∈sb:=dY (cR Bb) _ _ (fun m hm=>hbn m (List.mem_of_mem_take hm)) hst
           have eo:lkB (dc h'.bk dd).1 (dc h'.bk dd).2 n (ba h' c dd)=lkB sb bb n (aR (lkB sb bb) (bths.take j) (if i=0 then z else aR (lkB sb bb) row z)):=by
             rw[hsd,ebk];rfl
           have hdl9:h'.dp.length < 1000:=by
             rw[hdl]
             have h1:(j+1)*m≤bths.length*m:=Nat.mul_le_mul_right _ (by omega)
             rw[Nat.add_mul] at h1
             rw[Nat.mul_add,Nat.mul_comm m,Nat.mul_comm m] at hm2
             rw[hcl] at hq
             rcases hcase with ⟨rfl,rfl⟩ | ⟨rfl,rfl⟩
             · rw[if_pos rfl];omega
             · rw[if_neg (by decide)];omega
           walk_at "dm"
           refine⟨A0.dx,_,hh.ins,lk0 (by decide +kernel) (by decide +kernel) (by decide +kernel) (by decide +kernel),A0,W',sb,_,h',c,n,_,rfl,hh,ho,hcm.1,hnS,fun hn=>absurd hcl' hn,fun _ hn'=>absurd hnm hn',fun _ _ hn=>absurd hdd2 hn,fun _ _ _ hl=>absurd hl (by omega),fun _ _ _ _ hn=>absurd hn (by omega),fun _ _ _ hge hlen H9 W2 S9 G9 hh9=>?_⟩
           rw[eo] at hh9
           refine hR4 _ _ ⟨_,rfl,hS.trans S9,?_⟩
           rw[hWp]
           refine⟨W2,_,hS.trans S9,hh9,ho.dip hdd2 hge hlen (cR Bb n hnm _ hem),ecl,ebk,by show dd≤_;omega,?_,fun k c2 z2 h1 h2=>?_⟩
           · show(h'.dp++[_]).length=_
             rw[List.length_append,hdl]
             show _+1=_
             omega
           · have h0:=hsh k c2 z2 h1 h2
             have eL:=ef (lk:=lkB sb bb) (z:=if i=0 then z else aR (lkB sb bb) row z) hn
             rw[cG,cG]
             by_cases hk:k=q
             · subst hk
               have e1:=Option.some.inj (h1.symm.trans hc)
               have e2:=Option.some.inj (h2.symm.trans hzi)
               subst e1 e2
               rw[if_neg (Nat.lt_irrefl _)] at h0
               rw[if_pos ⟨rfl,hdd2.2⟩,if_pos (Nat.lt_succ_self _),eL]
               refine⟨rfl,?_⟩
               rcases hcase with ⟨rfl,_⟩ | ⟨rfl,_⟩
               · rw[if_pos ⟨rfl,by omega⟩,if_pos rfl,if_pos rfl];rw[if_pos rfl] at eL;exact eL.symm
               · rw[if_neg (fun h=>by have:=h.2;omega),if_neg (by decide)]
                 have:=h0.2
                 rw[if_neg (by decide)] at this
                 exact this
             · have hcc:c≠c2:=fun e=>hk ((List.getElem?_inj (List.getElem?_eq_some_iff.mp h1).1 hcnd).mp (h1.trans (by rw[←e];exact hc.symm)))
               rw[if_neg (show ¬(c=c2∧dd≤400) from fun e=>hcc e.1),if_neg (show ¬(c=c2∧dd≤d) from fun e=>hcc e.1)]
               by_cases hki:k < q
               · rw[if_pos hki] at h0
                 rw[if_pos (show k < q+1 by omega)]
                 exact h0
               · rw[if_neg hki] at h0
                 rw[if_neg (show ¬(k < q+1) by omega)]
                 exact h0
         · rintro σ' H'' ⟨o13,rfl,hS,hW⟩
           rw[List.length_map,hcl] at hW
           exact hR3 _ _ ⟨_,_,rfl,hS,Wpj hW⟩
       · rintro σ' H' ⟨o12,o13,rfl,hS,hW⟩
         rw[List.length_map] at hW
         refine hR2 _ _ ⟨_,_,_,_,rfl,hS,(fun h=>by cases h),fun h=>?_,fun h=>?_⟩
         · obtain rfl:i=0:=by omega
           rcases hcase with ⟨_,rfl⟩ | ⟨h,_⟩
           · exact Wp1 hW
           · cases h
         · obtain rfl:i=1:=by omega
           rcases hcase with ⟨h,_⟩ | ⟨_,rfl⟩
           · cases h
           · exact hW
     · rintro σ' H' ⟨o10,o11,o12,o13,rfl,hS,_,_,hW⟩
       have hW:=hW rfl
       rw[hWp] at hW
       obtain⟨W',h',_,hh,ho,ecl,ebk,hdy,hdl,hsh⟩:=hW
       refine hR _ _ ⟨W',h',_,_,_,_,rfl,SGh.trans hS,hh,ho,ecl,fun k c z h1 h2=>?_⟩
       have h0:=hsh k c z h1 h2
       rw[if_neg (Nat.not_lt_zero k),if_neg (by decide),if_neg (by decide),List.take_of_length_le (Nat.le_refl _)] at h0
       refine⟨?_,h0.2⟩
       rw[dA (fun x hx=>(ho.dd x hx).2) (show h'.day≤d+1 by omega),←dA (fun x hx=>(ho.dd x hx).2) (e:=400) ho.d4]
       exact h0.1
   rintro σ5 H5 ⟨W',h',o10,o11,o12,o13,rfl,S5,hh5,ho5,ecl,hsh⟩
   have hlc5:=bH _ _ (S5 _ _ hlc4)
   have hlo5:=bH _ _ (S5 _ _ (S4h _ _ hlo))
   have hlr5:=bH _ _ (S5 _ _ hlr4)
   have hG5:=Fz.tabG (af.fz ((S4h.trans S5).trans bH)) hG
   refine bj (fun σ' H'=>∃ σ1,σ'=σ1) (fun R hR=>?_) ?_
   · walk_at "dm"
     refine⟨by omega,by omega,?_⟩
     rw[Int.toNat_natCast]
     refine cc (H0:=fun _=>none) bu (fun k σ' H'=>∃ (o9:Option V),σ'=[some (.ref x),some (.ref lo),some (.ref tb),some (.ref lr),some (.ref lt),some (.int d),some (.ref A0.x),some (.int m),some (.ref lc),o9,o10,o11,o12,o13]∧af H5 H') ⟨_,rfl,af.refl _⟩ (fun _ _ _ _ _ b o e=>by cases e) ?_ (fun σ H' _=>hR _ _ ⟨_,rfl⟩)
     rintro k y σ' H' hk rfl ⟨o9,rfl,S⟩ R2 hR2
     have hz:(0:Int)+(k:Int)=k:=by omega
     rw[hz]
     obtain⟨c,hck⟩:∃ c,cs[k]?=some c:=⟨_,List.getElem?_eq_getElem (by omega)⟩
     obtain⟨z,hzk⟩:∃ z,so[k]?=some z:=⟨_,List.getElem?_eq_getElem (by omega)⟩
     have hcm:=hcnm c (List.mem_of_getElem? hck)
     have hcl5:c∈h'.cl.map (·.1):=by rw[ecl];exact hcmem c (List.mem_of_getElem? hck)
     have hzso:=List.mem_of_getElem? hzk
     have hh6:=af.house S hh5
     obtain⟨e1,e2⟩:=hsh k c z hck hzk
     refine bj (fun σ' H''=>σ'=[some (.ref x),some (.ref lo),some (.ref tb),some (.ref lr),some (.ref lt),some (.int d),some (.ref A0.x),some (.int m),some (.ref lc),some (.int k),o10,o11,o12,o13]∧af H5 H'') (fun R3 hR3=>?_) ?_
     · walk_at "dm"
       refine⟨A0.dx,_,hh6.ins,lk0 (by decide +kernel) (by decide +kernel) (by decide +kernel) (by decide +kernel),_,SqL.of (S _ _ hlc5),_,cr hck,A0,W',sb,_,h',c,d,rfl,hh6,ho5,hcm.1,fun _ _ H7 S7=>?_,fun hn=>absurd hcl5 hn,fun _ hn=>absurd ⟨hd1,by omega⟩ hn⟩
       refine⟨_,SqL.of (S7 _ _ (S _ _ hlo5)),_,cr hzk,tb,lr,ss,ns,row,lk,z,rfl,Fz.tabG (af.fz (S.trans S7)) hG5,hcls,SqL.of (S7 _ _ (S _ _ hlr5)),fun n hn=>(hrow n hn).2,(hsob z hzso).2,_,_,rfl,true,by rw[e2,heq z hzso,decide_eq_true rfl],bn (fun h=>by cases h) (fun _=>hR3 _ _ ⟨rfl,S.trans S7⟩)⟩
     rintro σ2 H2 ⟨rfl,S2⟩
     have hh7:=af.house S2 hh5
     walk_at "dm"
     refine⟨A0.dx,_,hh7.ins,lk0 (by decide +kernel) (by decide +kernel) (by decide +kernel) (by decide +kernel),_,SqL.of (S2 _ _ hlc5),_,cr hck,A0,W',sb,_,h',c,_,rfl,hh7,ho5,hcm.1,fun _ _ H7 S7=>?_,fun hn=>absurd hcl5 hn,fun _ hn=>absurd ⟨by omega,by omega⟩ hn⟩
     exact⟨_,SqL.of (S7 _ _ (S2 _ _ hlo5)),_,cr hzk,_,_,rfl,true,by rw[e1,hend z hzso,decide_eq_true rfl],bn (fun h=>by cases h) (fun _=>hR2 _ _ ⟨_,rfl,S2.trans S7⟩)⟩
   rintro σ6 H6 ⟨σ1,rfl⟩
   walk_at "dm"
   exact q _
end

section
variable {P:Program}{w:World}{K:PySem.W.Frag}{mg:Str→Option Value}{base:Heap}
def ki (K:PySem.W.Frag)(CH CB:Addr):Sp:=fun vs H Q _=>∃ (x tb lr o:Addr)(ss ns sb:List Str)(bb:List (Str×List Str))(lk:Str→Str→Str)(row:List Str) (z1 z2:Str) (dy:Int),vs=[.ref x,.ref tb,.ref lr,.ref o,.int dy]∧br H CB x sb bb∧aP sb bb∧lW H tb ss ns lk∧(∀ n∈ns,∀ z∈ss,lk n z∈ss)∧H lr=some (.lst (row.map V.str))∧H o=some (.tup [.str z1,.str z2])∧z1∈sb∧z2∈sb∧z1∈ss∧(∀ n∈row,n∈bb.map (·.1)∧n∈ns)∧row.length≤40∧aR lk row z1=aR (lkB sb bb) row z1∧aR (lkB sb bb) row z1=aR (lkB sb bb) row z2∧1≤dy∧dy≤400∧∀ H',Q (.bl true) H'
theorem fm:ap ["_law_book", "_law_tables_here", "_law_row_here", "_law_pair_here", "_law_day", "_law_house", "_law_bath", "_law_due"] ["_law_book", "_law_tables_here", "_law_row_here", "_law_pair_here", "_law_day"] (ae eC):=⟨rfl,rfl,rfl,by decide +kernel,rfl,by decide +kernel,by decide +kernel⟩
theorem ml {f fHR fHQ fHS fTI fAE fHI:Addr}{fd fdHR fdHQ fdHS fdTI fdAE fdHI:FuncData}{CH CB cBN cKn cNS cFu cNC cNB cND cLa:Addr}(F:Fun K "_law_brought_to_one" "_law_brought_to_one" eC f fd)
   (T:Txt mg)(hX:Hx K mg CH)
   (GHR:ao P w K mg base (CX1 P w) 5 fHR fdHR ["self", "cloth", "shade"] (jv CH CB cBN cKn cNS cFu))(hmHR:bQ K CH "bring" fHR)(bHR:ay K fdHR ["self", "cloth", "shade"] [])
   (GHQ:ao P w K mg base (CX1 P w) 5 fHQ fdHQ ["self", "cloth", "bath", "day"] (nP CH CB cNC cNB cND cLa cFu))(hmHQ:bQ K CH "dip" fHQ)(bHQ:ay K fdHQ ["self", "cloth", "bath", "day"] [])
   (GHS:ao P w K mg base (CX1 P w) 3 fHS fdHS ["self", "cloth", "day"] (gJ CH CB cNC cND))(hmHS:bQ K CH "shade" fHS)(bHS:ay K fdHS ["self", "cloth", "day"] [])
   (GTI:ao P w K mg base CX0 1 fTI fdTI ["_law_found", "_law_due"] jk)(kTI:PySem.W.keepIn K (.ref fTI)=true)(bTI:ay K fdTI ["_law_found", "_law_due"] [])(mTI:mg "_law_text_is"=some (.ref fTI))
   (GAE:ao P w K mg base CX0 1 fAE fdAE ["_law_tables_here", "_law_row_here", "_law_shade"] (lB K))(kAE:PySem.W.keepIn K (.ref fAE)=true)(bAE:ay K fdAE ["_law_tables_here", "_law_row_here", "_law_shade"] [])(mAE:mg "_law_at_end"=some (.ref fAE))
   (MH:Mk K CH fHI)(GHI:ao P w K mg base CX0 1 fHI fdHI ["self", "book"] (lu CH CB))(bHI:ay K fdHI ["self", "book"] [])(mCH:mg "House"=some (.ref CH)) :
   ao P w K mg base CX0 6 f fd ["_law_book", "_law_tables_here", "_law_row_here", "_law_pair_here", "_law_day"] (ki K CH CB):=by
 refine F.ok fm (fun vs H Q E h=>?_) (fun cdv A outer s H vs Q E hr h=>?_)
 · obtain⟨_,_,_,_,_,_,_,_,_,_,_,_,_,rfl,_⟩:=h
   rfl
 · obtain⟨x,tb,lr,o,ss,ns,sb,bb,lk,row,z1,z2,dy,rfl,hbk,Bb,hG,hcls,hlr,hoo,hz1,hz2,hz1s,hrow,hr40,heq,hzz,hd1,hd4,q⟩:=h
   have cH:=hX.c
   have hr1:=hr.mono (j:=1) (by omega)
   have hr2:=hr.mono (j:=2) (by omega)
   have hr3:=hr.mono (j:=3) (by omega)
   have hr5:=hr.mono (j:=5) (by omega)
   refine⟨_,(aj (aC (i:=5) fm.nd rfl (Or.inl rfl) (iQ MH GHI hr2 rfl mCH bHI .nil aJ (aa (pv 0) ad)))
     (aj (aO (bf (pv 5) cH hmHR GHR hr5 bHR .nil fZ (aa aV (aa (aM cC (pv 3) ah (fun _ _=>rfl)) ad))))
     (aj (aO (bf (pv 5) cH hmHR GHR hr5 bHR .nil fZ (aa aV (aa (aM cC (pv 3) ah (fun _ _=>rfl)) ad))))
     (aj (bz PassesOwn.never rfl (a9 (pv 2)) (au (i:=6) fm.nd rfl (Or.inl rfl)) (aj (aO (bf (pv 5) cH hmHQ GHQ hr5 bHQ .nil fZ (aa aV (aa (pv 6) (aa (pv 4) ad)))))
     (ag (aO (bf (pv 5) cH hmHQ GHQ hr5 bHQ .nil fZ (aa aV (aa (pv 6) (aa (pv 4) ad))))))))
     (aj (aC (i:=7) fm.nd rfl (Or.inl rfl) (ar GAE hr1 rfl mAE kAE bAE .nil aJ (aa (pv 1) (aa (pv 2) (aa (aM cC (pv 3) ah (fun _ _=>rfl)) ad)))))
     (ag (ax (lO (ar GTI hr1 rfl mTI kTI bTI .nil aJ (aa (bf (pv 5) cH hmHS GHS hr3 bHS .nil fZ (aa aV (aa (pv 4) ad))) (aa (pv 7) ad))) (lx (ar GTI hr1 rfl mTI kTI bTI .nil aJ (aa (bf (pv 5) cH hmHS GHS hr3 bHS .nil fZ (aa aV (aa (pv 4) ad))) (aa (pv 7) ad)))))))))))),?_⟩
   have hs:=aQ
   have lk0:∀ {A0:Ad}{m:Str}{dd:Int},(m==Str.ofString "first_shades")=false→(m==Str.ofString "day_now")=false→(m==Str.ofString "standing")=false→(m==Str.ofString "books_from")=false→List.lookup m (hfs A0 dd)=none:=fun h1 h2 h3 h4=>gj h1 h2 h3 h4
   refine bj (fun σ' H'=>∃ (A0:Ad)(W:Hp),σ'=[some (.ref x),some (.ref tb),some (.ref lr),some (.ref o),some (.int dy),some (.ref A0.x),none,none]∧af H (hid H' A0)∧aY H' CH CB A0 W sb ⟨[],1,[],[(1,(sb,bb))]⟩) (fun R hR=>?_) ?_
   · walk_at "dm"
     intro xh dx hx hdx hne
     have S6':af H (hide (upd (upd H dx (.own xh)) xh (.ins CH dx [])) xh):=fun y o e=>by
       rw[bq (ak e hx),ai (ak e hx),ai (ak e hdx)];exact e
     exact⟨xh,dx,x,_,sb,bb,rfl,ac,af.refl _,af.book S6' hbk,fun A0 H2 hA S7 hh=>⟨rfl,by rw[←hA];exact hR _ _ ⟨A0,_,rfl,S6'.trans S7,hh⟩⟩⟩
   rintro σ14 H14 ⟨A0,W,rfl,S14,hh14⟩
   have ho14:=cW.new Bb
   have shl:Shw (Str.ofString "left"):=⟨by decide +kernel,by decide +kernel⟩
   have shr:Shw (Str.ofString "right"):=⟨by decide +kernel,by decide +kernel⟩
   have gl:bp (Str.ofString "left")=true:=by decide +kernel
   have gr:bp (Str.ofString "right")=true:=by decide +kernel
   have hlr':Str.ofString "left"≠Str.ofString "right":=by decide +kernel
   have hrn:Str.ofString "right"∉[(Str.ofString "left",z1)].map (·.1):=fun h=>hlr' (List.mem_singleton.mp h).symm
   have ho15:cW sb (bb.map (·.1)) ⟨[(Str.ofString "left",z1)],1,[],[(1,(sb,bb))]⟩:=ho14.bring List.not_mem_nil hz1 gl
   have ho16:cW sb (bb.map (·.1)) ⟨[(Str.ofString "left",z1),(Str.ofString "right",z2)],1,[],[(1,(sb,bb))]⟩:=ho15.bring hrn hz2 gr
   refine bj (fun σ' H'=>σ'=[some (.ref x),some (.ref tb),some (.ref lr),some (.ref o),some (.int dy),some (.ref A0.x),none,none]∧af (hid H14 A0) (hid H' A0)∧aY H' CH CB A0 W sb ⟨[(Str.ofString "left",z1)],1,[],[(1,(sb,bb))]⟩) (fun R hR=>?_) ?_
   · walk_at "dm"
     exact⟨A0.dx,_,hh14.ins,lk0 (by decide +kernel) (by decide +kernel) (by decide +kernel) (by decide +kernel),_,SqT.of (bH _ _ (S14 _ _ hoo)),_,rfl,A0,W,sb,_,_,_,_,rfl,hh14,ho14,Nat.zero_le _,shl,Bb.snw z1 hz1,fun hn=>absurd (gl.symm.trans hn) (by decide),fun _ hn=>absurd hn List.not_mem_nil,fun _ _ hn=>absurd hz1 hn,fun _ _ _ hn=>absurd hn (by show ¬(50≤0);omega),fun _ _ _ _ H2 S2 hh2=>hR _ _ ⟨rfl,S2,hh2⟩⟩
   rintro σ15 H15 ⟨rfl,S15,hh15⟩
   refine bj (fun σ' H'=>σ'=[some (.ref x),some (.ref tb),some (.ref lr),some (.ref o),some (.int dy),some (.ref A0.x),none,none]∧af (hid H15 A0) (hid H' A0)∧aY H' CH CB A0 W sb ⟨[(Str.ofString "left",z1),(Str.ofString "right",z2)],1,[],[(1,(sb,bb))]⟩) (fun R hR=>?_) ?_
   · walk_at "dm"
     exact⟨A0.dx,_,hh15.ins,lk0 (by decide +kernel) (by decide +kernel) (by decide +kernel) (by decide +kernel),_,SqT.of (bH _ _ (S15 _ _ (S14 _ _ hoo))),_,rfl,A0,W,sb,_,_,_,_,rfl,hh15,ho15,by show 1≤1000;omega,shr,Bb.snw z2 hz2,fun hn=>absurd (gr.symm.trans hn) (by decide),fun _ hn=>absurd hn hrn,fun _ _ hn=>absurd hz2 hn,fun _ _ _ hn=>absurd hn (by show ¬(50≤1);omega),fun _ _ _ _ H2 S2 hh2=>hR _ _ ⟨rfl,S2,hh2⟩⟩
   rintro σ16 H16 ⟨rfl,S16,hh16⟩
   have S6h:af H (hid H16 A0):=S14.trans (S15.trans S16)
   have hcnd:([(Str.ofString "left",z1),(Str.ofString "right",z2)].map (·.1)).Nodup:=ho16.cnd
   have hlr16:=S6h _ _ hlr
   have hday:1≤dy∧dy≤400:=⟨hd1,hd4⟩
   refine bj (fun σ' H'=>∃ (W':Hp) (h':Hs)(o6:Option V),σ'=[some (.ref x),some (.ref tb),some (.ref lr),some (.ref o),some (.int dy),some (.ref A0.x),o6,none]∧af (hid H16 A0) (hid H' A0)∧aY H' CH CB A0 W' sb h'∧cW sb (bb.map (·.1)) h'∧h'.cl=[(Str.ofString "left",z1),(Str.ofString "right",z2)]∧ba h' (Str.ofString "left") dy=aR (lkB sb bb) row z1∧ba h' (Str.ofString "right") dy=aR (lkB sb bb) row z2) (fun R hR=>?_) ?_
   · walk_at "dm"
     refine⟨⟨_,SqL.of (bH _ _ hlr16)⟩,?_⟩
     refine cc (H0:=hid H16 A0) (az (SqL.of hlr16)) (fun j σ' H'=>∃ (W':Hp) (h':Hs)(o6:Option V),σ'=[some (.ref x),some (.ref tb),some (.ref lr),some (.ref o),some (.int dy),some (.ref A0.x),o6,none]∧af (hid H16 A0) (hid H' A0)∧aY H' CH CB A0 W' sb h'∧cW sb (bb.map (·.1)) h'∧h'.cl=[(Str.ofString "left",z1),(Str.ofString "right",z2)]∧h'.bk=[(1,(sb,bb))]∧h'.day≤dy∧h'.dp.length=j*2∧ba h' (Str.ofString "left") dy=aR (lkB sb bb) (row.take j) z1∧ba h' (Str.ofString "right") dy=aR (lkB sb bb) (row.take j) z2) ⟨W,_,none,rfl,af.refl _,hh16,ho16,rfl,rfl,hd1,rfl,?_,?_⟩ (fun _ _ _ _ ⟨_,_,_,_,h,_⟩=>h.trans bH) ?_ ?_
     · unfold ba
       show(([(Str.ofString "left",z1),(Str.ofString "right",z2)].lookup (Str.ofString "left")).getD ⟨#[]⟩)=z1
       rw[dI (c:=(Str.ofString "left",z1)) hcnd (by simp)]
       rfl
     · unfold ba
       show(([(Str.ofString "left",z1),(Str.ofString "right",z2)].lookup (Str.ofString "right")).getD ⟨#[]⟩)=z2
       rw[dI (c:=(Str.ofString "right",z2)) hcnd (by simp)]
       rfl
     · rintro j y σ' H' hj hy ⟨W',h',o6,rfl,hS,hh,ho,ecl,ebk,hdy,hdl,hu1,hv1⟩ R2 hR2
       rw[List.getElem?_map] at hy
       obtain⟨n,hn,rfl⟩:=Option.map_eq_some_iff.mp hy
       rw[List.length_map] at hj
       have hnm:=(hrow n (List.mem_of_getElem? hn)).1
       have hnS:Shw n:=by
         obtain⟨b',hb',rfl⟩:=List.mem_map.mp hnm
         exact Bb.bnw b' hb'
       have hem:∀ z∈sb,aR (lkB sb bb) (row.take j) z∈sb:=fun z hz=>dY (cR Bb) _ z (fun m hm=>(hrow m (List.mem_of_mem_take hm)).1) hz
       have hcll:Str.ofString "left"∈h'.cl.map (·.1):=by rw[ecl];exact List.mem_cons_self
       have hclr:Str.ofString "right"∈h'.cl.map (·.1):=by rw[ecl];exact List.mem_cons_of_mem _ List.mem_cons_self
       have hum:=cR Bb n hnm _ (hem z1 hz1)
       have hvm:=cR Bb n hnm _ (hem z2 hz2)
       refine bj (fun σ2 H2=>∃ (W2:Hp) (h2:Hs),σ2=[some (.ref x),some (.ref tb),some (.ref lr),some (.ref o),some (.int dy),some (.ref A0.x),some (.str n),none]∧af (hid H16 A0) (hid H2 A0)∧aY H2 CH CB A0 W2 sb h2∧cW sb (bb.map (·.1)) h2∧h2.cl=[(Str.ofString "left",z1),(Str.ofString "right",z2)]∧h2.bk=[(1,(sb,bb))]∧h2.day=dy∧h2.dp.length=j*2+1∧ba h2 (Str.ofString "left") dy=aR (lkB sb bb) (row.take (j+1)) z1∧ba h2 (Str.ofString "right") dy=aR (lkB sb bb) (row.take j) z2) (fun R3 hR3=>?_) ?_
       · walk_at "dm"
         refine⟨A0.dx,_,hh.ins,lk0 (by decide +kernel) (by decide +kernel) (by decide +kernel) (by decide +kernel),A0,W',sb,_,h',_,n,_,rfl,hh,ho,shl,hnS,fun hn=>absurd hcll hn,fun _ hn'=>absurd hnm hn',fun _ _ hn=>absurd hday hn,fun _ _ _ hl=>absurd hl (by omega),fun _ _ _ _ hn=>absurd hn (by omega),fun _ _ _ hge hlen H9 W9 S9 G9 hh9=>?_⟩
         have eo:lkB (dc h'.bk dy).1 (dc h'.bk dy).2 n (ba h' (Str.ofString "left") dy)=lkB sb bb n (aR (lkB sb bb) (row.take j) z1):=by
           rw[hu1,ebk];rfl
         rw[eo] at hh9
         have ho9:=ho.dip (c:=Str.ofString "left") (b:=n) hday hge hlen hum
         refine hR3 _ _ ⟨W9,_,rfl,hS.trans S9,hh9,ho9,ecl,ebk,rfl,?_,?_,?_⟩
         · show(h'.dp++[_]).length=_
           rw[List.length_append,hdl];rfl
         · rw[cG,if_pos ⟨rfl,Int.le_refl _⟩,ef hn]
         · rw[cG,if_neg (fun h=>hlr' h.1)]
           exact hv1
       rintro σ2 H2 ⟨W2,h2,rfl,S2,hh2,ho2,ecl2,ebk2,hdy2,hdl2,hu2,hv2⟩
       have hclr2:Str.ofString "right"∈h2.cl.map (·.1):=by rw[ecl2];exact List.mem_cons_of_mem _ List.mem_cons_self
       walk_at "dm"
       refine⟨A0.dx,_,hh2.ins,lk0 (by decide +kernel) (by decide +kernel) (by decide +kernel) (by decide +kernel),A0,W2,sb,_,h2,_,n,_,rfl,hh2,ho2,shr,hnS,fun hn=>absurd hclr2 hn,fun _ hn'=>absurd hnm hn',fun _ _ hn=>absurd hday hn,fun _ _ _ hl=>absurd hl (by omega),fun _ _ _ _ hn=>absurd hn (by omega),fun _ _ _ hge hlen H9 W9 S9 G9 hh9=>?_⟩
       have eo:lkB (dc h2.bk dy).1 (dc h2.bk dy).2 n (ba h2 (Str.ofString "right") dy)=lkB sb bb n (aR (lkB sb bb) (row.take j) z2):=by
         rw[hv2,ebk2];rfl
       rw[eo] at hh9
       have ho9:=ho2.dip (c:=Str.ofString "right") (b:=n) hday hge hlen hvm
       refine hR2 _ _ ⟨W9,_,_,rfl,S2.trans S9,hh9,ho9,ecl2,ebk2,Int.le_refl _,?_,?_,?_⟩
       · show(h2.dp++[_]).length=_
         rw[List.length_append,hdl2,Nat.add_mul];rfl
       · rw[cG,if_neg (fun h=>hlr' h.1.symm)]
         exact hu2
       · rw[cG,if_pos ⟨rfl,Int.le_refl _⟩,ef hn]
     · rintro σ' H' ⟨W',h',o6,rfl,hS,hh,ho,ecl,_,_,_,hu,hv⟩
       rw[List.length_map,List.take_of_length_le (Nat.le_refl _)] at hu hv
       exact hR _ _ ⟨W',h',o6,rfl,hS,hh,ho,ecl,hu,hv⟩
   rintro σ17 H17 ⟨W',h',o6,rfl,S17,hh17,ho17,ecl,hu,hv⟩
   have hcll:Str.ofString "left"∈h'.cl.map (·.1):=by rw[ecl];exact List.mem_cons_self
   have hclr:Str.ofString "right"∈h'.cl.map (·.1):=by rw[ecl];exact List.mem_cons_of_mem _ List.mem_cons_self
   have S0:af H H17:=(S6h.trans S17).trans bH
   refine bj (fun σ' H'=>σ'=[some (.ref x),some (.ref tb),some (.ref lr),some (.ref o),some (.int dy),some (.ref A0.x),o6,some (.str (aR (lkB sb bb) row z1))]∧H'=H17) (fun R hR=>?_) ?_
   · walk_at "dm"
     refine⟨_,SqT.of (S0 _ _ hoo),_,rfl,tb,lr,ss,ns,row,lk,z1,rfl,Fz.tabG (af.fz S0) hG,hcls,SqL.of (S0 _ _ hlr),fun n hn=>(hrow n hn).2,hz1s,?_⟩
     rw[heq]
     exact hR _ _ ⟨rfl,rfl⟩
   rintro σ18 H18 ⟨rfl,rfl⟩
   walk_at "dm"
   refine⟨A0.dx,_,hh17.ins,lk0 (by decide +kernel) (by decide +kernel) (by decide +kernel) (by decide +kernel),A0,W',sb,_,h',_,dy,rfl,hh17,ho17,shl,fun _ _ H7 S7=>?_,fun hn=>absurd hcll hn,fun _ hn=>absurd hday hn⟩
   refine⟨_,_,rfl,true,by rw[hu,decide_eq_true rfl],bn (fun _=>?_) (fun h=>absurd rfl h)⟩
   have hh18:=af.house S7 hh17
   refine⟨A0.dx,_,hh18.ins,lk0 (by decide +kernel) (by decide +kernel) (by decide +kernel) (by decide +kernel),A0,W',sb,_,h',_,dy,rfl,hh18,ho17,shr,fun _ _ H8 S8=>?_,fun hn=>absurd hclr hn,fun _ hn=>absurd hday hn⟩
   refine⟨_,_,rfl,?_⟩
   rw[hv,←hzz,decide_eq_true rfl]
   exact q _
end

section
variable {P:Program}{w:World}{K:PySem.W.Frag}{mg:Str→Option Value}{base:Heap}
theorem jf (row:List Str):∀ k,(List.replicate k row).flatten.length=k*row.length
 | 0=>by rw[Nat.zero_mul];rfl
 | k+1=>by rw[List.replicate_succ,List.flatten_cons,List.length_append,jf row k,Nat.succ_mul,Nat.add_comm]
theorem se {lk:Str→Str→Str}(r1 r2:List Str) (z:Str):aR lk (r1++r2) z=aR lk r2 (aR lk r1 z):=by
 unfold aR
 rw[List.foldl_append]
theorem kt {lk:Str→Str→Str}{row:List Str}:∀ (k:Nat) (y:Str),aR lk (List.replicate k row).flatten y=itG (aR lk row) k y
 | 0,_=>rfl
 | k+1,y=>by
   rw[List.replicate_succ,List.flatten_cons,se,kt k,eK (aR lk row) 1 y k]
   rfl
def vZ (a b:Sp):Sp:=fun vs H Q E=>a vs H Q E∨b vs H Q E
theorem tX {CX:CXT}{k:Nat}{f:Addr}{fd:FuncData}{ps:List Str}{a b:Sp}(F:ao P w K mg base CX k f fd ps a)(G:ao P w K mg base CX k f fd ps b):ao P w K mg base CX k f fd ps (vZ a b) :=
 ⟨fun vs H Q E h=>h.elim (F.len vs H Q E) (G.len vs H Q E),fun A outer s H args us vs Q E hr he hb hv hs=>hs.elim (F.run A outer s H args us vs Q E hr he hb hv) (G.run A outer s H args us vs Q E hr he hb hv)⟩
def oW (K:PySem.W.Frag):Sp:=fun vs H Q _=>∃ (a:Addr)(ns:List Int),vs=[.ref a]∧SqL K H a (ns.map V.int)∧ns.length≤63∧∀ H',Q (.bl true) H'
theorem eZ:ap ["_law_script", "_law_cells", "_law_shades", "_law_baths", "_law_spare", "_law_other", "_law_tables_here", "_law_book", "_law_row_here", "_law_day", "_law_found"] ["_law_script"] (ae k9):=⟨rfl,rfl,rfl,by decide +kernel,rfl,by decide +kernel,by decide +kernel⟩
theorem vL {f fA fDr fTa fHd fRw fTx fRB fTK fPr fLo fBA fBO:Addr}{fd fdA fdDr fdTa fdHd fdRw fdTx fdRB fdTK fdPr fdLo fdBA fdBO:FuncData}{CH CB:Addr}(F:Fun K "law" "law" k9 f fd)
   (T:Txt mg)(hX:Hx K mg CH)
   (GA:ao P w K mg base CX0 1 fA fdA ["_law_script", "_law_k"] (sx K))(kA:PySem.W.keepIn K (.ref fA)=true)(bA:ay K fdA ["_law_script", "_law_k"] [])(mA:mg "_law_at"=some (.ref fA))
   (GDr:ao P w K mg base CX0 4 fDr fdDr ["_law_script", "_law_many", "_law_count"] (pw K))(kDr:PySem.W.keepIn K (.ref fDr)=true)(bDr:ay K fdDr ["_law_script", "_law_many", "_law_count"] [])(mDr:mg "_law_sized"=some (.ref fDr))
   (GTa:ao P w K mg base CX0 1 fTa fdTa ["_law_shades", "_law_baths"] (ni K))(kTa:PySem.W.keepIn K (.ref fTa)=true)(bTa:ay K fdTa ["_law_shades", "_law_baths"] [])(mTa:mg "_law_tables"=some (.ref fTa))
   (GHd:ao P w K mg base CX0 6 fHd fdHd ["_law_shades", "_law_baths"] (mX K CB))(kHd:PySem.W.keepIn K (.ref fHd)=true)(bHd:ay K fdHd ["_law_shades", "_law_baths"] [])(mHd:mg "_law_handed"=some (.ref fHd))
   (GRw:ao P w K mg base CX0 2 fRw fdRw ["_law_cell", "_law_size", "_law_titles", "_law_mixed"] (uy K))(kRw:PySem.W.keepIn K (.ref fRw)=true)(bRw:ay K fdRw ["_law_cell", "_law_size", "_law_titles", "_law_mixed"] [])(mRw:mg "_law_row"=some (.ref fRw))
   (GTx:ao P w K mg base CX0 1 fTx fdTx ["_law_order", "_law_tables_here"] (rn K))(kTx:PySem.W.keepIn K (.ref fTx)=true)(bTx:ay K fdTx ["_law_order", "_law_tables_here"] [])(mTx:mg "_law_text"=some (.ref fTx))
   (GRB:ao P w K mg base CX0 7 fRB fdRB ["text"] (sL CB))(kRB:PySem.W.keepIn K (.ref fRB)=true)(bRB:ay K fdRB ["text"] [])(mRB:mg "read_book"=some (.ref fRB))
   (GTK:ao P w K mg base CX0 6 fTK fdTK ["book", "row"] (oI K CB))(kTK:PySem.W.keepIn K (.ref fTK)=true)(bTK:ay K fdTK ["book", "row"] [])(mTK:mg "taken_out"=some (.ref fTK))
   (GPr:ao P w K mg base CX0 1 fPr fdPr ["_law_found"] sC)(kPr:PySem.W.keepIn K (.ref fPr)=true)(bPr:ay K fdPr ["_law_found"] [])(mPr:mg "_law_pair"=some (.ref fPr))
   (GLo:ao P w K mg base CX0 1 fLo fdLo ["_law_found", "_law_known", "_law_most"] (vZ (kg K) (jO K)))(kLo:PySem.W.keepIn K (.ref fLo)=true)(bLo:ay K fdLo ["_law_found", "_law_known", "_law_most"] [])(mLo:mg "_law_list_of_names"=some (.ref fLo))
   (GBA:ao P w K mg base CX0 6 fBA fdBA ["_law_book", "_law_order", "_law_tables_here", "_law_row_here", "_law_told", "_law_day"] (iq K CH CB))(kBA:PySem.W.keepIn K (.ref fBA)=true)(bBA:ay K fdBA ["_law_book", "_law_order", "_law_tables_here", "_law_row_here", "_law_told", "_law_day"] [])(mBA:mg "_law_back_again"=some (.ref fBA))
   (GBO:ao P w K mg base CX0 6 fBO fdBO ["_law_book", "_law_tables_here", "_law_row_here", "_law_pair_here", "_law_day"] (ki K CH CB))(kBO:PySem.W.keepIn K (.ref fBO)=true)(bBO:ay K fdBO ["_law_book", "_law_tables_here", "_law_row_here", "_law_pair_here", "_law_day"] [])(mBO:mg "_law_brought_to_one"=some (.ref fBO)) :
   ao P w K mg base CX0 8 f fd ["_law_script"] (oW K):=by
 refine F.ok eZ (fun vs H Q E h=>?_) (fun cdv A outer s H vs Q E hr h=>?_)
 · obtain⟨_,_,rfl,_⟩:=h
   rfl
 · obtain⟨a,ns,rfl,ha,hn,q⟩:=h
   have hr1:=hr.mono (j:=1) (by omega)
   have hr2:=hr.mono (j:=2) (by omega)
   have hr4:=hr.mono (j:=4) (by omega)
   have hr6:=hr.mono (j:=6) (by omega)
   have hr7:=hr.mono (j:=7) (by omega)
   refine⟨_,(aj (iE (i:=1) (N':=["_law_k", "_law_script"]) (pk:=[none,some 0]) eZ.nd rfl (Or.inl rfl) rfl (cg.of (by rfl)) (cj rfl T.range (aa ah ad)) (fun s H ex=>(au (i:=0) (by show(["_law_k", "_law_script"]:List Str).Nodup;decide +kernel) rfl (Or.inl rfl))) (fun s H ex=>(ar GA hr1 rfl mA kA bA .nil aJ (aa (pv 1) (aa (pv 0) ad)))))
     (aj (aZ (aF dn (aw bi (aM aG (pv 1) ah (fun _ _=>rfl)) ah) ah (aK _)) (ag (lU (aM aG (bx (aa ah (aa ah ad))) (aw bi (aM aG (pv 1) ah (fun _ _=>rfl)) ah) (fun _ _=>rfl)) (rm (pv 1) ah m3))) aB)
     (aj (lU (ar GDr hr4 rfl mDr kDr bDr .nil aJ (aa (pv 1) (aa (aw bJ ah (aw bi (aM aG (pv 1) ah (fun _ _=>rfl)) ah)) (aa (aw bi (aM aG (pv 1) ah (fun _ _=>rfl)) ah) ad)))) (d7 (n:=4) rfl (aX (au (i:=2) eZ.nd rfl (Or.inl rfl)) (aX (au (i:=3) eZ.nd rfl (Or.inl rfl)) (aX (au (i:=4) eZ.nd rfl (Or.inl rfl)) (aX (au (i:=5) eZ.nd rfl (Or.inl rfl)) dh))))))
     (aj (aC (i:=6) eZ.nd rfl (Or.inl rfl) (ar GTa hr1 rfl mTa kTa bTa .nil aJ (aa (pv 2) (aa (pv 3) ad))))
     (aj (aC (i:=7) eZ.nd rfl (Or.inl rfl) (ar GHd hr6 rfl mHd kHd bHd .nil aJ (aa (pv 2) (aa (pv 3) ad))))
     (aj (aZ (aF dn (aw bi (aM aG (pv 1) ah (fun _ _=>rfl)) ah) ah (aK _)) (ag (aC (i:=7) eZ.nd rfl (Or.inl rfl) (ar GRB hr7 rfl mRB kRB bRB .nil aJ (aa (ar GTx hr1 rfl mTx kTx bTx .nil aJ (aa (av eY (by rfl) T.sorted (by decide +kernel) (aa (pv 2) ad)) (aa (pv 6) ad))) ad)))) aB)
     (aj (aC (i:=8) eZ.nd rfl (Or.inl rfl) (ar GRw hr2 rfl mRw kRw bRw .nil aJ (aa (aM aG (pv 1) ah (fun _ _=>rfl)) (aa (aw bi (aw bJ (aM aG (pv 1) ah (fun _ _=>rfl)) ah) ah) (aa (av (eO rfl) (by rfl) T.sorted (by decide +kernel) (aa (pv 6) ad)) (aa (aw bi (aM aG (pv 1) ah (fun _ _=>rfl)) ah) ad))))))
     (aj (aC (i:=9) eZ.nd rfl (Or.inl rfl) (aw bJ ah (aw bi (aM aG (pv 1) ah (fun _ _=>rfl)) ah)))
     (aj (aC (i:=10) eZ.nd rfl (Or.inl rfl) (ar GTK hr6 rfl mTK kTK bTK .nil aJ (aa (pv 7) (aa (bg cV (by rfl) T.list (by decide +kernel) (aa (pv 8) ad)) ad))))
     (aj (aZ (dv (dr (ar GPr hr1 rfl mPr kPr bPr .nil aJ (aa (pv 10) ad)))) (ag (ax eD)) aB)
     (aj (aZ (aF lS (aM cC (pv 10) ah (fun _ _=>rfl)) gR (aK _)) (al (aZ (PW.pt (ir (dv (dr (ar GLo hr1 rfl mLo kLo bLo .nil aJ (aa (aM cC (pv 10) ah (fun _ _=>rfl)) (aa (pv 6) (aa (aw gk ah (av aE (by rfl) T.len PySem.boot_len (aa (pv 8) ad))) ad)))))) (fh (aF lS (aM cC (pv 10) ah (fun _ _=>rfl)) gR (aK _))))) (ag (ax eD)) aB)
     (ag (ax (ar GBA hr6 rfl mBA kBA bBA .nil aJ (aa (pv 7) (aa (av eY (by rfl) T.sorted (by decide +kernel) (aa (pv 2) ad)) (aa (pv 6) (aa (pv 8) (aa (aM cC (pv 10) ah (fun _ _=>rfl)) (aa (pv 9) ad)))))))))) aB)
     (aj (aZ (PW.pt (ir (dv (dr (ar GPr hr1 rfl mPr kPr bPr .nil aJ (aa (aM cC (pv 10) ah (fun _ _=>rfl)) ad)))) (fh (dv (dr (ar GLo hr1 rfl mLo kLo bLo .nil aJ (aa (bg cV (by rfl) T.list (by decide +kernel) (aa (aM cC (pv 10) ah (fun _ _=>rfl)) ad)) (aa (pv 2) (aa ah ad))))))))) (ag (ax eD)) aB)
     (ag (ax (lO (cT qw (aM cC (aM cC (pv 10) ah (fun _ _=>rfl)) ah (fun _ _=>rfl)) (aM cC (aM cC (pv 10) ah (fun _ _=>rfl)) ah (fun _ _=>rfl)) (aK _)) (lx (ar GBO hr6 rfl mBO kBO bBO .nil aJ (aa (pv 7) (aa (pv 6) (aa (pv 8) (aa (aM cC (pv 10) ah (fun _ _=>rfl)) (aa (pv 9) ad)))))))))))))))))))))),?_⟩
   have hs:=aQ
   refine bj (fun σ' H'=>∃ (lc:Addr)(cs:List Int),σ'=[some (.ref a),some (.ref lc),none,none,none,none,none,none,none,none,none]∧af H H'∧H lc=none∧H' lc=some (.lst (cs.map V.int))∧cs.length=19) (fun R hR=>?_) ?_
   · walk_at "dm"
     refine⟨by omega,by omega,fun D hD=>?_⟩
     refine cq bu (by show(19:Int).toNat≤_;omega) hD (fun σ=>∃ o,σ=[o,some (.ref a)]) (fun k=>V.int (atL ns (k:Int))) ⟨none,rfl⟩ ?_ ?_
     · rintro k y σ' H4 hk rfl ⟨o,rfl⟩ hS4 R hR
       have hz:(0:Int)+(k:Int)=k:=by omega
       rw[hz]
       walk_at "dm"
       exact ff (hS4.seq ha) (by omega) (hR _ ⟨_,rfl⟩)
     · have e:(List.range (Int.toNat 19)).map (fun k:Nat=>V.int (atL ns (k:Int)))=((List.range 19).map fun k:Nat=>atL ns (k:Int)).map V.int:=by
         rw[List.map_map];rfl
       rw[e]
       exact hR _ _ ⟨D,_,rfl,af.updN hD,hD,ac,by simp⟩
   rintro σ1 H1 ⟨lc,cs0,rfl,S1,hlcn,hlc1,hcl0⟩
   have hget:∀ {cs:List Int}{k:Nat},cs.length=19→k < 19→∃ v,atI (cs.map V.int) (k:Int)=some (V.int v):=fun {cs k} h hk=>by
     obtain⟨v,hv⟩:∃ v,cs[k]?=some v:=⟨_,List.getElem?_eq_getElem (by omega)⟩
     exact⟨v,eX (by rw[List.getElem?_map,hv];rfl)⟩
   refine bj (fun σ' H'=>∃ (cs:List Int),σ'=[some (.ref a),some (.ref lc),none,none,none,none,none,none,none,none,none]∧af H H'∧H' lc=some (.lst (cs.map V.int))∧cs.length=19) (fun R hR=>?_) ?_
   · obtain⟨v17,h17⟩:=hget hcl0 (show 17 < 19 by omega)
     obtain⟨v2,h2⟩:=hget hcl0 (show 2 < 19 by omega)
     walk_at "dm"
     refine⟨_,SqL.of hlc1,_,h17,_,rfl,by decide,rfl,bn (fun _=>⟨by omega,fun p hp=>?_⟩) (fun _=>hR _ _ ⟨cs0,rfl,S1,hlc1,hcl0⟩)⟩
     have Sp:=af.updN (o:=.lst [V.int 1,V.int 7]) hp
     obtain⟨y,_,hy⟩:=qN [1,7] (x:=v2 % 2) (by omega) (by show v2 % 2 < 2;omega)
     refine⟨_,SqL.of (Sp _ _ hlc1),_,h2,_,rfl,by decide,_,SqL.of ac,_,hy,_,Sp _ _ hlc1,2,?_,hR _ _ ⟨cs0.set 2 y,rfl,?_,?_,by rw[List.length_set];exact hcl0⟩⟩
     · rw[List.length_map,hcl0];decide
     · exact qU (S1.trans Sp) hlcn
     · rw[ac,List.map_set]
   rintro σ2 H2 ⟨cs,rfl,S2,hlc,hcl⟩
   have hgt:∀ {H':Hp}{k:Nat},af H2 H'→k < 19→∃ v,(SqL K H' lc (cs.map V.int))∧atI (cs.map V.int) (k:Int)=some (V.int v):=fun {H' k} S hk=>by
     obtain⟨v,hv⟩:=hget hcl hk
     exact⟨v,SqL.of (S _ _ hlc),hv⟩
   refine bj (fun σ' H'=>∃ l lb ss bs v4 v5,σ'=[some (.ref a),some (.ref lc),some (.ref l),some (.ref lb),v4,v5,none,none,none,none,none]∧af H2 H'∧H' l=some (.lst (ss.map V.str))∧jt H' lb bs∧aP ss bs) (fun R hR=>?_) ?_
   · obtain⟨u0,_,h0⟩:=hgt (af.refl H2) (show 0 < 19 by omega)
     obtain⟨u1,_,h1⟩:=hgt (af.refl H2) (show 1 < 19 by omega)
     obtain⟨n,hn⟩:∃ n:Nat,1+u0 % 12=(n:Int):=Int.eq_ofNat_of_zero_le (by omega)
     obtain⟨c,hc⟩:∃ c:Nat,u1 % 9=(c:Int):=Int.eq_ofNat_of_zero_le (by omega)
     walk_at "dm"
     refine⟨_,SqL.of hlc,_,h0,_,rfl,by decide,_,SqL.of hlc,_,h1,_,rfl,by decide,?_⟩
     rw[hn,hc]
     exact⟨lc,cs,n,c,rfl,SqL.of hlc,by omega,by omega,by omega,fun p l lb ss bs spare other H' S h1 h2 h3 h4 h5 B _ _ _ _ _ _=>⟨p,_,rfl,SqT.of h1,rfl,_,_,rfl,_,_,rfl,_,_,rfl,_,_,rfl,rfl,hR _ _ ⟨l,lb,ss,bs,_,_,rfl,S,h3,h5,B⟩⟩⟩
   rintro σ3 H3 ⟨l,lb,ss,bs,v4,v5,rfl,S3,hl,hb,B⟩
   have hs12:=B.s12
   have hs1:=B.s1
   have hb8:=B.b8
   refine bj (fun σ' H'=>∃ tb,σ'=[some (.ref a),some (.ref lc),some (.ref l),some (.ref lb),v4,v5,some (.ref tb),none,none,none,none]∧af H3 H'∧gx H' tb ss bs) (fun R hR=>?_) ?_
   · walk_at "dm"
     exact⟨l,lb,ss,bs,rfl,SqL.of hl,hb,B,fun d H' hd S hT=>hR _ _ ⟨d,rfl,S,hT⟩⟩
   rintro σ4 H4 ⟨tb,rfl,S4,hT⟩
   have hG4:=gx.toG B hT
   refine bj (fun σ' H'=>∃ x,σ'=[some (.ref a),some (.ref lc),some (.ref l),some (.ref lb),v4,v5,some (.ref tb),some (.ref x),none,none,none]∧af H4 H'∧br H' CB x ss bs) (fun R hR=>?_) ?_
   · walk_at "dm"
     exact⟨l,lb,ss,bs,rfl,SqL.of (S4 _ _ hl),af.bths S4 hb,B,fun x H' hx S hbk=>hR _ _ ⟨x,rfl,S,hbk⟩⟩
   rintro σ5 H5 ⟨x0,rfl,S5,hbk0⟩
   have S35:=S4.trans S5
   have hl5:=S35 _ _ hl
   have hG5:=Fz.tabG (af.fz S5) hG4
   have hkR:∀ {so nt:List Str},(bsR so nt (lkB ss bs)).map (·.1)=nt:=fun {so nt}=>jy so nt (lkB ss bs)
   obtain⟨v18,_,h18⟩:=hgt (S3.trans S35) (show 18 < 19 by omega)
   have hlc5:=(S3.trans S35) _ _ hlc
   refine bj (fun σ' H'=>∃ (x:Addr)(sb:List Str)(bb:List (Str×List Str)),σ'=[some (.ref a),some (.ref lc),some (.ref l),some (.ref lb),v4,v5,some (.ref tb),some (.ref x),none,none,none]∧af H5 H'∧br H' CB x sb bb∧aP sb bb∧(∀ z,z∈sb↔z∈ss)∧(∀ n,n∈bb.map (·.1)↔n∈bs.map (·.1))∧∀ n z,n∈bs.map (·.1)→z∈ss→lkB sb bb n z=lkB ss bs n z) (fun R hR=>?_) ?_
   · walk_at "dm"
     refine⟨_,SqL.of hlc5,_,h18,_,rfl,by decide,rfl,bn (fun _=>?_) (fun _=>hR _ _ ⟨x0,ss,bs,rfl,af.refl _,hbk0,B,fun _=>Iff.rfl,fun _=>Iff.rfl,fun _ _ _ _=>rfl⟩)⟩
     refine⟨ss,SqL.of hl5,by omega,fun lo so hlo hpm hso=>?_⟩
     have So:=af.updN (o:=.lst (so.map V.str)) hlo
     refine⟨lo,tb,ss,so,bs.map (·.1),bs,lkB ss bs,rfl,B,ac,hpm,Fz.tabG (af.fz So) hG5,List.Perm.refl _,fun b hb z hz=>ee z B.bnd hb,fun H' nt S hnp hns=>?_⟩
     have BR:=u8 B hpm hnp
     exact⟨so,nt,lkB ss bs,rfl,BR,hso,hns,fun x2 H2 _ S2 hbk2=>hR _ _ ⟨x2,so,_,rfl,So.trans (S.trans S2),hbk2,BR,fun z=>hpm.mem_iff,fun n=>by rw[hkR];exact hnp.mem_iff,fun n z hn hz=>uK BR (hnp.mem_iff.mpr hn) (hpm.mem_iff.mpr hz)⟩⟩
   rintro σ6 H6 ⟨x,sb,bb,rfl,S6,hbk6,Bb,hzb,hnb,hlk⟩
   have eR:∀ (r:List Str) (z:Str),(∀ n∈r,n∈bb.map (·.1))→z∈ss→aR (lkB sb bb) r z=aR (lkB ss bs) r z:=by
     intro r
     induction r with
     | nil=>intro z _ _;rfl
     | cons n r ih =>
       intro z hr hz
       have hn:=(hnb n).mp (hr n List.mem_cons_self)
       show aR _ r (lkB sb bb n z)=aR _ r (lkB ss bs n z)
       rw[hlk n z hn hz]
       exact ih _ (fun m hm=>hr m (List.mem_cons_of_mem _ hm)) (cR B n hn z hz)
   have hG6:=Fz.tabG (af.fz S6) hG5
   obtain⟨v14,_,h14⟩:=hgt ((S3.trans S35).trans S6) (show 14 < 19 by omega)
   obtain⟨v15,_,h15⟩:=hgt ((S3.trans S35).trans S6) (show 15 < 19 by omega)
   obtain⟨v16,_,h16⟩:=hgt ((S3.trans S35).trans S6) (show 16 < 19 by omega)
   obtain⟨v3,_,h3⟩:=hgt ((S3.trans S35).trans S6) (show 3 < 19 by omega)
   have hlc6:=((S3.trans S35).trans S6) _ _ hlc
   refine bj (fun σ' H'=>∃ (lr:Addr)(row:List Str),σ'=[some (.ref a),some (.ref lc),some (.ref l),some (.ref lb),v4,v5,some (.ref tb),some (.ref x),some (.ref lr),none,none]∧af H6 H'∧H' lr=some (.lst (row.map V.str))∧row.length≤8∧∀ n∈row,n∈bb.map (·.1)) (fun R9 hR9=>?_) ?_
   · obtain⟨kvs,hRd,hkeys,_⟩:=id hG6
     obtain⟨m,hm⟩:∃ m:Nat,(v15+3) % 9=(m:Int):=Int.eq_ofNat_of_zero_le (by omega)
     walk_at "dm"
     refine⟨_,SqL.of hlc6,_,h14,_,SqL.of hlc6,_,h15,_,rfl,by decide,bs.map (·.1),kvs,hRd,hkeys,by rw[List.length_map];omega,fun p ts hp hpp _=>?_⟩
     have Sp:=af.updN (o:=.lst (ts.map V.str)) hp
     refine⟨_,SqL.of (Sp _ _ hlc6),_,h3,_,rfl,by decide,?_⟩
     rw[hm]
     refine⟨_,_,m,p,ts,rfl,SqL.of ac,by omega,by rw[hpp.length_eq,List.length_map];exact hb8,by omega,fun p2 row H6 _ S6 hH _ hlen hrow=>hR9 _ _ ⟨p2,row,rfl,Sp.trans S6,hH,?_,fun n hn=>(hnb n).mpr (hpp.mem_iff.mp (hrow n hn))⟩⟩
     by_cases ht:ts=[]
     · subst ht
       cases row with
       | nil=>show 0≤8;omega
       | cons n r=>exact absurd (hrow n List.mem_cons_self) List.not_mem_nil
     · rw[hlen ht];omega
   rintro σ7 H7 ⟨lr,row,rfl,S7,hlr,h8,hrow⟩
   have hrow2:∀ n∈row,n∈bs.map (·.1):=fun n hn=>(hnb n).mp (hrow n hn)
   refine bj (fun σ' H'=>∃ dy:Int,1≤dy∧dy≤399∧σ'=[some (.ref a),some (.ref lc),some (.ref l),some (.ref lb),v4,v5,some (.ref tb),some (.ref x),some (.ref lr),some (.int dy),none]∧H'=H7) (fun R hR=>?_) ?_
   · walk_at "dm"
     exact⟨_,SqL.of (S7 _ _ hlc6),_,h16,_,rfl,by decide,hR _ _ ⟨_,by omega,by omega,rfl,rfl⟩⟩
   rintro σ8 H8 ⟨dy,hdy1,hdy2,rfl,rfl⟩
   refine bj (fun σ' H'=>∃ fo,σ'=[some (.ref a),some (.ref lc),some (.ref l),some (.ref lb),v4,v5,some (.ref tb),some (.ref x),some (.ref lr),some (.int dy),some (.ref fo)]∧af H8 H'∧((∃ a b p,a∈sb∧b∈sb∧ltN a b∧aR (lkB sb bb) row a=aR (lkB sb bb) row b∧H' fo=some (.tup [.non,.ref p])∧H' p=some (.tup [.str a,.str b]))∨∃ k r,k≤59∧lH sb (aR (lkB sb bb) row) k∧H' fo=some (.tup [.ref r,.non])∧H' r=some (.lst ((List.replicate k row).flatten.map V.str)))) (fun R hR=>?_) ?_
   · walk_at "dm"
     refine⟨_,.inl (SqL.of hlr),fun p hp=>?_⟩
     have Sp:=af.updN (o:=.lst (row.map V.str)) hp
     exact⟨x,p,sb,bb,row,rfl,af.book (S7.trans Sp) hbk6,Bb,ac,hrow,by omega,fun a b t p H'' ha hb hab e S' h1 h2=>hR _ _ ⟨t,rfl,Sp.trans S',.inl ⟨a,b,p,ha,hb,hab,e,h1,h2⟩⟩,fun k t r H'' hk hL S' _ h1 h2=>hR _ _ ⟨t,rfl,Sp.trans S',.inr ⟨k,r,hk,hL,h1,h2⟩⟩⟩
   rintro σ9 H9 ⟨fo,rfl,S9,hfo⟩
   have S69:=S7.trans S9
   have hG9:=Fz.tabG (af.fz S69) hG6
   have hlr9:=S9 _ _ hlr
   have hl9:=(S6.trans S69) _ _ hl5
   have hbk9:=af.book S69 hbk6
   refine bj (fun σ' H'=>σ'=[some (.ref a),some (.ref lc),some (.ref l),some (.ref lb),v4,v5,some (.ref tb),some (.ref x),some (.ref lr),some (.int dy),some (.ref fo)]∧H'=H9) (fun R hR=>?_) ?_
   · obtain⟨x,y,ht⟩:∃ x y,H9 fo=some (.tup [x,y]):=by
       rcases hfo with ⟨a,b,p,_,_,_,_,h1,_⟩ | ⟨k,r,_,_,h1,_⟩
       · exact⟨_,_,h1⟩
       · exact⟨_,_,h1⟩
     walk_at "dm"
     exact⟨fo,_,_,rfl,ht,true,rfl,bn (fun h=>by cases h) (fun _=>hR _ _ ⟨rfl,rfl⟩)⟩
   rintro σ10 H10 ⟨rfl,rfl⟩
   refine bj (fun σ' H'=>σ'=[some (.ref a),some (.ref lc),some (.ref l),some (.ref lb),v4,v5,some (.ref tb),some (.ref x),some (.ref lr),some (.int dy),some (.ref fo)]∧H'=H10∧∃ a b p,a∈sb∧b∈sb∧ltN a b∧aR (lkB sb bb) row a=aR (lkB sb bb) row b∧H10 fo=some (.tup [.non,.ref p])∧H10 p=some (.tup [.str a,.str b])) (fun R hR=>?_) ?_
   · rcases hfo with h | ⟨k,r,hk,hL,h1,h2⟩
     · obtain⟨a,b,p,_,_,_,_,h1,_⟩:=id h
       walk_at "dm"
       exact⟨_,SqT.of h1,_,rfl,bn (fun e=>absurd rfl e) (fun _=>hR _ _ ⟨rfl,rfl,h⟩)⟩
     · obtain⟨kvs,hRd,hkeys,_⟩:=id hG9
       have hkr:k*row.length≤59*8:=Nat.mul_le_mul hk h8
       have hkr2:k*row.length≤59*row.length:=Nat.mul_le_mul_right _ hk
       have htold:∀ n∈(List.replicate k row).flatten,n∈bb.map (·.1):=fun n hn=>by
         obtain⟨l,hl,hx⟩:=List.mem_flatten.mp hn
         rw[(List.mem_replicate.mp hl).2] at hx
         exact hrow n hx
       walk_at "dm"
       refine⟨_,SqT.of h1,_,rfl,bn (fun _=>⟨_,SqT.of h1,_,rfl,_,.inl (SqL.of hlr9),.inl ⟨by decide,by decide⟩,.inl ?_⟩) (fun e=>absurd (fun h=>by cases h) e)⟩
       refine⟨r,tb,_,bs.map (·.1),kvs,_,rfl,h2,hRd,hkeys,fun n hn=>(hnb n).mp (htold n hn),by rw[jf,List.length_map];omega,true,rfl,bn (fun h=>by cases h) (fun _=>?_)⟩
       refine⟨_,SqT.of h1,_,rfl,bn (fun h=>absurd rfl h) (fun _=>⟨ss,SqL.of hl9,by omega,fun lo so hlo hpm _=>?_⟩)⟩
       have So:=af.updN (o:=.lst (so.map V.str)) hlo
       have hsl:so.length=ss.length:=hpm.length_eq
       refine⟨_,SqT.of (So _ _ h1),_,rfl,x,lo,tb,lr,r,so,ss,bs.map (·.1),sb,bb,lkB ss bs,row,_,dy,rfl,af.book So hbk9,Bb,ac,fun z hz=>⟨(hzb z).mpr (hpm.mem_iff.mp hz),hpm.mem_iff.mp hz⟩,by omega,by omega,Fz.tabG (af.fz So) hG9,cR B,So _ _ hlr9,So _ _ h2,fun n hn=>⟨hrow n hn,hrow2 n hn⟩,htold,by rw[jf];omega,fun z hz=>(eR row z hrow (hpm.mem_iff.mp hz)).symm,fun z hz=>?_,hdy1,hdy2,q⟩
       rw[kt]
       have:=hL.1 z ((hzb z).mpr (hpm.mem_iff.mp hz))
       rw[eK (aR (lkB sb bb) row) 1 z k] at this
       exact this
   rintro σ11 H11 ⟨rfl,rfl,a1,a2,p,ha1,ha2,hlt,hee,h1,h2⟩
   refine bj (fun σ' H'=>σ'=[some (.ref a),some (.ref lc),some (.ref l),some (.ref lb),v4,v5,some (.ref tb),some (.ref x),some (.ref lr),some (.int dy),some (.ref fo)]∧af H11 H') (fun R hR=>?_) ?_
   · walk_at "dm"
     refine⟨_,SqT.of h1,_,rfl,p,_,_,rfl,h2,true,rfl,bn (fun h=>by cases h) (fun _=>⟨_,SqT.of h1,_,rfl,p,rfl,_,.inr (SqT.of h2),fun q2 hq2=>?_⟩)⟩
     have Sp:=af.updN (o:=.lst [V.str a1,V.str a2]) hq2
     exact .inr ⟨q2,l,[a1,a2],ss,2,rfl,ac,SqL.of (Sp _ _ hl9),fun x hx=>(by
       rcases List.mem_cons.mp hx with rfl | hx
       · exact(hzb _).mp ha1
       · rw[List.mem_singleton.mp hx];exact(hzb _).mp ha2),Int.le_refl 2,true,rfl,bn (fun h=>by cases h) (fun _=>hR _ _ ⟨rfl,Sp⟩)⟩
   rintro σ12 H12 ⟨rfl,S12⟩
   walk_at "dm"
   refine⟨_,SqT.of (S12 _ _ h1),_,rfl,p,rfl,_,SqT.of (S12 _ _ h2),_,rfl,_,SqT.of (S12 _ _ h1),_,rfl,p,rfl,_,SqT.of (S12 _ _ h2),_,rfl,_,rfl,_,rfl,bn (fun _=>?_) (fun h=>absurd hlt h)⟩
   exact⟨_,SqT.of (S12 _ _ h1),_,rfl,x,tb,lr,p,ss,bs.map (·.1),sb,bb,lkB ss bs,row,a1,a2,dy,rfl,af.book S12 hbk9,Bb,Fz.tabG (af.fz S12) hG9,cR B,S12 _ _ hlr9,S12 _ _ h2,ha1,ha2,(hzb _).mp ha1,fun n hn=>⟨hrow n hn,hrow2 n hn⟩,by omega,(eR row a1 hrow ((hzb _).mp ha1)).symm,hee,hdy1,by omega,q⟩
end

end DM
set_option Elab.async false
set_option linter.all false
set_option maxRecDepth 100000
set_option maxHeartbeats 8000000
namespace DM
open PySem L2
theorem all_mk {l:PySem.W.OpenLaw}{w:World}{K:PySem.W.Frag}{h:Heap}{mg:Str→Option Value}{fa:Addr}(X:K.In h)(G:h.Ns mainGlobals mg)(hfa:mg "law"=some (.ref fa))
   {CB:Addr}
   {fI:Addr}{odI anI:Option Addr}{slI:Array (Option Value)}{ocI kVI dcI pmI cdI ctI:Value}
   {fMS:Addr}{odMS anMS:Option Addr}{slMS:Array (Option Value)}{ocMS kVMS dcMS pmMS cdMS ctMS:Value}
   {fMB:Addr}{odMB anMB:Option Addr}{slMB:Array (Option Value)}{ocMB kVMB dcMB pmMB cdMB ctMB:Value}
   {fMT:Addr}{odMT anMT:Option Addr}{slMT:Array (Option Value)}{ocMT kVMT dcMT pmMT cdMT ctMT:Value}
   {fMC:Addr}{odMC anMC:Option Addr}{slMC:Array (Option Value)}{ocMC kVMC dcMC pmMC cdMC ctMC:Value}
   {fMH:Addr}{odMH anMH:Option Addr}{slMH:Array (Option Value)}{ocMH kVMH dcMH pmMH cdMH ctMH:Value}
   {fMO:Addr}{odMO anMO:Option Addr}{slMO:Array (Option Value)}{ocMO kVMO dcMO pmMO cdMO ctMO:Value}
   {CH:Addr}
   {fHI:Addr}{odHI anHI:Option Addr}{slHI:Array (Option Value)}{ocHI kVHI dcHI pmHI cdHI ctHI:Value}
   {fHR:Addr}{odHR anHR:Option Addr}{slHR:Array (Option Value)}{ocHR kVHR dcHR pmHR cdHR ctHR:Value}
   {fHQ:Addr}{odHQ anHQ:Option Addr}{slHQ:Array (Option Value)}{ocHQ kVHQ dcHQ pmHQ cdHQ ctHQ:Value}
   {fHB:Addr}{odHB anHB:Option Addr}{slHB:Array (Option Value)}{ocHB kVHB dcHB pmHB cdHB ctHB:Value}
   {fHS:Addr}{odHS anHS:Option Addr}{slHS:Array (Option Value)}{ocHS kVHS dcHS pmHS cdHS ctHS:Value}
   {fHT:Addr}{odHT anHT:Option Addr}{slHT:Array (Option Value)}{ocHT kVHT dcHT pmHT cdHT ctHT:Value}
   {fHN:Addr}{odHN anHN:Option Addr}{slHN:Array (Option Value)}{ocHN kVHN dcHN pmHN cdHN ctHN:Value}
   {fHC:Addr}{odHC anHC:Option Addr}{slHC:Array (Option Value)}{ocHC kVHC dcHC pmHC cdHC ctHC:Value}
   {fHD:Addr}{odHD anHD:Option Addr}{slHD:Array (Option Value)}{ocHD kVHD dcHD pmHD cdHD ctHD:Value}
   {fGd:Addr}{odGd anGd:Option Addr}{slGd:Array (Option Value)}{ocGd kVGd dcGd pmGd cdGd ctGd:Value}
   {fCn:Addr}{odCn anCn:Option Addr}{slCn:Array (Option Value)}{ocCn kVCn dcCn pmCn cdCn ctCn:Value}
   {fCs:Addr}{odCs anCs:Option Addr}{slCs:Array (Option Value)}{ocCs kVCs dcCs pmCs cdCs ctCs:Value}
   {fCo:Addr}{odCo anCo:Option Addr}{slCo:Array (Option Value)}{ocCo kVCo dcCo pmCo cdCo ctCo:Value}
   {fCb:Addr}{odCb anCb:Option Addr}{slCb:Array (Option Value)}{ocCb kVCb dcCb pmCb cdCb ctCb:Value}
   {fCD:Addr}{odCD anCD:Option Addr}{slCD:Array (Option Value)}{ocCD kVCD dcCD pmCD cdCD ctCD:Value}
   {fA:Addr}{odA anA:Option Addr}{slA:Array (Option Value)}{ocA kVA dcA pmA cdA ctA:Value}
   {fD:Addr}{odD anD:Option Addr}{slD:Array (Option Value)}{ocD kVD dcD pmD cdD ctD:Value}
   {fN:Addr}{odN anN:Option Addr}{slN:Array (Option Value)}{ocN kVN dcN pmN cdN ctN:Value}
   {fNs:Addr}{odNs anNs:Option Addr}{slNs:Array (Option Value)}{ocNs kVNs dcNs pmNs cdNs ctNs:Value}
   {fTu:Addr}{odTu anTu:Option Addr}{slTu:Array (Option Value)}{ocTu kVTu dcTu pmTu cdTu ctTu:Value}
   {fOu:Addr}{odOu anOu:Option Addr}{slOu:Array (Option Value)}{ocOu kVOu dcOu pmOu cdOu ctOu:Value}
   {fSh:Addr}{odSh anSh:Option Addr}{slSh:Array (Option Value)}{ocSh kVSh dcSh pmSh cdSh ctSh:Value}
   {fNd:Addr}{odNd anNd:Option Addr}{slNd:Array (Option Value)}{ocNd kVNd dcNd pmNd cdNd ctNd:Value}
   {fSz:Addr}{odSz anSz:Option Addr}{slSz:Array (Option Value)}{ocSz kVSz dcSz pmSz cdSz ctSz:Value}
   {fTa:Addr}{odTa anTa:Option Addr}{slTa:Array (Option Value)}{ocTa kVTa dcTa pmTa cdTa ctTa:Value}
   {fHd:Addr}{odHd anHd:Option Addr}{slHd:Array (Option Value)}{ocHd kVHd dcHd pmHd cdHd ctHd:Value}
   {fTI:Addr}{odTI anTI:Option Addr}{slTI:Array (Option Value)}{ocTI kVTI dcTI pmTI cdTI ctTI:Value}
   {fRw:Addr}{odRw anRw:Option Addr}{slRw:Array (Option Value)}{ocRw kVRw dcRw pmRw cdRw ctRw:Value}
   {fAE:Addr}{odAE anAE:Option Addr}{slAE:Array (Option Value)}{ocAE kVAE dcAE pmAE cdAE ctAE:Value}
   {fWR:Addr}{odWR anWR:Option Addr}{slWR:Array (Option Value)}{ocWR kVWR dcWR pmWR cdWR ctWR:Value}
   {fWB:Addr}{odWB anWB:Option Addr}{slWB:Array (Option Value)}{ocWB kVWB dcWB pmWB cdWB ctWB:Value}
   {fBO:Addr}{odBO anBO:Option Addr}{slBO:Array (Option Value)}{ocBO kVBO dcBO pmBO cdBO ctBO:Value}
   {fLO:Addr}{odLO anLO:Option Addr}{slLO:Array (Option Value)}{ocLO kVLO dcLO pmLO cdLO ctLO:Value}
   {fRB:Addr}{odRB anRB:Option Addr}{slRB:Array (Option Value)}{ocRB kVRB dcRB pmRB cdRB ctRB:Value}
   {fTx:Addr}{odTx anTx:Option Addr}{slTx:Array (Option Value)}{ocTx kVTx dcTx pmTx cdTx ctTx:Value}
   {fCk:Addr}{odCk anCk:Option Addr}{slCk:Array (Option Value)}{ocCk kVCk dcCk pmCk cdCk ctCk:Value}
   {fCL:Addr}{odCL anCL:Option Addr}{slCL:Array (Option Value)}{ocCL kVCL dcCL pmCL cdCL ctCL:Value}
   {fWa:Addr}{odWa anWa:Option Addr}{slWa:Array (Option Value)}{ocWa kVWa dcWa pmWa cdWa ctWa:Value}
   {fTo:Addr}{odTo anTo:Option Addr}{slTo:Array (Option Value)}{ocTo kVTo dcTo pmTo cdTo ctTo:Value}
   {fTh:Addr}{odTh anTh:Option Addr}{slTh:Array (Option Value)}{ocTh kVTh dcTh pmTh cdTh ctTh:Value}
   {fBT:Addr}{odBT anBT:Option Addr}{slBT:Array (Option Value)}{ocBT kVBT dcBT pmBT cdBT ctBT:Value}
   {fTG:Addr}{odTG anTG:Option Addr}{slTG:Array (Option Value)}{ocTG kVTG dcTG pmTG cdTG ctTG:Value}
   {fTK:Addr}{odTK anTK:Option Addr}{slTK:Array (Option Value)}{ocTK kVTK dcTK pmTK cdTK ctTK:Value}
   {fPr:Addr}{odPr anPr:Option Addr}{slPr:Array (Option Value)}{ocPr kVPr dcPr pmPr cdPr ctPr:Value}
   {fLo:Addr}{odLo anLo:Option Addr}{slLo:Array (Option Value)}{ocLo kVLo dcLo pmLo cdLo ctLo:Value}
   {fBA:Addr}{odBA anBA:Option Addr}{slBA:Array (Option Value)}{ocBA kVBA dcBA pmBA cdBA ctBA:Value}
   {fB1:Addr}{odB1 anB1:Option Addr}{slB1:Array (Option Value)}{ocB1 kVB1 dcB1 pmB1 cdB1 ctB1:Value}
   {fL:Addr}{odL anL:Option Addr}{slL:Array (Option Value)}{ocL kVL dcL pmL cdL ctL:Value}
   {xNoDay:Addr}
   {cdNoDay:ClassData}
   {xLate:Addr}
   {cdLate:ClassData}
   {xNoCloth:Addr}
   {cdNoCloth:ClassData}
   {xKnown:Addr}
   {cdKnown:ClassData}
   {xBadName:Addr}
   {cdBadName:ClassData}
   {xFull:Addr}
   {cdFull:ClassData}
   {xNoBath:Addr}
   {cdNoBath:ClassData}
   {xNoShade:Addr}
   {cdNoShade:ClassData}
   {tlett:Tok}
   {tlong:Tok}
   {tmostS:Tok}
   {tmostB:Tok}
   {tmostR:Tok}
   {tfday:Tok}
   {tlday:Tok}
   {tmostC:Tok}
   {tmostD:Tok}
   (aCB:PySem.W.nsIn K mainGlobals "Book"=some (some (.ref CB)))
   (aI:PySem.W.findIn K (.ref CB) "__init__"=some (some (.ref fI)))
   (iI:PySem.W.isFn K (.ref fI)=true)
   (lI:K.lookup fI=some ⟨ocI,odI,.func (PySem.W.fnOf "__init__" "Book.__init__" (aq jp) (am jp) (ae jp) .none kVI dcI pmI anI cdI ctI),slI⟩)
   (cI:PySem.W.codeIn K cdI "Book.__init__"=true)
   (kI:PySem.W.keepIn K (.ref fI)=true)
   (aMS:PySem.W.findIn K (.ref CB) "shades"=some (some (.ref fMS)))
   (iMS:PySem.W.isFn K (.ref fMS)=true)
   (lMS:K.lookup fMS=some ⟨ocMS,odMS,.func (PySem.W.fnOf "shades" "Book.shades" (aq eB) (am eB) (ae eB) .none kVMS dcMS pmMS anMS cdMS ctMS),slMS⟩)
   (cMS:PySem.W.codeIn K cdMS "Book.shades"=true)
   (kMS:PySem.W.keepIn K (.ref fMS)=true)
   (aMB:PySem.W.findIn K (.ref CB) "baths"=some (some (.ref fMB)))
   (iMB:PySem.W.isFn K (.ref fMB)=true)
   (lMB:K.lookup fMB=some ⟨ocMB,odMB,.func (PySem.W.fnOf "baths" "Book.baths" (aq fr) (am fr) (ae fr) .none kVMB dcMB pmMB anMB cdMB ctMB),slMB⟩)
   (cMB:PySem.W.codeIn K cdMB "Book.baths"=true)
   (kMB:PySem.W.keepIn K (.ref fMB)=true)
   (aMT:PySem.W.findIn K (.ref CB) "table"=some (some (.ref fMT)))
   (iMT:PySem.W.isFn K (.ref fMT)=true)
   (lMT:K.lookup fMT=some ⟨ocMT,odMT,.func (PySem.W.fnOf "table" "Book.table" (aq eE) (am eE) (ae eE) .none kVMT dcMT pmMT anMT cdMT ctMT),slMT⟩)
   (cMT:PySem.W.codeIn K cdMT "Book.table"=true)
   (kMT:PySem.W.keepIn K (.ref fMT)=true)
   (aMC:PySem.W.findIn K (.ref CB) "check_bath"=some (some (.ref fMC)))
   (iMC:PySem.W.isFn K (.ref fMC)=true)
   (lMC:K.lookup fMC=some ⟨ocMC,odMC,.func (PySem.W.fnOf "check_bath" "Book.check_bath" (aq dC) (am dC) (ae dC) .none kVMC dcMC pmMC anMC cdMC ctMC),slMC⟩)
   (cMC:PySem.W.codeIn K cdMC "Book.check_bath"=true)
   (kMC:PySem.W.keepIn K (.ref fMC)=true)
   (aMH:PySem.W.findIn K (.ref CB) "check_shade"=some (some (.ref fMH)))
   (iMH:PySem.W.isFn K (.ref fMH)=true)
   (lMH:K.lookup fMH=some ⟨ocMH,odMH,.func (PySem.W.fnOf "check_shade" "Book.check_shade" (aq dU) (am dU) (ae dU) .none kVMH dcMH pmMH anMH cdMH ctMH),slMH⟩)
   (cMH:PySem.W.codeIn K cdMH "Book.check_shade"=true)
   (kMH:PySem.W.keepIn K (.ref fMH)=true)
   (aMO:PySem.W.findIn K (.ref CB) "out"=some (some (.ref fMO)))
   (iMO:PySem.W.isFn K (.ref fMO)=true)
   (lMO:K.lookup fMO=some ⟨ocMO,odMO,.func (PySem.W.fnOf "out" "Book.out" (aq jb) (am jb) (ae jb) .none kVMO dcMO pmMO anMO cdMO ctMO),slMO⟩)
   (cMO:PySem.W.codeIn K cdMO "Book.out"=true)
   (kMO:PySem.W.keepIn K (.ref fMO)=true)
   (pgB:PySem.W.plainGet K CB Str.empty=true)
   (hdB:PySem.W.hasDictIn K CB=true)
   (poB:PySem.W.plainOver K CB=true)
   (saB:PySem.W.findIn K (.ref CB) "__setattr__"=some (some (.builtin "object.__setattr__")))
   (mkB:PySem.W.makesIn K CB=true)
   (kcB:PySem.W.keepIn K (.ref CB)=true)
   (naB_order:PySem.W.findIn K (.ref CB) "order"=some none)
   (naB_tables:PySem.W.findIn K (.ref CB) "tables"=some none)
   (aCH:PySem.W.nsIn K mainGlobals "House"=some (some (.ref CH)))
   (aHI:PySem.W.findIn K (.ref CH) "__init__"=some (some (.ref fHI)))
   (iHI:PySem.W.isFn K (.ref fHI)=true)
   (lHI:K.lookup fHI=some ⟨ocHI,odHI,.func (PySem.W.fnOf "__init__" "House.__init__" (aq hJ) (am hJ) (ae hJ) .none kVHI dcHI pmHI anHI cdHI ctHI),slHI⟩)
   (cHI:PySem.W.codeIn K cdHI "House.__init__"=true)
   (kHI:PySem.W.keepIn K (.ref fHI)=true)
   (aHR:PySem.W.findIn K (.ref CH) "bring"=some (some (.ref fHR)))
   (iHR:PySem.W.isFn K (.ref fHR)=true)
   (lHR:K.lookup fHR=some ⟨ocHR,odHR,.func (PySem.W.fnOf "bring" "House.bring" (aq eT) (am eT) (ae eT) .none kVHR dcHR pmHR anHR cdHR ctHR),slHR⟩)
   (cHR:PySem.W.codeIn K cdHR "House.bring"=true)
   (kHR:PySem.W.keepIn K (.ref fHR)=true)
   (aHQ:PySem.W.findIn K (.ref CH) "dip"=some (some (.ref fHQ)))
   (iHQ:PySem.W.isFn K (.ref fHQ)=true)
   (lHQ:K.lookup fHQ=some ⟨ocHQ,odHQ,.func (PySem.W.fnOf "dip" "House.dip" (aq jT) (am jT) (ae jT) .none kVHQ dcHQ pmHQ anHQ cdHQ ctHQ),slHQ⟩)
   (cHQ:PySem.W.codeIn K cdHQ "House.dip"=true)
   (kHQ:PySem.W.keepIn K (.ref fHQ)=true)
   (aHB:PySem.W.findIn K (.ref CH) "book"=some (some (.ref fHB)))
   (iHB:PySem.W.isFn K (.ref fHB)=true)
   (lHB:K.lookup fHB=some ⟨ocHB,odHB,.func (PySem.W.fnOf "book" "House.book" (aq gh) (am gh) (ae gh) .none kVHB dcHB pmHB anHB cdHB ctHB),slHB⟩)
   (cHB:PySem.W.codeIn K cdHB "House.book"=true)
   (kHB:PySem.W.keepIn K (.ref fHB)=true)
   (aHS:PySem.W.findIn K (.ref CH) "shade"=some (some (.ref fHS)))
   (iHS:PySem.W.isFn K (.ref fHS)=true)
   (lHS:K.lookup fHS=some ⟨ocHS,odHS,.func (PySem.W.fnOf "shade" "House.shade" (aq eW) (am eW) (ae eW) .none kVHS dcHS pmHS anHS cdHS ctHS),slHS⟩)
   (cHS:PySem.W.codeIn K cdHS "House.shade"=true)
   (kHS:PySem.W.keepIn K (.ref fHS)=true)
   (aHT:PySem.W.findIn K (.ref CH) "trail"=some (some (.ref fHT)))
   (iHT:PySem.W.isFn K (.ref fHT)=true)
   (lHT:K.lookup fHT=some ⟨ocHT,odHT,.func (PySem.W.fnOf "trail" "House.trail" (aq fi) (am fi) (ae fi) .none kVHT dcHT pmHT anHT cdHT ctHT),slHT⟩)
   (cHT:PySem.W.codeIn K cdHT "House.trail"=true)
   (kHT:PySem.W.keepIn K (.ref fHT)=true)
   (aHN:PySem.W.findIn K (.ref CH) "newest_book"=some (some (.ref fHN)))
   (iHN:PySem.W.isFn K (.ref fHN)=true)
   (lHN:K.lookup fHN=some ⟨ocHN,odHN,.func (PySem.W.fnOf "newest_book" "House.newest_book" (aq eu) (am eu) (ae eu) .none kVHN dcHN pmHN anHN cdHN ctHN),slHN⟩)
   (cHN:PySem.W.codeIn K cdHN "House.newest_book"=true)
   (kHN:PySem.W.keepIn K (.ref fHN)=true)
   (aHC:PySem.W.findIn K (.ref CH) "check_cloth"=some (some (.ref fHC)))
   (iHC:PySem.W.isFn K (.ref fHC)=true)
   (lHC:K.lookup fHC=some ⟨ocHC,odHC,.func (PySem.W.fnOf "check_cloth" "House.check_cloth" (aq dR) (am dR) (ae dR) .none kVHC dcHC pmHC anHC cdHC ctHC),slHC⟩)
   (cHC:PySem.W.codeIn K cdHC "House.check_cloth"=true)
   (kHC:PySem.W.keepIn K (.ref fHC)=true)
   (aHD:PySem.W.findIn K (.ref CH) "check_day_to_do"=some (some (.ref fHD)))
   (iHD:PySem.W.isFn K (.ref fHD)=true)
   (lHD:K.lookup fHD=some ⟨ocHD,odHD,.func (PySem.W.fnOf "check_day_to_do" "House.check_day_to_do" (aq gP) (am gP) (ae gP) .none kVHD dcHD pmHD anHD cdHD ctHD),slHD⟩)
   (cHD:PySem.W.codeIn K cdHD "House.check_day_to_do"=true)
   (kHD:PySem.W.keepIn K (.ref fHD)=true)
   (pgH:PySem.W.plainGet K CH Str.empty=true)
   (hdH:PySem.W.hasDictIn K CH=true)
   (poH:PySem.W.plainOver K CH=true)
   (saH:PySem.W.findIn K (.ref CH) "__setattr__"=some (some (.builtin "object.__setattr__")))
   (mkH:PySem.W.makesIn K CH=true)
   (kcH:PySem.W.keepIn K (.ref CH)=true)
   (naH_first_shades:PySem.W.findIn K (.ref CH) "first_shades"=some none)
   (naH_day_now:PySem.W.findIn K (.ref CH) "day_now"=some none)
   (naH_standing:PySem.W.findIn K (.ref CH) "standing"=some none)
   (naH_books_from:PySem.W.findIn K (.ref CH) "books_from"=some none)
   (aGd:PySem.W.nsIn K mainGlobals "good_name"=some (some (.ref fGd)))
   (lGd:K.lookup fGd=some ⟨ocGd,odGd,.func (PySem.W.fnOf "good_name" "good_name" (aq kX) (am kX) (ae kX) .none kVGd dcGd pmGd anGd cdGd ctGd),slGd⟩)
   (cGd:PySem.W.codeIn K cdGd "good_name"=true)
   (kGd:PySem.W.keepIn K (.ref fGd)=true)
   (aCn:PySem.W.nsIn K mainGlobals "check_names"=some (some (.ref fCn)))
   (lCn:K.lookup fCn=some ⟨ocCn,odCn,.func (PySem.W.fnOf "check_names" "check_names" (aq fj) (am fj) (ae fj) .none kVCn dcCn pmCn anCn cdCn ctCn),slCn⟩)
   (cCn:PySem.W.codeIn K cdCn "check_names"=true)
   (kCn:PySem.W.keepIn K (.ref fCn)=true)
   (aCs:PySem.W.nsIn K mainGlobals "check_shades"=some (some (.ref fCs)))
   (lCs:K.lookup fCs=some ⟨ocCs,odCs,.func (PySem.W.fnOf "check_shades" "check_shades" (aq er) (am er) (ae er) .none kVCs dcCs pmCs anCs cdCs ctCs),slCs⟩)
   (cCs:PySem.W.codeIn K cdCs "check_shades"=true)
   (kCs:PySem.W.keepIn K (.ref fCs)=true)
   (aCo:PySem.W.nsIn K mainGlobals "check_outs"=some (some (.ref fCo)))
   (lCo:K.lookup fCo=some ⟨ocCo,odCo,.func (PySem.W.fnOf "check_outs" "check_outs" (aq hU) (am hU) (ae hU) .none kVCo dcCo pmCo anCo cdCo ctCo),slCo⟩)
   (cCo:PySem.W.codeIn K cdCo "check_outs"=true)
   (kCo:PySem.W.keepIn K (.ref fCo)=true)
   (aCb:PySem.W.nsIn K mainGlobals "check_baths"=some (some (.ref fCb)))
   (lCb:K.lookup fCb=some ⟨ocCb,odCb,.func (PySem.W.fnOf "check_baths" "check_baths" (aq fK) (am fK) (ae fK) .none kVCb dcCb pmCb anCb cdCb ctCb),slCb⟩)
   (cCb:PySem.W.codeIn K cdCb "check_baths"=true)
   (kCb:PySem.W.keepIn K (.ref fCb)=true)
   (aCD:PySem.W.nsIn K mainGlobals "check_day"=some (some (.ref fCD)))
   (lCD:K.lookup fCD=some ⟨ocCD,odCD,.func (PySem.W.fnOf "check_day" "check_day" (aq jV) (am jV) (ae jV) .none kVCD dcCD pmCD anCD cdCD ctCD),slCD⟩)
   (cCD:PySem.W.codeIn K cdCD "check_day"=true)
   (kCD:PySem.W.keepIn K (.ref fCD)=true)
   (aA:PySem.W.nsIn K mainGlobals "_law_at"=some (some (.ref fA)))
   (lA:K.lookup fA=some ⟨ocA,odA,.func (PySem.W.fnOf "_law_at" "_law_at" (aq sAt) (am sAt) (ae sAt) .none kVA dcA pmA anA cdA ctA),slA⟩)
   (cA:PySem.W.codeIn K cdA "_law_at"=true)
   (kA:PySem.W.keepIn K (.ref fA)=true)
   (aD:PySem.W.nsIn K mainGlobals "_law_draws"=some (some (.ref fD)))
   (lD:K.lookup fD=some ⟨ocD,odD,.func (PySem.W.fnOf "_law_draws" "_law_draws" (aq ic) (am ic) (ae ic) .none kVD dcD pmD anD cdD ctD),slD⟩)
   (cD:PySem.W.codeIn K cdD "_law_draws"=true)
   (kD:PySem.W.keepIn K (.ref fD)=true)
   (aN:PySem.W.nsIn K mainGlobals "_law_name"=some (some (.ref fN)))
   (lN:K.lookup fN=some ⟨ocN,odN,.func (PySem.W.fnOf "_law_name" "_law_name" (aq kZ) (am kZ) (ae kZ) .none kVN dcN pmN anN cdN ctN),slN⟩)
   (cN:PySem.W.codeIn K cdN "_law_name"=true)
   (kN:PySem.W.keepIn K (.ref fN)=true)
   (aNs:PySem.W.nsIn K mainGlobals "_law_names"=some (some (.ref fNs)))
   (lNs:K.lookup fNs=some ⟨ocNs,odNs,.func (PySem.W.fnOf "_law_names" "_law_names" (aq gS) (am gS) (ae gS) .none kVNs dcNs pmNs anNs cdNs ctNs),slNs⟩)
   (cNs:PySem.W.codeIn K cdNs "_law_names"=true)
   (kNs:PySem.W.keepIn K (.ref fNs)=true)
   (aTu:PySem.W.nsIn K mainGlobals "_law_turned"=some (some (.ref fTu)))
   (lTu:K.lookup fTu=some ⟨ocTu,odTu,.func (PySem.W.fnOf "_law_turned" "_law_turned" (aq fJ) (am fJ) (ae fJ) .none kVTu dcTu pmTu anTu cdTu ctTu),slTu⟩)
   (cTu:PySem.W.codeIn K cdTu "_law_turned"=true)
   (kTu:PySem.W.keepIn K (.ref fTu)=true)
   (aOu:PySem.W.nsIn K mainGlobals "_law_outs"=some (some (.ref fOu)))
   (lOu:K.lookup fOu=some ⟨ocOu,odOu,.func (PySem.W.fnOf "_law_outs" "_law_outs" (aq jY) (am jY) (ae jY) .none kVOu dcOu pmOu anOu cdOu ctOu),slOu⟩)
   (cOu:PySem.W.codeIn K cdOu "_law_outs"=true)
   (kOu:PySem.W.keepIn K (.ref fOu)=true)
   (aSh:PySem.W.nsIn K mainGlobals "_law_shape"=some (some (.ref fSh)))
   (lSh:K.lookup fSh=some ⟨ocSh,odSh,.func (PySem.W.fnOf "_law_shape" "_law_shape" (aq g6) (am g6) (ae g6) .none kVSh dcSh pmSh anSh cdSh ctSh),slSh⟩)
   (cSh:PySem.W.codeIn K cdSh "_law_shape"=true)
   (kSh:PySem.W.keepIn K (.ref fSh)=true)
   (aNd:PySem.W.nsIn K mainGlobals "_law_named"=some (some (.ref fNd)))
   (lNd:K.lookup fNd=some ⟨ocNd,odNd,.func (PySem.W.fnOf "_law_named" "_law_named" (aq gO) (am gO) (ae gO) .none kVNd dcNd pmNd anNd cdNd ctNd),slNd⟩)
   (cNd:PySem.W.codeIn K cdNd "_law_named"=true)
   (kNd:PySem.W.keepIn K (.ref fNd)=true)
   (aSz:PySem.W.nsIn K mainGlobals "_law_sized"=some (some (.ref fSz)))
   (lSz:K.lookup fSz=some ⟨ocSz,odSz,.func (PySem.W.fnOf "_law_sized" "_law_sized" (aq gN) (am gN) (ae gN) .none kVSz dcSz pmSz anSz cdSz ctSz),slSz⟩)
   (cSz:PySem.W.codeIn K cdSz "_law_sized"=true)
   (kSz:PySem.W.keepIn K (.ref fSz)=true)
   (aTa:PySem.W.nsIn K mainGlobals "_law_tables"=some (some (.ref fTa)))
   (lTa:K.lookup fTa=some ⟨ocTa,odTa,.func (PySem.W.fnOf "_law_tables" "_law_tables" (aq eG) (am eG) (ae eG) .none kVTa dcTa pmTa anTa cdTa ctTa),slTa⟩)
   (cTa:PySem.W.codeIn K cdTa "_law_tables"=true)
   (kTa:PySem.W.keepIn K (.ref fTa)=true)
   (aHd:PySem.W.nsIn K mainGlobals "_law_handed"=some (some (.ref fHd)))
   (lHd:K.lookup fHd=some ⟨ocHd,odHd,.func (PySem.W.fnOf "_law_handed" "_law_handed" (aq fE) (am fE) (ae fE) .none kVHd dcHd pmHd anHd cdHd ctHd),slHd⟩)
   (cHd:PySem.W.codeIn K cdHd "_law_handed"=true)
   (kHd:PySem.W.keepIn K (.ref fHd)=true)
   (aTI:PySem.W.nsIn K mainGlobals "_law_text_is"=some (some (.ref fTI)))
   (lTI:K.lookup fTI=some ⟨ocTI,odTI,.func (PySem.W.fnOf "_law_text_is" "_law_text_is" (aq fM) (am fM) (ae fM) .none kVTI dcTI pmTI anTI cdTI ctTI),slTI⟩)
   (cTI:PySem.W.codeIn K cdTI "_law_text_is"=true)
   (kTI:PySem.W.keepIn K (.ref fTI)=true)
   (aRw:PySem.W.nsIn K mainGlobals "_law_row"=some (some (.ref fRw)))
   (lRw:K.lookup fRw=some ⟨ocRw,odRw,.func (PySem.W.fnOf "_law_row" "_law_row" (aq pT) (am pT) (ae pT) .none kVRw dcRw pmRw anRw cdRw ctRw),slRw⟩)
   (cRw:PySem.W.codeIn K cdRw "_law_row"=true)
   (kRw:PySem.W.keepIn K (.ref fRw)=true)
   (aAE:PySem.W.nsIn K mainGlobals "_law_at_end"=some (some (.ref fAE)))
   (lAE:K.lookup fAE=some ⟨ocAE,odAE,.func (PySem.W.fnOf "_law_at_end" "_law_at_end" (aq gf) (am gf) (ae gf) .none kVAE dcAE pmAE anAE cdAE ctAE),slAE⟩)
   (cAE:PySem.W.codeIn K cdAE "_law_at_end"=true)
   (kAE:PySem.W.keepIn K (.ref fAE)=true)
   (aWR:PySem.W.nsIn K mainGlobals "write_row"=some (some (.ref fWR)))
   (lWR:K.lookup fWR=some ⟨ocWR,odWR,.func (PySem.W.fnOf "write_row" "write_row" (aq kr) (am kr) (ae kr) .none kVWR dcWR pmWR anWR cdWR ctWR),slWR⟩)
   (cWR:PySem.W.codeIn K cdWR "write_row"=true)
   (kWR:PySem.W.keepIn K (.ref fWR)=true)
   (aWB:PySem.W.nsIn K mainGlobals "write_book"=some (some (.ref fWB)))
   (lWB:K.lookup fWB=some ⟨ocWB,odWB,.func (PySem.W.fnOf "write_book" "write_book" (aq g0) (am g0) (ae g0) .none kVWB dcWB pmWB anWB cdWB ctWB),slWB⟩)
   (cWB:PySem.W.codeIn K cdWB "write_book"=true)
   (kWB:PySem.W.keepIn K (.ref fWB)=true)
   (aBO:PySem.W.nsIn K mainGlobals "bath_of"=some (some (.ref fBO)))
   (lBO:K.lookup fBO=some ⟨ocBO,odBO,.func (PySem.W.fnOf "bath_of" "bath_of" (aq fw) (am fw) (ae fw) .none kVBO dcBO pmBO anBO cdBO ctBO),slBO⟩)
   (cBO:PySem.W.codeIn K cdBO "bath_of"=true)
   (kBO:PySem.W.keepIn K (.ref fBO)=true)
   (aLO:PySem.W.nsIn K mainGlobals "loosely_read"=some (some (.ref fLO)))
   (lLO:K.lookup fLO=some ⟨ocLO,odLO,.func (PySem.W.fnOf "loosely_read" "loosely_read" (aq gW) (am gW) (ae gW) .none kVLO dcLO pmLO anLO cdLO ctLO),slLO⟩)
   (cLO:PySem.W.codeIn K cdLO "loosely_read"=true)
   (kLO:PySem.W.keepIn K (.ref fLO)=true)
   (aRB:PySem.W.nsIn K mainGlobals "read_book"=some (some (.ref fRB)))
   (lRB:K.lookup fRB=some ⟨ocRB,odRB,.func (PySem.W.fnOf "read_book" "read_book" (aq kQ) (am kQ) (ae kQ) .none kVRB dcRB pmRB anRB cdRB ctRB),slRB⟩)
   (cRB:PySem.W.codeIn K cdRB "read_book"=true)
   (kRB:PySem.W.keepIn K (.ref fRB)=true)
   (aTx:PySem.W.nsIn K mainGlobals "_law_text"=some (some (.ref fTx)))
   (lTx:K.lookup fTx=some ⟨ocTx,odTx,.func (PySem.W.fnOf "_law_text" "_law_text" (aq jh) (am jh) (ae jh) .none kVTx dcTx pmTx anTx cdTx ctTx),slTx⟩)
   (cTx:PySem.W.codeIn K cdTx "_law_text"=true)
   (kTx:PySem.W.keepIn K (.ref fTx)=true)
   (aCk:PySem.W.nsIn K mainGlobals "check_baths_of"=some (some (.ref fCk)))
   (lCk:K.lookup fCk=some ⟨ocCk,odCk,.func (PySem.W.fnOf "check_baths_of" "check_baths_of" (aq j8) (am j8) (ae j8) .none kVCk dcCk pmCk anCk cdCk ctCk),slCk⟩)
   (cCk:PySem.W.codeIn K cdCk "check_baths_of"=true)
   (kCk:PySem.W.keepIn K (.ref fCk)=true)
   (aCL:PySem.W.nsIn K mainGlobals "check_length"=some (some (.ref fCL)))
   (lCL:K.lookup fCL=some ⟨ocCL,odCL,.func (PySem.W.fnOf "check_length" "check_length" (aq kU) (am kU) (ae kU) .none kVCL dcCL pmCL anCL cdCL ctCL),slCL⟩)
   (cCL:PySem.W.codeIn K cdCL "check_length"=true)
   (kCL:PySem.W.keepIn K (.ref fCL)=true)
   (aWa:PySem.W.nsIn K mainGlobals "walk"=some (some (.ref fWa)))
   (lWa:K.lookup fWa=some ⟨ocWa,odWa,.func (PySem.W.fnOf "walk" "walk" (aq jQ) (am jQ) (ae jQ) .none kVWa dcWa pmWa anWa cdWa ctWa),slWa⟩)
   (cWa:PySem.W.codeIn K cdWa "walk"=true)
   (kWa:PySem.W.keepIn K (.ref fWa)=true)
   (aTo:PySem.W.nsIn K mainGlobals "table_of"=some (some (.ref fTo)))
   (lTo:K.lookup fTo=some ⟨ocTo,odTo,.func (PySem.W.fnOf "table_of" "table_of" (aq gU) (am gU) (ae gU) .none kVTo dcTo pmTo anTo cdTo ctTo),slTo⟩)
   (cTo:PySem.W.codeIn K cdTo "table_of"=true)
   (kTo:PySem.W.keepIn K (.ref fTo)=true)
   (aTh:PySem.W.nsIn K mainGlobals "through"=some (some (.ref fTh)))
   (lTh:K.lookup fTh=some ⟨ocTh,odTh,.func (PySem.W.fnOf "through" "through" (aq eA) (am eA) (ae eA) .none kVTh dcTh pmTh anTh cdTh ctTh),slTh⟩)
   (cTh:PySem.W.codeIn K cdTh "through"=true)
   (kTh:PySem.W.keepIn K (.ref fTh)=true)
   (aBT:PySem.W.nsIn K mainGlobals "brought_together"=some (some (.ref fBT)))
   (lBT:K.lookup fBT=some ⟨ocBT,odBT,.func (PySem.W.fnOf "brought_together" "brought_together" (aq eS) (am eS) (ae eS) .none kVBT dcBT pmBT anBT cdBT ctBT),slBT⟩)
   (cBT:PySem.W.codeIn K cdBT "brought_together"=true)
   (kBT:PySem.W.keepIn K (.ref fBT)=true)
   (aTG:PySem.W.nsIn K mainGlobals "times_to_go"=some (some (.ref fTG)))
   (lTG:K.lookup fTG=some ⟨ocTG,odTG,.func (PySem.W.fnOf "times_to_go" "times_to_go" (aq dM) (am dM) (ae dM) .none kVTG dcTG pmTG anTG cdTG ctTG),slTG⟩)
   (cTG:PySem.W.codeIn K cdTG "times_to_go"=true)
   (kTG:PySem.W.keepIn K (.ref fTG)=true)
   (aTK:PySem.W.nsIn K mainGlobals "taken_out"=some (some (.ref fTK)))
   (lTK:K.lookup fTK=some ⟨ocTK,odTK,.func (PySem.W.fnOf "taken_out" "taken_out" (aq g7) (am g7) (ae g7) .none kVTK dcTK pmTK anTK cdTK ctTK),slTK⟩)
   (cTK:PySem.W.codeIn K cdTK "taken_out"=true)
   (kTK:PySem.W.keepIn K (.ref fTK)=true)
   (aPr:PySem.W.nsIn K mainGlobals "_law_pair"=some (some (.ref fPr)))
   (lPr:K.lookup fPr=some ⟨ocPr,odPr,.func (PySem.W.fnOf "_law_pair" "_law_pair" (aq jN) (am jN) (ae jN) .none kVPr dcPr pmPr anPr cdPr ctPr),slPr⟩)
   (cPr:PySem.W.codeIn K cdPr "_law_pair"=true)
   (kPr:PySem.W.keepIn K (.ref fPr)=true)
   (aLo:PySem.W.nsIn K mainGlobals "_law_list_of_names"=some (some (.ref fLo)))
   (lLo:K.lookup fLo=some ⟨ocLo,odLo,.func (PySem.W.fnOf "_law_list_of_names" "_law_list_of_names" (aq dz) (am dz) (ae dz) .none kVLo dcLo pmLo anLo cdLo ctLo),slLo⟩)
   (cLo:PySem.W.codeIn K cdLo "_law_list_of_names"=true)
   (kLo:PySem.W.keepIn K (.ref fLo)=true)
   (aBA:PySem.W.nsIn K mainGlobals "_law_back_again"=some (some (.ref fBA)))
   (lBA:K.lookup fBA=some ⟨ocBA,odBA,.func (PySem.W.fnOf "_law_back_again" "_law_back_again" (aq de) (am de) (ae de) .none kVBA dcBA pmBA anBA cdBA ctBA),slBA⟩)
   (cBA:PySem.W.codeIn K cdBA "_law_back_again"=true)
   (kBA:PySem.W.keepIn K (.ref fBA)=true)
   (aB1:PySem.W.nsIn K mainGlobals "_law_brought_to_one"=some (some (.ref fB1)))
   (lB1:K.lookup fB1=some ⟨ocB1,odB1,.func (PySem.W.fnOf "_law_brought_to_one" "_law_brought_to_one" (aq eC) (am eC) (ae eC) .none kVB1 dcB1 pmB1 anB1 cdB1 ctB1),slB1⟩)
   (cB1:PySem.W.codeIn K cdB1 "_law_brought_to_one"=true)
   (kB1:PySem.W.keepIn K (.ref fB1)=true)
   (aL:PySem.W.nsIn K mainGlobals "law"=some (some (.ref fL)))
   (lL:K.lookup fL=some ⟨ocL,odL,.func (PySem.W.fnOf "law" "law" (aq k9) (am k9) (ae k9) .none kVL dcL pmL anL cdL ctL),slL⟩)
   (cL:PySem.W.codeIn K cdL "law"=true)
   (kL:PySem.W.keepIn K (.ref fL)=true)
   (aNoDay:PySem.W.nsIn K mainGlobals "NoDay"=some (some (.ref xNoDay)))
   (exND:PySem.W.excIn K xNoDay [.type "ValueError",.type "Exception",.type "BaseException",.type "object"] "ValueError.__new__"=true)
   (elND:PySem.W.clsIn K xNoDay=some cdNoDay)
   (egND:PySem.W.findIn K (.ref xNoDay) "__getattribute__"=some (some (.builtin "BaseException.__getattribute__")))
   (etND:PySem.W.findIn K (.ref xNoDay) "__getattr__"=some none)
   (eaND:PySem.W.findIn K (.ref xNoDay) "__class__"=some (some (.builtin "object.__class__")))
   (emND:PySem.W.mroIn K xNoDay (.type "object")=some true)
   (ebND:PySem.W.mroIn K xNoDay (.type "BaseException")=some true)
   (aLate:PySem.W.nsIn K mainGlobals "Late"=some (some (.ref xLate)))
   (exLa:PySem.W.excIn K xLate [.type "ValueError",.type "Exception",.type "BaseException",.type "object"] "ValueError.__new__"=true)
   (elLa:PySem.W.clsIn K xLate=some cdLate)
   (egLa:PySem.W.findIn K (.ref xLate) "__getattribute__"=some (some (.builtin "BaseException.__getattribute__")))
   (etLa:PySem.W.findIn K (.ref xLate) "__getattr__"=some none)
   (eaLa:PySem.W.findIn K (.ref xLate) "__class__"=some (some (.builtin "object.__class__")))
   (emLa:PySem.W.mroIn K xLate (.type "object")=some true)
   (ebLa:PySem.W.mroIn K xLate (.type "BaseException")=some true)
   (aNoCloth:PySem.W.nsIn K mainGlobals "NoCloth"=some (some (.ref xNoCloth)))
   (exNC:PySem.W.excIn K xNoCloth [.type "ValueError",.type "Exception",.type "BaseException",.type "object"] "ValueError.__new__"=true)
   (elNC:PySem.W.clsIn K xNoCloth=some cdNoCloth)
   (egNC:PySem.W.findIn K (.ref xNoCloth) "__getattribute__"=some (some (.builtin "BaseException.__getattribute__")))
   (etNC:PySem.W.findIn K (.ref xNoCloth) "__getattr__"=some none)
   (eaNC:PySem.W.findIn K (.ref xNoCloth) "__class__"=some (some (.builtin "object.__class__")))
   (emNC:PySem.W.mroIn K xNoCloth (.type "object")=some true)
   (ebNC:PySem.W.mroIn K xNoCloth (.type "BaseException")=some true)
   (aKnown:PySem.W.nsIn K mainGlobals "Known"=some (some (.ref xKnown)))
   (exKn:PySem.W.excIn K xKnown [.type "ValueError",.type "Exception",.type "BaseException",.type "object"] "ValueError.__new__"=true)
   (elKn:PySem.W.clsIn K xKnown=some cdKnown)
   (egKn:PySem.W.findIn K (.ref xKnown) "__getattribute__"=some (some (.builtin "BaseException.__getattribute__")))
   (etKn:PySem.W.findIn K (.ref xKnown) "__getattr__"=some none)
   (eaKn:PySem.W.findIn K (.ref xKnown) "__class__"=some (some (.builtin "object.__class__")))
   (emKn:PySem.W.mroIn K xKnown (.type "object")=some true)
   (ebKn:PySem.W.mroIn K xKnown (.type "BaseException")=some true)
   (aBadName:PySem.W.nsIn K mainGlobals "BadName"=some (some (.ref xBadName)))
   (exBN:PySem.W.excIn K xBadName [.type "ValueError",.type "Exception",.type "BaseException",.type "object"] "ValueError.__new__"=true)
   (elBN:PySem.W.clsIn K xBadName=some cdBadName)
   (egBN:PySem.W.findIn K (.ref xBadName) "__getattribute__"=some (some (.builtin "BaseException.__getattribute__")))
   (etBN:PySem.W.findIn K (.ref xBadName) "__getattr__"=some none)
   (eaBN:PySem.W.findIn K (.ref xBadName) "__class__"=some (some (.builtin "object.__class__")))
   (emBN:PySem.W.mroIn K xBadName (.type "object")=some true)
   (ebBN:PySem.W.mroIn K xBadName (.type "BaseException")=some true)
   (aFull:PySem.W.nsIn K mainGlobals "Full"=some (some (.ref xFull)))
   (exFu:PySem.W.excIn K xFull [.type "ValueError",.type "Exception",.type "BaseException",.type "object"] "ValueError.__new__"=true)
   (elFu:PySem.W.clsIn K xFull=some cdFull)
   (egFu:PySem.W.findIn K (.ref xFull) "__getattribute__"=some (some (.builtin "BaseException.__getattribute__")))
   (etFu:PySem.W.findIn K (.ref xFull) "__getattr__"=some none)
   (eaFu:PySem.W.findIn K (.ref xFull) "__class__"=some (some (.builtin "object.__class__")))
   (emFu:PySem.W.mroIn K xFull (.type "object")=some true)
   (ebFu:PySem.W.mroIn K xFull (.type "BaseException")=some true)
   (aNoBath:PySem.W.nsIn K mainGlobals "NoBath"=some (some (.ref xNoBath)))
   (exNB:PySem.W.excIn K xNoBath [.type "ValueError",.type "Exception",.type "BaseException",.type "object"] "ValueError.__new__"=true)
   (elNB:PySem.W.clsIn K xNoBath=some cdNoBath)
   (egNB:PySem.W.findIn K (.ref xNoBath) "__getattribute__"=some (some (.builtin "BaseException.__getattribute__")))
   (etNB:PySem.W.findIn K (.ref xNoBath) "__getattr__"=some none)
   (eaNB:PySem.W.findIn K (.ref xNoBath) "__class__"=some (some (.builtin "object.__class__")))
   (emNB:PySem.W.mroIn K xNoBath (.type "object")=some true)
   (ebNB:PySem.W.mroIn K xNoBath (.type "BaseException")=some true)
   (aNoShade:PySem.W.nsIn K mainGlobals "NoShade"=some (some (.ref xNoShade)))
   (exNS:PySem.W.excIn K xNoShade [.type "ValueError",.type "Exception",.type "BaseException",.type "object"] "ValueError.__new__"=true)
   (elNS:PySem.W.clsIn K xNoShade=some cdNoShade)
   (egNS:PySem.W.findIn K (.ref xNoShade) "__getattribute__"=some (some (.builtin "BaseException.__getattribute__")))
   (etNS:PySem.W.findIn K (.ref xNoShade) "__getattr__"=some none)
   (eaNS:PySem.W.findIn K (.ref xNoShade) "__class__"=some (some (.builtin "object.__class__")))
   (emNS:PySem.W.mroIn K xNoShade (.type "object")=some true)
   (ebNS:PySem.W.mroIn K xNoShade (.type "BaseException")=some true)
   (eN1:PySem.W.specialIn K (.builtin "object.__class__") "__get__"=some (some (.builtin "getset_descriptor.__get__")))
   (eT1:PySem.W.takesIn K (.builtin "object.__class__")=some true)
   (zlen:PySem.W.nsIn K mainGlobals "len"=some none)
   (zall:PySem.W.nsIn K mainGlobals "all"=some none)
   (zrange:PySem.W.nsIn K mainGlobals "range"=some none)
   (zisinstance:PySem.W.nsIn K mainGlobals "isinstance"=some none)
   (zlist:PySem.W.nsIn K mainGlobals "list"=some none)
   (zstr:PySem.W.nsIn K mainGlobals "str"=some none)
   (zsorted:PySem.W.nsIn K mainGlobals "sorted"=some none)
   (ztuple:PySem.W.nsIn K mainGlobals "tuple"=some none)
   (zdict:PySem.W.nsIn K mainGlobals "dict"=some none)
   (zzip:PySem.W.nsIn K mainGlobals "zip"=some none)
   (zset:PySem.W.nsIn K mainGlobals "set"=some none)
   (zmin:PySem.W.nsIn K mainGlobals "min"=some none)
   (zint:PySem.W.nsIn K mainGlobals "int"=some none)
   (zmax:PySem.W.nsIn K mainGlobals "max"=some none)
   (zbool:PySem.W.nsIn K mainGlobals "bool"=some none)
   (vlett:PySem.W.nsIn K mainGlobals "LETTERS"=some (some (.str bv tlett)))
   (vlong:PySem.W.nsIn K mainGlobals "LONGEST"=some (some (.int 8 tlong)))
   (vmostS:PySem.W.nsIn K mainGlobals "MOST_SHADES"=some (some (.int 12 tmostS)))
   (vmostB:PySem.W.nsIn K mainGlobals "MOST_BATHS"=some (some (.int 8 tmostB)))
   (vmostR:PySem.W.nsIn K mainGlobals "MOST_IN_ROW"=some (some (.int 40 tmostR)))
   (vfday:PySem.W.nsIn K mainGlobals "FIRST_DAY"=some (some (.int 1 tfday)))
   (vlday:PySem.W.nsIn K mainGlobals "LAST_DAY"=some (some (.int 400 tlday)))
   (vmostC:PySem.W.nsIn K mainGlobals "MOST_CLOTHS"=some (some (.int 50 tmostC)))
   (vmostD:PySem.W.nsIn K mainGlobals "MOST_DIPS"=some (some (.int 1000 tmostD))) :
   ∃ fd:FuncData,(∀ (s:Shared) (v:Value),BindsTo s fd ⟨[v],[]⟩ [("_law_script",v)])∧∀ base:Heap,K.In base→base.Ns mainGlobals mg→ao l.prog w K mg base CX0 8 fa fd ["_law_script"] (oW K):=by
 have e:=hfa.symm.trans (PySem.W.mg_of X G aL)
 cases e
 have FI:=aH (st:=jp) lI cI kI
 have bI:=FI.binds (ps:=["self", "shades", "baths"]) fun _ _ _ _ _ _ us hl=>match us,hl with | [_,_,_],_=>rfl
 have FMS:=aH (st:=eB) lMS cMS kMS
 have bMS:=FMS.binds (ps:=["self"]) fun _ _ _ _ _ _ us hl=>match us,hl with | [_],_=>rfl
 have FMB:=aH (st:=fr) lMB cMB kMB
 have bMB:=FMB.binds (ps:=["self"]) fun _ _ _ _ _ _ us hl=>match us,hl with | [_],_=>rfl
 have FMT:=aH (st:=eE) lMT cMT kMT
 have bMT:=FMT.binds (ps:=["self", "bath"]) fun _ _ _ _ _ _ us hl=>match us,hl with | [_,_],_=>rfl
 have FMC:=aH (st:=dC) lMC cMC kMC
 have bMC:=FMC.binds (ps:=["self", "bath"]) fun _ _ _ _ _ _ us hl=>match us,hl with | [_,_],_=>rfl
 have FMH:=aH (st:=dU) lMH cMH kMH
 have bMH:=FMH.binds (ps:=["self", "shade"]) fun _ _ _ _ _ _ us hl=>match us,hl with | [_,_],_=>rfl
 have FMO:=aH (st:=jb) lMO cMO kMO
 have bMO:=FMO.binds (ps:=["self", "bath", "shade"]) fun _ _ _ _ _ _ us hl=>match us,hl with | [_,_,_],_=>rfl
 have mCB:=PySem.W.mg_of X G aCB
 have FHI:=aH (st:=hJ) lHI cHI kHI
 have bHI:=FHI.binds (ps:=["self", "book"]) fun _ _ _ _ _ _ us hl=>match us,hl with | [_,_],_=>rfl
 have FHR:=aH (st:=eT) lHR cHR kHR
 have bHR:=FHR.binds (ps:=["self", "cloth", "shade"]) fun _ _ _ _ _ _ us hl=>match us,hl with | [_,_,_],_=>rfl
 have FHQ:=aH (st:=jT) lHQ cHQ kHQ
 have bHQ:=FHQ.binds (ps:=["self", "cloth", "bath", "day"]) fun _ _ _ _ _ _ us hl=>match us,hl with | [_,_,_,_],_=>rfl
 have FHB:=aH (st:=gh) lHB cHB kHB
 have bHB:=FHB.binds (ps:=["self", "day"]) fun _ _ _ _ _ _ us hl=>match us,hl with | [_,_],_=>rfl
 have FHS:=aH (st:=eW) lHS cHS kHS
 have bHS:=FHS.binds (ps:=["self", "cloth", "day"]) fun _ _ _ _ _ _ us hl=>match us,hl with | [_,_,_],_=>rfl
 have FHT:=aH (st:=fi) lHT cHT kHT
 have bHT:=FHT.binds (ps:=["self", "cloth", "day"]) fun _ _ _ _ _ _ us hl=>match us,hl with | [_,_,_],_=>rfl
 have FHN:=aH (st:=eu) lHN cHN kHN
 have bHN:=FHN.binds (ps:=["self"]) fun _ _ _ _ _ _ us hl=>match us,hl with | [_],_=>rfl
 have FHC:=aH (st:=dR) lHC cHC kHC
 have bHC:=FHC.binds (ps:=["self", "cloth"]) fun _ _ _ _ _ _ us hl=>match us,hl with | [_,_],_=>rfl
 have FHD:=aH (st:=gP) lHD cHD kHD
 have bHD:=FHD.binds (ps:=["self", "day"]) fun _ _ _ _ _ _ us hl=>match us,hl with | [_,_],_=>rfl
 have mCH:=PySem.W.mg_of X G aCH
 have FGd:=aH (st:=kX) lGd cGd kGd
 have bGd:=FGd.binds (ps:=["text"]) fun _ _ _ _ _ _ us hl=>match us,hl with | [_],_=>rfl
 have mGd:=PySem.W.mg_of X G aGd
 have FCn:=aH (st:=fj) lCn cCn kCn
 have bCn:=FCn.binds (ps:=["texts"]) fun _ _ _ _ _ _ us hl=>match us,hl with | [_],_=>rfl
 have mCn:=PySem.W.mg_of X G aCn
 have FCs:=aH (st:=er) lCs cCs kCs
 have bCs:=FCs.binds (ps:=["shades"]) fun _ _ _ _ _ _ us hl=>match us,hl with | [_],_=>rfl
 have mCs:=PySem.W.mg_of X G aCs
 have FCo:=aH (st:=hU) lCo cCo kCo
 have bCo:=FCo.binds (ps:=["shades", "outs"]) fun _ _ _ _ _ _ us hl=>match us,hl with | [_,_],_=>rfl
 have mCo:=PySem.W.mg_of X G aCo
 have FCb:=aH (st:=fK) lCb cCb kCb
 have bCb:=FCb.binds (ps:=["shades", "baths"]) fun _ _ _ _ _ _ us hl=>match us,hl with | [_,_],_=>rfl
 have mCb:=PySem.W.mg_of X G aCb
 have FCD:=aH (st:=jV) lCD cCD kCD
 have bCD:=FCD.binds (ps:=["day"]) fun _ _ _ _ _ _ us hl=>match us,hl with | [_],_=>rfl
 have mCD:=PySem.W.mg_of X G aCD
 have FA:=aH (st:=sAt) lA cA kA
 have bA:=FA.binds (ps:=["_law_script", "_law_k"]) fun _ _ _ _ _ _ us hl=>match us,hl with | [_,_],_=>rfl
 have mA:=PySem.W.mg_of X G aA
 have FD:=aH (st:=ic) lD cD kD
 have bD:=FD.binds (ps:=["_law_cell", "_law_many", "_law_bound", "_law_mixed"]) fun _ _ _ _ _ _ us hl=>match us,hl with | [_,_,_,_],_=>rfl
 have mD:=PySem.W.mg_of X G aD
 have FN:=aH (st:=kZ) lN cN kN
 have bN:=FN.binds (ps:=["_law_seed", "_law_style"]) fun _ _ _ _ _ _ us hl=>match us,hl with | [_,_],_=>rfl
 have mN:=PySem.W.mg_of X G aN
 have FNs:=aH (st:=gS) lNs cNs kNs
 have bNs:=FNs.binds (ps:=["_law_cell", "_law_many", "_law_style", "_law_mixed"]) fun _ _ _ _ _ _ us hl=>match us,hl with | [_,_,_,_],_=>rfl
 have mNs:=PySem.W.mg_of X G aNs
 have FTu:=aH (st:=fJ) lTu cTu kTu
 have bTu:=FTu.binds (ps:=["_law_many", "_law_shape_here", "_law_drawn"]) fun _ _ _ _ _ _ us hl=>match us,hl with | [_,_,_],_=>rfl
 have mTu:=PySem.W.mg_of X G aTu
 have FOu:=aH (st:=jY) lOu cOu kOu
 have bOu:=FOu.binds (ps:=["_law_cell", "_law_many", "_law_shape_here", "_law_mixed"]) fun _ _ _ _ _ _ us hl=>match us,hl with | [_,_,_,_],_=>rfl
 have mOu:=PySem.W.mg_of X G aOu
 have FSh:=aH (st:=g6) lSh cSh kSh
 have bSh:=FSh.binds (ps:=["_law_pick", "_law_k"]) fun _ _ _ _ _ _ us hl=>match us,hl with | [_,_],_=>rfl
 have mSh:=PySem.W.mg_of X G aSh
 have FNd:=aH (st:=gO) lNd cNd kNd
 have bNd:=FNd.binds (ps:=["_law_script", "_law_many", "_law_count"]) fun _ _ _ _ _ _ us hl=>match us,hl with | [_,_,_],_=>rfl
 have mNd:=PySem.W.mg_of X G aNd
 have FSz:=aH (st:=gN) lSz cSz kSz
 have bSz:=FSz.binds (ps:=["_law_script", "_law_many", "_law_count"]) fun _ _ _ _ _ _ us hl=>match us,hl with | [_,_,_],_=>rfl
 have mSz:=PySem.W.mg_of X G aSz
 have FTa:=aH (st:=eG) lTa cTa kTa
 have bTa:=FTa.binds (ps:=["_law_shades", "_law_baths"]) fun _ _ _ _ _ _ us hl=>match us,hl with | [_,_],_=>rfl
 have mTa:=PySem.W.mg_of X G aTa
 have FHd:=aH (st:=fE) lHd cHd kHd
 have bHd:=FHd.binds (ps:=["_law_shades", "_law_baths"]) fun _ _ _ _ _ _ us hl=>match us,hl with | [_,_],_=>rfl
 have mHd:=PySem.W.mg_of X G aHd
 have FTI:=aH (st:=fM) lTI cTI kTI
 have bTI:=FTI.binds (ps:=["_law_found", "_law_due"]) fun _ _ _ _ _ _ us hl=>match us,hl with | [_,_],_=>rfl
 have mTI:=PySem.W.mg_of X G aTI
 have FRw:=aH (st:=pT) lRw cRw kRw
 have bRw:=FRw.binds (ps:=["_law_cell", "_law_size", "_law_titles", "_law_mixed"]) fun _ _ _ _ _ _ us hl=>match us,hl with | [_,_,_,_],_=>rfl
 have mRw:=PySem.W.mg_of X G aRw
 have FAE:=aH (st:=gf) lAE cAE kAE
 have bAE:=FAE.binds (ps:=["_law_tables_here", "_law_row_here", "_law_shade"]) fun _ _ _ _ _ _ us hl=>match us,hl with | [_,_,_],_=>rfl
 have mAE:=PySem.W.mg_of X G aAE
 have FWR:=aH (st:=kr) lWR cWR kWR
 have bWR:=FWR.binds (ps:=["words"]) fun _ _ _ _ _ _ us hl=>match us,hl with | [_],_=>rfl
 have mWR:=PySem.W.mg_of X G aWR
 have FWB:=aH (st:=g0) lWB cWB kWB
 have bWB:=FWB.binds (ps:=["book"]) fun _ _ _ _ _ _ us hl=>match us,hl with | [_],_=>rfl
 have mWB:=PySem.W.mg_of X G aWB
 have FBO:=aH (st:=fw) lBO cBO kBO
 have bBO:=FBO.binds (ps:=["words"]) fun _ _ _ _ _ _ us hl=>match us,hl with | [_],_=>rfl
 have mBO:=PySem.W.mg_of X G aBO
 have FLO:=aH (st:=gW) lLO cLO kLO
 have bLO:=FLO.binds (ps:=["text"]) fun _ _ _ _ _ _ us hl=>match us,hl with | [_],_=>rfl
 have mLO:=PySem.W.mg_of X G aLO
 have FRB:=aH (st:=kQ) lRB cRB kRB
 have bRB:=FRB.binds (ps:=["text"]) fun _ _ _ _ _ _ us hl=>match us,hl with | [_],_=>rfl
 have mRB:=PySem.W.mg_of X G aRB
 have FTx:=aH (st:=jh) lTx cTx kTx
 have bTx:=FTx.binds (ps:=["_law_order", "_law_tables_here"]) fun _ _ _ _ _ _ us hl=>match us,hl with | [_,_],_=>rfl
 have mTx:=PySem.W.mg_of X G aTx
 have FCk:=aH (st:=j8) lCk cCk kCk
 have bCk:=FCk.binds (ps:=["book", "row"]) fun _ _ _ _ _ _ us hl=>match us,hl with | [_,_],_=>rfl
 have mCk:=PySem.W.mg_of X G aCk
 have FCL:=aH (st:=kU) lCL cCL kCL
 have bCL:=FCL.binds (ps:=["row"]) fun _ _ _ _ _ _ us hl=>match us,hl with | [_],_=>rfl
 have mCL:=PySem.W.mg_of X G aCL
 have FWa:=aH (st:=jQ) lWa cWa kWa
 have bWa:=FWa.binds (ps:=["book", "row", "shade"]) fun _ _ _ _ _ _ us hl=>match us,hl with | [_,_,_],_=>rfl
 have mWa:=PySem.W.mg_of X G aWa
 have FTo:=aH (st:=gU) lTo cTo kTo
 have bTo:=FTo.binds (ps:=["book", "row"]) fun _ _ _ _ _ _ us hl=>match us,hl with | [_,_],_=>rfl
 have mTo:=PySem.W.mg_of X G aTo
 have FTh:=aH (st:=eA) lTh cTh kTh
 have bTh:=FTh.binds (ps:=["book", "row"]) fun _ _ _ _ _ _ us hl=>match us,hl with | [_,_],_=>rfl
 have mTh:=PySem.W.mg_of X G aTh
 have FBT:=aH (st:=eS) lBT cBT kBT
 have bBT:=FBT.binds (ps:=["shades", "outs"]) fun _ _ _ _ _ _ us hl=>match us,hl with | [_,_],_=>rfl
 have mBT:=PySem.W.mg_of X G aBT
 have FTG:=aH (st:=dM) lTG cTG kTG
 have bTG:=FTG.binds (ps:=["shades", "outs"]) fun _ _ _ _ _ _ us hl=>match us,hl with | [_,_],_=>rfl
 have mTG:=PySem.W.mg_of X G aTG
 have FTK:=aH (st:=g7) lTK cTK kTK
 have bTK:=FTK.binds (ps:=["book", "row"]) fun _ _ _ _ _ _ us hl=>match us,hl with | [_,_],_=>rfl
 have mTK:=PySem.W.mg_of X G aTK
 have FPr:=aH (st:=jN) lPr cPr kPr
 have bPr:=FPr.binds (ps:=["_law_found"]) fun _ _ _ _ _ _ us hl=>match us,hl with | [_],_=>rfl
 have mPr:=PySem.W.mg_of X G aPr
 have FLo:=aH (st:=dz) lLo cLo kLo
 have bLo:=FLo.binds (ps:=["_law_found", "_law_known", "_law_most"]) fun _ _ _ _ _ _ us hl=>match us,hl with | [_,_,_],_=>rfl
 have mLo:=PySem.W.mg_of X G aLo
 have FBA:=aH (st:=de) lBA cBA kBA
 have bBA:=FBA.binds (ps:=["_law_book", "_law_order", "_law_tables_here", "_law_row_here", "_law_told", "_law_day"]) fun _ _ _ _ _ _ us hl=>match us,hl with | [_,_,_,_,_,_],_=>rfl
 have mBA:=PySem.W.mg_of X G aBA
 have FB1:=aH (st:=eC) lB1 cB1 kB1
 have bB1:=FB1.binds (ps:=["_law_book", "_law_tables_here", "_law_row_here", "_law_pair_here", "_law_day"]) fun _ _ _ _ _ _ us hl=>match us,hl with | [_,_,_,_,_],_=>rfl
 have mB1:=PySem.W.mg_of X G aB1
 have FL:=aH (st:=k9) lL cL kL
 have bL:=FL.binds (ps:=["_law_script"]) fun _ _ _ _ _ _ us hl=>match us,hl with | [_],_=>rfl
 have mL:=PySem.W.mg_of X G aL
 have mND:=PySem.W.mg_of X G aNoDay
 have mLa:=PySem.W.mg_of X G aLate
 have mNC:=PySem.W.mg_of X G aNoCloth
 have mKn:=PySem.W.mg_of X G aKnown
 have mBN:=PySem.W.mg_of X G aBadName
 have mFu:=PySem.W.mg_of X G aFull
 have mNB:=PySem.W.mg_of X G aNoBath
 have mNS:=PySem.W.mg_of X G aNoShade
 have nlen:=PySem.W.mg_none_of X G zlen
 have nall:=PySem.W.mg_none_of X G zall
 have nrange:=PySem.W.mg_none_of X G zrange
 have nisinstance:=PySem.W.mg_none_of X G zisinstance
 have nlist:=PySem.W.mg_none_of X G zlist
 have nstr:=PySem.W.mg_none_of X G zstr
 have nsorted:=PySem.W.mg_none_of X G zsorted
 have ntuple:=PySem.W.mg_none_of X G ztuple
 have ndict:=PySem.W.mg_none_of X G zdict
 have nzip:=PySem.W.mg_none_of X G zzip
 have nset:=PySem.W.mg_none_of X G zset
 have nmin:=PySem.W.mg_none_of X G zmin
 have nint:=PySem.W.mg_none_of X G zint
 have nmax:=PySem.W.mg_none_of X G zmax
 have nbool:=PySem.W.mg_none_of X G zbool
 have elett:=PySem.W.mg_of X G vlett
 have elong:=PySem.W.mg_of X G vlong
 have emostS:=PySem.W.mg_of X G vmostS
 have emostB:=PySem.W.mg_of X G vmostB
 have emostR:=PySem.W.mg_of X G vmostR
 have efday:=PySem.W.mg_of X G vfday
 have elday:=PySem.W.mg_of X G vlday
 have emostC:=PySem.W.mg_of X G vmostC
 have emostD:=PySem.W.mg_of X G vmostD
 have T:Txt mg:=⟨nlen,nall,nrange,nisinstance,nlist,nstr,nsorted,ntuple,ndict,nzip,nset,nmin,nint,⟨_,elett⟩,⟨_,elong⟩⟩
 have TB:vm mg:=⟨⟨_,emostS⟩,⟨_,emostB⟩⟩
 have c:Cls K CB:=⟨pgB,hdB,poB,saB⟩
 have nO:bP K CB "order":=naB_order
 have nT:bP K CB "tables":=naB_tables
 have MkB:Mk K CB fI:=⟨mkB,aI,iI,kcB⟩
 have hX:Hx K mg CH:=⟨⟨pgH,hdH,poH,saH⟩,naH_first_shades,naH_day_now,naH_standing,naH_books_from,⟨_,efday⟩,⟨_,elday⟩,⟨_,emostC⟩,⟨_,emostD⟩,nmax⟩
 have MkH:Mk K CH fHI:=⟨mkH,aHI,iHI,kcH⟩
 have TM:mg "max"=none:=nmax
 have TR:∃ t,mg "MOST_IN_ROW"=some (.int 40 t):=⟨_,emostR⟩
 have hmMS:bQ K CB "shades" fMS:=⟨aMS,iMS,kMS⟩
 have hmMB:bQ K CB "baths" fMB:=⟨aMB,iMB,kMB⟩
 have hmMT:bQ K CB "table" fMT:=⟨aMT,iMT,kMT⟩
 have hmMC:bQ K CB "check_bath" fMC:=⟨aMC,iMC,kMC⟩
 have hmMH:bQ K CB "check_shade" fMH:=⟨aMH,iMH,kMH⟩
 have hmMO:bQ K CB "out" fMO:=⟨aMO,iMO,kMO⟩
 have hmHR:bQ K CH "bring" fHR:=⟨aHR,iHR,kHR⟩
 have hmHQ:bQ K CH "dip" fHQ:=⟨aHQ,iHQ,kHQ⟩
 have hmHB:bQ K CH "book" fHB:=⟨aHB,iHB,kHB⟩
 have hmHS:bQ K CH "shade" fHS:=⟨aHS,iHS,kHS⟩
 have hmHT:bQ K CH "trail" fHT:=⟨aHT,iHT,kHT⟩
 have hmHN:bQ K CH "newest_book" fHN:=⟨aHN,iHN,kHN⟩
 have hmHC:bQ K CH "check_cloth" fHC:=⟨aHC,iHC,kHC⟩
 have hmHD:bQ K CH "check_day_to_do" fHD:=⟨aHD,iHD,kHD⟩
 have XND:fc K xNoDay:=⟨exND,egND,etND,by rw[elND];rfl,eaND,eN1,eT1,emND,ebND⟩
 have XLa:fc K xLate:=⟨exLa,egLa,etLa,by rw[elLa];rfl,eaLa,eN1,eT1,emLa,ebLa⟩
 have XNC:fc K xNoCloth:=⟨exNC,egNC,etNC,by rw[elNC];rfl,eaNC,eN1,eT1,emNC,ebNC⟩
 have XKn:fc K xKnown:=⟨exKn,egKn,etKn,by rw[elKn];rfl,eaKn,eN1,eT1,emKn,ebKn⟩
 have XBN:fc K xBadName:=⟨exBN,egBN,etBN,by rw[elBN];rfl,eaBN,eN1,eT1,emBN,ebBN⟩
 have XFu:fc K xFull:=⟨exFu,egFu,etFu,by rw[elFu];rfl,eaFu,eN1,eT1,emFu,ebFu⟩
 have XNB:fc K xNoBath:=⟨exNB,egNB,etNB,by rw[elNB];rfl,eaNB,eN1,eT1,emNB,ebNB⟩
 have XNS:fc K xNoShade:=⟨exNS,egNS,etNS,by rw[elNS];rfl,eaNS,eN1,eT1,emNS,ebNS⟩
 exact⟨PySem.W.fnOf "law" "law" (aq k9) (am k9) (ae k9) .none kVL dcL pmL anL cdL ctL,fun s v=>.of_eq rfl,fun base _ _=>by
   have GA:=wt (P:=l.prog) (w:=w) (mg:=mg) (base:=base) FA T
   have GD:=qQ (P:=l.prog) (w:=w) (mg:=mg) (base:=base) FD T
   have GN:=t5 (P:=l.prog) (w:=w) (mg:=mg) (base:=base) FN T
   have GNs:=sF (P:=l.prog) (w:=w) (mg:=mg) (base:=base) FNs T GD kD bD mD GN kN bN mN
   have GTu:=pN (P:=l.prog) (w:=w) (mg:=mg) (base:=base) FTu T
   have GOu:=ua (P:=l.prog) (w:=w) (mg:=mg) (base:=base) FOu T GD kD bD mD GTu kTu bTu mTu
   have GSh:=rC (P:=l.prog) (w:=w) (mg:=mg) (base:=base) FSh T
   have GNd:=rR (P:=l.prog) (w:=w) (mg:=mg) (base:=base) FNd T GA kA bA mA GNs kNs bNs mNs
   have GSz:=rP (P:=l.prog) (w:=w) (mg:=mg) (base:=base) FSz T GA kA bA mA GNd kNd bNd mNd GSh kSh bSh mSh GOu kOu bOu mOu
   have GRw:=vR (P:=l.prog) (w:=w) (mg:=mg) (base:=base) FRw T TM GD kD bD mD
   have GAE:=qX (P:=l.prog) (w:=w) (mg:=mg) (base:=base) FAE
   have GTa:=pF (P:=l.prog) (w:=w) (mg:=mg) (base:=base) FTa T
   have GGd:=ue (P:=l.prog) (w:=w) (mg:=mg) (base:=base) FGd T
   have GCn:=qp (P:=l.prog) (w:=w) (mg:=mg) (base:=base) FCn T GGd kGd bGd mGd
   have GCs:=nr (P:=l.prog) (w:=w) (mg:=mg) (base:=base) FCs T TB GCn kCn bCn mCn
   have GCo:=rB (P:=l.prog) (w:=w) (mg:=mg) (base:=base) FCo T
   have GCb:=qq (P:=l.prog) (w:=w) (mg:=mg) (base:=base) FCb T TB GCn kCn bCn mCn GCo kCo bCo mCo
   have GI:=um (P:=l.prog) (w:=w) (mg:=mg) (base:=base) FI T c nO nT GCs kCs bCs mCs GCb kCb bCb mCb
   have GMC0:=qm (P:=l.prog) (w:=w) (mg:=mg) (base:=base) FMC c nT
   have GMH0:=og (P:=l.prog) (w:=w) (mg:=mg) (base:=base) FMH c nO
   have GMO:=tR (P:=l.prog) (w:=w) (mg:=mg) (base:=base) FMO c nT GMC0 hmMC bMC GMH0 hmMH bMH
   have GMC:=oj (P:=l.prog) (w:=w) (mg:=mg) (base:=base) FMC c nT XNB mNB
   have GMH:=ms (P:=l.prog) (w:=w) (mg:=mg) (base:=base) FMH c nO XNS mNS
   have GMS:=nM (P:=l.prog) (w:=w) (mg:=mg) (base:=base) FMS T c nO
   have GMB:=qD (P:=l.prog) (w:=w) (mg:=mg) (base:=base) FMB T c nT
   have GMT:=pU (P:=l.prog) (w:=w) (mg:=mg) (base:=base) FMT c nO nT GMC0 hmMC bMC
   have GHd:=pA (P:=l.prog) (w:=w) (mg:=mg) (base:=base) FHd T MkB GI bI mCB
   have GTI:=qh (P:=l.prog) (w:=w) (mg:=mg) (base:=base) FTI T
   have GCD:=tI (P:=l.prog) (w:=w) (mg:=mg) (base:=base) FCD T hX c XND mND
   have GHC:=vX (P:=l.prog) (w:=w) (mg:=mg) (base:=base) FHC T hX c XNC mNC
   have GHD:=vD (P:=l.prog) (w:=w) (mg:=mg) (base:=base) FHD T hX c XLa mLa GCD kCD bCD mCD
   have GHB:=sQ (P:=l.prog) (w:=w) (mg:=mg) (base:=base) FHB T hX c GCD kCD bCD mCD
   have GHN:=tP (P:=l.prog) (w:=w) (mg:=mg) (base:=base) FHN T hX c GHB hmHB bHB
   have GHT:=pB (P:=l.prog) (w:=w) (mg:=mg) (base:=base) FHT T hX c GHC hmHC bHC GCD kCD bCD mCD
   have GHS:=pV (P:=l.prog) (w:=w) (mg:=mg) (base:=base) FHS T hX c GHT hmHT bHT
   have GHI:=qS (P:=l.prog) (w:=w) (mg:=mg) (base:=base) FHI T hX c
   have GHR:=pC (P:=l.prog) (w:=w) (mg:=mg) (base:=base) FHR T hX c XBN mBN XKn mKn XFu mFu GGd kGd bGd mGd GHN hmHN bHN GMH hmMH bMH
   have GHQ:=sV (P:=l.prog) (w:=w) (mg:=mg) (base:=base) FHQ T hX c XFu mFu GHC hmHC bHC GHN hmHN bHN GMC hmMC bMC GHD hmHD bHD GHB hmHB bHB GHS hmHS bHS GMO hmMO bMO
   have GCk:=tT (P:=l.prog) (w:=w) (mg:=mg) (base:=base) FCk c GMC0 hmMC bMC
   have GCL:=tE (P:=l.prog) (w:=w) (mg:=mg) (base:=base) FCL T TR
   have GWa:=t3 (P:=l.prog) (w:=w) (mg:=mg) (base:=base) FWa c GMO hmMO bMO
   have GTo:=qP (P:=l.prog) (w:=w) (mg:=mg) (base:=base) FTo c GMS hmMS bMS GWa kWa bWa mWa
   have GTh:=nC (P:=l.prog) (w:=w) (mg:=mg) (base:=base) FTh GCk kCk bCk mCk GCL kCL bCL mCL GTo kTo bTo mTo
   have GBT:=pY (P:=l.prog) (w:=w) (mg:=mg) (base:=base) FBT T
   have GTG:=nY (P:=l.prog) (w:=w) (mg:=mg) (base:=base) FTG T
   have GTK:=rf (P:=l.prog) (w:=w) (mg:=mg) (base:=base) FTK T c GMS hmMS bMS GTh kTh bTh mTh GBT kBT bBT mBT GTG kTG bTG mTG
   have GPr:=uo (P:=l.prog) (w:=w) (mg:=mg) (base:=base) FPr T
   have GLo:=nv (P:=l.prog) (w:=w) (mg:=mg) (base:=base) FLo T
   have GLl:=nJ (P:=l.prog) (w:=w) (mg:=mg) (base:=base) FLo T
   have GWR:=ub (P:=l.prog) (w:=w) (mg:=mg) (base:=base) FWR
   have GWB:=rW (P:=l.prog) (w:=w) (mg:=mg) (base:=base) FWB c GWR kWR bWR mWR GMS hmMS bMS GMB hmMB bMB GMT hmMT bMT
   have GBO:=pM (P:=l.prog) (w:=w) (mg:=mg) (base:=base) FBO T
   have GLO:=sB (P:=l.prog) (w:=w) (mg:=mg) (base:=base) FLO T MkB GBO kBO bBO mBO GI bI mCB
   have GRB:=tH (P:=l.prog) (w:=w) (mg:=mg) (base:=base) FRB GLO kLO bLO mLO GWB kWB bWB mWB
   have GTx:=t8 (P:=l.prog) (w:=w) (mg:=mg) (base:=base) FTx T
   have GLo2:=tX GLo GLl
   have GBA:=lj (P:=l.prog) (w:=w) (mg:=mg) (base:=base) FBA T hX TM GHR hmHR bHR GHQ hmHQ bHQ GHS hmHS bHS GTI kTI bTI mTI GAE kAE bAE mAE MkH GHI bHI mCH
   have GB1:=ml (P:=l.prog) (w:=w) (mg:=mg) (base:=base) FB1 T hX GHR hmHR bHR GHQ hmHQ bHQ GHS hmHS bHS GTI kTI bTI mTI GAE kAE bAE mAE MkH GHI bHI mCH
   exact vL FL T hX GA kA bA mA GSz kSz bSz mSz GTa kTa bTa mTa GHd kHd bHd mHd GRw kRw bRw mRw GTx kTx bTx mTx GRB kRB bRB mRB GTK kTK bTK mTK GPr kPr bPr mPr GLo2 kLo bLo mLo GBA kBA bBA mBA GB1 kB1 bB1 mB1⟩
theorem walk {l:PySem.W.OpenLaw}{q:Program}{loose:List Str}{XP:(Str→Option Value)→Heap→Prop}{YP:World→Heap→Prop}{d:DefRec}{K:Params→PySem.W.Frag}(hn:l.most=some 63)(hdf:d.params.defaults=[])
   (hY:∀ (w:World)(h:Heap),YP w h→(K w.params).In h)
   (F:∀ (w:World)(mg:Str→Option Value)(fa:Addr)(h:Heap),(K w.params).In h→h.Ns mainGlobals mg→mg d.name=some (.ref fa) →
     ∃ fd:FuncData,(∀ (s:Shared) (u:Value),BindsTo s fd ⟨[u],[]⟩ [("_law_script",u)])∧∀ base:Heap,(K w.params).In base→base.Ns mainGlobals mg→ao l.prog w (K w.params) mg base CX0 8 fa fd ["_law_script"] (oW (K w.params))) :
   PySem.W.WalkO q loose XP YP l.row.toRowW d [] (fun f vs=>PySem.call f vs) :=
 L2.walk_of (n:=63) (k:=8) (x:="_law_script") (CX:=fun _=>CX0) (sp:=fun w=>oW (K w.params)) hn (by decide) hdf ⟨rfl,by decide,by decide⟩ hY F (fun _ _ a ns hl _ hS=>⟨a,ns,rfl,hS,hl,fun _=>rfl⟩) fun _ _ _ _ _ z=>z
end DM
namespace PySem.W.Fast
def tw10025556498746616546:=0
def tw10115659401830585477:=0
def tw10145117705818555571:=0
def tw10170989650682576627:=0
def tw10190690453009817101:=0
def tw10203181511559283682:=0
def tw10240026574552014533:=0
def tw10245053362076348492:=0
def tw10274790349322258794:=0
def tw10288136118153700391:=0
def tw10371209708170039256:=0
def tw10412448090876477652:=0
def tw10450777197169060498:=0
def tw10506565724951930197:=0
def tw10509420594892024415:=0
def tw10532033369796406992:=0
def tw10549863650533296850:=0
def tw10611834794118778825:=0
def tw10621096051760149360:=0
def tw10709914163783905197:=0
def tw10725727707728012740:=0
def tw10740406942394094915:=0
def tw10769829775756653667:=0
def tw10787010579896322466:=0
def tw10793612552629004155:=0
def tw10803186423403758326:=0
def tw10804306768032547585:=0
def tw10829116998726394:=0
def tw10834959827837796383:=0
def tw10835072484970079899:=0
def tw10862018122079778034:=0
def tw10869828038284267045:=0
def tw10880923523327493114:=0
def tw10915437909523355307:=0
def tw10968553605869523949:=0
def tw11043877758518859024:=0
def tw11064945235802619932:=0
def tw11095593491731437995:=0
def tw11116846254845697601:=0
def tw11119086326961425677:=0
def tw1113112959877584579:=0
def tw11145502582958187152:=0
def tw11171077656157180830:=0
def tw11187963027950522713:=0
def tw11190363491359382890:=0
def tw11191783584926421933:=0
def tw11214285871245913486:=0
def tw11260672694686703963:=0
def tw11278828733533694810:=0
def tw11284964216245712882:=0
def tw1129136359867944121:=0
def tw1130274628398752034:=0
def tw11314832565839572230:=0
def tw11332086036644582213:=0
def tw11347235703789070798:=0
def tw11350100285086748411:=0
def tw113541059292530695:=0
def tw11364812106453869454:=0
def tw11366297746458427273:=0
def tw114970614950540156:=0
def tw11571526465266384046:=0
def tw1158648067205783084:=0
def tw11587789819745603219:=0
def tw11616414085984707835:=0
def tw11649720903442413740:=0
def tw11650392610787648496:=0
def tw116624332084526504:=0
def tw11688238761639477967:=0
def tw11696819679280920790:=0
def tw1171895508433385719:=0
def tw11725843934413623517:=0
def tw11746136766690218561:=0
def tw11752120305748873204:=0
def tw11768236492510303409:=0
def tw11807983363166093220:=0
def tw118235753392562993:=0
def tw11878619809516372209:=0
def tw11889689852824680227:=0
def tw11958280798729950992:=0
def tw12002303209764167025:=0
def tw12041425427776119106:=0
def tw12063939504773616159:=0
def tw12108140209105517573:=0
def tw12118750316412589678:=0
def tw12170092270633920051:=0
def tw12182245318811703104:=0
def tw12194632006878767971:=0
def tw12197435269806957471:=0
def tw12227844848398197067:=0
def tw12243144030795614331:=0
def tw12263126818839802490:=0
def tw12265007982334595718:=0
def tw12324080277878766411:=0
def tw12327231646433222382:=0
def tw12375160650047020601:=0
def tw12394292367223097152:=0
def tw12461678298994641574:=0
def tw12492005708744634917:=0
def tw12507638032332185299:=0
def tw12527503711235062500:=0
def tw12528815252997586609:=0
def tw12532508896372246058:=0
def tw12597291386974833841:=0
def tw12604004625179010125:=0
def tw126265697853828413:=0
def tw12671017837446797781:=0
def tw12678315695666331925:=0
def tw12687377389219757610:=0
def tw12706855402897832735:=0
def tw12725213772214606294:=0
def tw12738572818878062594:=0
def tw1274234243265552979:=0
def tw12751402635643784198:=0
def tw12762269904796171413:=0
def tw12798298777275163220:=0
def tw12886936931856901126:=0
def tw12889708852542046900:=0
def tw12901789092601860552:=0
def tw1292684446426790691:=0
def tw12979911228319172264:=0
def tw12986896625673657257:=0
def tw13017754034713276310:=0
def tw13040821502584012526:=0
def tw13051392662196207338:=0
def tw13053579381822976248:=0
def tw13069997995877337579:=0
def tw13099462479726848771:=0
def tw13105139578883163479:=0
def tw13138551241425250385:=0
def tw13152320120169226669:=0
def tw13175969593355487612:=0
def tw13246119531074990936:=0
def tw13301122262503855757:=0
def tw13302082406493420622:=0
def tw13334686096862567304:=0
def tw13336169917424870322:=0
def tw13409770160205634618:=0
def tw13426776393249799309:=0
def tw13434177465120328517:=0
def tw13435621340298071284:=0
def tw13436870261832308317:=0
def tw13453747876381934355:=0
def tw13479248541920512718:=0
def tw13479406634634342031:=0
def tw13484254939718566290:=0
def tw13580408617996128427:=0
def tw13589756955550954012:=0
def tw13637361411107965954:=0
def tw13640361814266120099:=0
def tw13661882764851258023:=0
def tw13663592096934133168:=0
def tw13684595660298608563:=0
def tw13723088371314238893:=0
def tw13759335697304872628:=0
def tw13827796463243561847:=0
def tw13840047119782778867:=0
def tw13875035715179463609:=0
def tw13880978853866643075:=0
def tw13905823752591110594:=0
def tw13912298321618965833:=0
def tw13963734962541273023:=0
def tw1402119262735406191:=0
def tw14041620188409787506:=0
def tw14135465422699649143:=0
def tw14165323088107056103:=0
def tw14177665614399719258:=0
def tw14211612399647769054:=0
def tw14222336390225758921:=0
def tw14282972474180019811:=0
def tw14288948036149478089:=0
def tw14292150373102323611:=0
def tw14298202514808193205:=0
def tw14327042985389707038:=0
def tw14330085490750903193:=0
def tw1436376053788517929:=0
def tw14370959373066397038:=0
def tw14374717581259625976:=0
def tw14407347888129688582:=0
def tw14423538327943368346:=0
def tw14438018215920775214:=0
def tw14515266499951444401:=0
def tw14630742041095980634:=0
def tw14675013604411034602:=0
def tw1468243937245845749:=0
def tw14697065565883882614:=0
def tw14706998202415105652:=0
def tw1479123361869072905:=0
def tw14823750447404095182:=0
def tw14839322546166524417:=0
def tw14864005416500632601:=0
def tw14873975015917273298:=0
def tw14885449109801052206:=0
def tw14887389349640757007:=0
def tw1489735998209117772:=0
def tw14901855372148869875:=0
def tw14928156051826340225:=0
def tw14938767285770250875:=0
def tw14945755842514959175:=0
def tw14960722842528160584:=0
def tw15027126905608482240:=0
def tw15035493193769229932:=0
def tw15105218303546619728:=0
def tw15107988793917573466:=0
def tw15110013103755402440:=0
def tw15114939594938946571:=0
def tw15189773871817356631:=0
def tw15229769336983031807:=0
def tw15248821481213401011:=0
def tw1528569364605547529:=0
def tw15299490008862094558:=0
def tw15300482749956441025:=0
def tw15331386013945465749:=0
def tw15332825285514679094:=0
def tw15367763901311967954:=0
def tw15377226703423724122:=0
def tw15389339994912993574:=0
def tw15460674989572993563:=0
def tw15490383080898706289:=0
def tw1550544128884001330:=0
def tw15514017128686137176:=0
def tw15526606967095010659:=0
def tw15535053253004222539:=0
def tw15563483236191618811:=0
def tw15592941848046325935:=0
def tw15609199081076399204:=0
def tw15628867516744375512:=0
def tw15630061760476355081:=0
def tw15632981877290134118:=0
def tw15638567609056641533:=0
def tw15685274119802216360:=0
def tw15704791998573161165:=0
def tw1571407321624858408:=0
def tw15766185851194850948:=0
def tw15803369081565721088:=0
def tw15824194103186692209:=0
def tw1587283005374614126:=0
def tw1592264802035770813:=0
def tw15950201980924465280:=0
def tw16008754740027397037:=0
def tw16072857392729009143:=0
def tw16078063637584064806:=0
def tw16083413672393038935:=0
def tw16110533911534817896:=0
def tw16178870258971449882:=0
def tw16180808650550514098:=0
def tw16206117753363648946:=0
def tw16294946005401500913:=0
def tw1631197537866261060:=0
def tw16322489936007091071:=0
def tw16352012340300778932:=0
def tw16357044922707818546:=0
def tw16377707102049429801:=0
def tw16411592707982116767:=0
def tw16460859405116076303:=0
def tw16482004993931683164:=0
def tw16537321313288158955:=0
def tw16540593730492047898:=0
def tw16563687408378048736:=0
def tw16566949641898686196:=0
def tw1657484304845511169:=0
def tw16625091153693407351:=0
def tw16640762941603322779:=0
def tw16677131458801238517:=0
def tw16697042983847358924:=0
def tw16711369114926283391:=0
def tw16723968940062358364:=0
def tw16744974301760183635:=0
def tw16749107991843854871:=0
def tw16774032607324626484:=0
def tw16801976447953657085:=0
def tw16803081527392291085:=0
def tw16848841577536035188:=0
def tw1686804526401158515:=0
def tw16891409054912234103:=0
def tw1691792119629537911:=0
def tw16922360278986128857:=0
def tw16977411462250191743:=0
def tw17044163348956034304:=0
def tw17054165539724902820:=0
def tw17084509580055082965:=0
def tw17093708438431130415:=0
def tw17106396652893698762:=0
def tw17118440467883021949:=0
def tw17122300770498862056:=0
def tw17132842076736633759:=0
def tw17186016998966211041:=0
def tw17221937398276364981:=0
def tw17252055027818417487:=0
def tw17257927460477704452:=0
def tw17293049846609022013:=0
def tw17294630003582626735:=0
def tw17307486660594783530:=0
def tw17322265826243283298:=0
def tw17322950067361203925:=0
def tw17329040607049862909:=0
def tw17388184734045865835:=0
def tw17426472590536715459:=0
def tw17430354450204777914:=0
def tw17451818614956455656:=0
def tw17454932127539813875:=0
def tw17576139679006316680:=0
def tw17576599030663857180:=0
def tw1757849981289104785:=0
def tw17624093528675548548:=0
def tw17676963753875418285:=0
def tw17756771470608993743:=0
def tw17761731368701409601:=0
def tw17768813661230804170:=0
def tw17776152214844767116:=0
def tw17825169120306017515:=0
def tw17848193205720885049:=0
def tw17858038442536683211:=0
def tw17862717125511842392:=0
def tw17869111520420422871:=0
def tw17888702397371311709:=0
def tw1797363676857390681:=0
def tw17988747406803601495:=0
def tw18024716206665068170:=0
def tw18046618113954145173:=0
def tw18086835634691899965:=0
def tw18152873393168903642:=0
def tw18163569027209438804:=0
def tw18164259950081523192:=0
def tw18165268553366437607:=0
def tw18166788046674167168:=0
def tw18169668590864925839:=0
def tw18171071610919821658:=0
def tw18175999811137805856:=0
def tw1817950475498618244:=0
def tw18180326060569923886:=0
def tw18198510538890851980:=0
def tw18205688952707320161:=0
def tw1827225759441066716:=0
def tw18277669027260055603:=0
def tw1829262529744475594:=0
def tw18309977062116027828:=0
def tw18429408299806882874:=0
def tw18438774503416814363:=0
def tw18438884962791562080:=0
def tw1875849655685776562:=0
def tw1877812425392169292:=0
def tw1895276764401654112:=0
def tw1983952322397914905:=0
def tw2021617395889933010:=0
def tw205252571726494832:=0
def tw2080202873022695084:=0
def tw2104888929788921792:=0
def tw2121374049681250426:=0
def tw2122795142769363967:=0
def tw2150969476878698767:=0
def tw2187330597359010083:=0
def tw2210712513081817124:=0
def tw2216040537214605444:=0
def tw2235203375624122606:=0
def tw2281288585606181343:=0
def tw2308276919177407256:=0
def tw2326616908823144290:=0
def tw2387870902575244615:=0
def tw2399866230339301190:=0
def tw2414123776661870662:=0
def tw2418673920732350723:=0
def tw2477976549657422538:=0
def tw2506730143515744963:=0
def tw2524943687265736729:=0
def tw2538273123650220783:=0
def tw2544223937569398136:=0
def tw2581626474283492162:=0
def tw2604340050021818812:=0
def tw260741282104366786:=0
def tw2631962201250417223:=0
def tw2639019753672063451:=0
def tw2649522818196619317:=0
def tw2686193220647745786:=0
def tw2703770838735781328:=0
def tw2760266872960212896:=0
def tw2785417293380074234:=0
def tw2795100616388985720:=0
def tw2843815012355866862:=0
def tw2853760864511270388:=0
def tw2855177780968364594:=0
def tw2908899597997936094:=0
def tw2911872889053316707:=0
def tw2918512283142518825:=0
def tw2928682109620909116:=0
def tw2939052337932419445:=0
def tw2959201368192551321:=0
def tw2971529214228411815:=0
def tw3021393981609895187:=0
def tw3026787975515892987:=0
def tw3098637253509754566:=0
def tw3135612517701798893:=0
def tw3160613198980899945:=0
def tw3276803123364541087:=0
def tw3281838768520572320:=0
def tw3293042451865022853:=0
def tw3432273257587316702:=0
def tw3440009419470821998:=0
def tw3461325357767670156:=0
def tw3511590430850917208:=0
def tw3516015106165993396:=0
def tw353002105389940808:=0
def tw353898690805448096:=0
def tw3581184903672624635:=0
def tw358985724859366764:=0
def tw3604300390239846399:=0
def tw3606836475283394683:=0
def tw368291103987097227:=0
def tw3686278688329124615:=0
def tw3742742414974297215:=0
def tw374890517880897507:=0
def tw3756381314354519545:=0
def tw378364133387088705:=0
def tw3797217856101616413:=0
def tw3840016492437832650:=0
def tw3877896671079695835:=0
def tw3888115892139780133:=0
def tw3926525163053268237:=0
def tw3961995640737057844:=0
def tw3998601669641124953:=0
def tw4029717571505107599:=0
def tw4095147849231655384:=0
def tw4106537881147633105:=0
def tw4106863022788907705:=0
def tw4138301877116641581:=0
def tw4162407312776922785:=0
def tw4187093664793720041:=0
def tw4219734710171688516:=0
def tw4221131994342299871:=0
def tw426303162396345704:=0
def tw4303162834189699956:=0
def tw4329969697503850834:=0
def tw4360797782656649264:=0
def tw4423906956593496940:=0
def tw4496323406803411630:=0
def tw4573690272005064541:=0
def tw4655512062943710446:=0
def tw468277825564058330:=0
def tw4684827509878956321:=0
def tw4725667465719425544:=0
def tw4728615214930898576:=0
def tw473155942071177566:=0
def tw4734146896815534063:=0
def tw4767090239075949050:=0
def tw4777490328065345579:=0
def tw4782129092227669993:=0
def tw4786600296297373434:=0
def tw4812157417278482825:=0
def tw4859887076571071062:=0
def tw4876520770980397091:=0
def tw5061058412356977894:=0
def tw5062070569941095396:=0
def tw5071241354778783446:=0
def tw5084656175903658160:=0
def tw5088908297111835080:=0
def tw5092496653082405308:=0
def tw5133643806986206248:=0
def tw5170848388151244786:=0
def tw5190854475408605684:=0
def tw5202788451919324793:=0
def tw5215632952191990184:=0
def tw5241805197403346920:=0
def tw5252723918632870911:=0
def tw5303816268314447386:=0
def tw5356678126373725437:=0
def tw5359441809112305735:=0
def tw5380417365132723218:=0
def tw541296665999845030:=0
def tw5434458865132629526:=0
def tw5441710366022693532:=0
def tw5459356846337567454:=0
def tw5459859381455934217:=0
def tw5508335664878071120:=0
def tw5516093421540001370:=0
def tw5547440668100603626:=0
def tw5626215914596719285:=0
def tw5638282237769825481:=0
def tw5690595674143010555:=0
def tw5726604010107170330:=0
def tw5751280262449600826:=0
def tw5755267363755026826:=0
def tw5775439429683464170:=0
def tw5799947780634891215:=0
def tw5822998776302500800:=0
def tw5838785858690698003:=0
def tw5842918243294975903:=0
def tw5846245984299949233:=0
def tw5894407349187593425:=0
def tw5921510625784321503:=0
def tw5996435737838700414:=0
def tw6078151107437298701:=0
def tw6151999008289046673:=0
def tw6176981095562125954:=0
def tw6186010105241573641:=0
def tw6239512165017031915:=0
def tw6272353763494563829:=0
def tw6288501297264088435:=0
def tw6323943386213990950:=0
def tw64386369251300493:=0
def tw6474674945131241768:=0
def tw6500348542615709779:=0
def tw6515253571707744838:=0
def tw6534549924088503285:=0
def tw6567054256743393811:=0
def tw6572610176980889311:=0
def tw6610264587020223400:=0
def tw662331385098149684:=0
def tw6632862252990674052:=0
def tw6647506644086613660:=0
def tw6660915726070734477:=0
def tw6695936432044786618:=0
def tw6703938123802197082:=0
def tw6728912710216198631:=0
def tw6736590815545101393:=0
def tw6740372494097526788:=0
def tw6753712580640308898:=0
def tw6794929702267716753:=0
def tw6800213551469447779:=0
def tw6923198275792643625:=0
def tw6937304387045498594:=0
def tw6945071892968117748:=0
def tw6964296582760125830:=0
def tw7001910572990974453:=0
def tw7044744797219753288:=0
def tw7117857220225364197:=0
def tw7119833836895213116:=0
def tw71403239528067325:=0
def tw7157487512192123600:=0
def tw7161224821140776156:=0
def tw7184186878140097543:=0
def tw7194290465530211333:=0
def tw7236096390639401132:=0
def tw7252466336384496125:=0
def tw726863566114229490:=0
def tw7282586769005617113:=0
def tw7306874297691157580:=0
def tw7307089561035882322:=0
def tw7308027009214512227:=0
def tw7334783091615881889:=0
def tw736113861394918383:=0
def tw7368459577776957380:=0
def tw7388678486495385378:=0
def tw7405766244178194314:=0
def tw7412031401554406948:=0
def tw7483178028784468591:=0
def tw7492512809226431911:=0
def tw7516277502525347483:=0
def tw7541649446759512538:=0
def tw7556476711389501501:=0
def tw7590615943019310451:=0
def tw7598535395899251030:=0
def tw7649058251209843002:=0
def tw7659598485971216748:=0
def tw7665282421256510700:=0
def tw7727966043573751274:=0
def tw7728039788728976448:=0
def tw7778128225153905554:=0
def tw7785768388955672632:=0
def tw7797091629825609207:=0
def tw7871590172021794654:=0
def tw7874298535345591499:=0
def tw7906648017733784331:=0
def tw7910573631899234406:=0
def tw7912616556211088924:=0
def tw7939690183402757687:=0
def tw7966359735229222463:=0
def tw7967909223853996237:=0
def tw7972749507126526599:=0
def tw7974912979113508467:=0
def tw7975284391057444877:=0
def tw8008028012868667409:=0
def tw8008734787598030079:=0
def tw8043279496800265131:=0
def tw8054472228499226173:=0
def tw8068937148787378154:=0
def tw8074267607140204954:=0
def tw8094364328570995550:=0
def tw8106431995952674990:=0
def tw8196419278475784866:=0
def tw8225414765493547065:=0
def tw824121048796552036:=0
def tw8256076885900370868:=0
def tw826225258745705615:=0
def tw8388900172494825175:=0
def tw8448337478164953177:=0
def tw8448697116454144528:=0
def tw8475682263251293662:=0
def tw8508675988429662868:=0
def tw8522268957572282376:=0
def tw8524036963110720133:=0
def tw8595668359635665748:=0
def tw8605565747434467663:=0
def tw8619682899660292244:=0
def tw8662565410162834275:=0
def tw8682277809362427074:=0
def tw87335847976929623:=0
def tw8740213701972754102:=0
def tw8746821363479956977:=0
def tw8776757715352816655:=0
def tw8827344301065170566:=0
def tw8833579206811644651:=0
def tw8940492934788059906:=0
def tw8959310351491919183:=0
def tw9016745313824599733:=0
def tw9055545597872202202:=0
def tw9056815776499802735:=0
def tw906812815868774598:=0
def tw9090266613656190224:=0
def tw9105575189518942319:=0
def tw9116201112698563235:=0
def tw913372071073685538:=0
def tw9192004069736588082:=0
def tw9221217931436901097:=0
def tw9221589277631286847:=0
def tw9276447653626978423:=0
def tw9315135444725570354:=0
def tw9322626330620800759:=0
def tw9347531545127060035:=0
def tw9375054923768193668:=0
def tw9411981026878111062:=0
def tw9435798982214217967:=0
def tw9514131810702453717:=0
def tw9538102998747368398:=0
def tw9566322735694507920:=0
def tw9574969973447393509:=0
def tw9593939422015693149:=0
def tw9601534020908203070:=0
def tw960857046114603661:=0
def tw9636701685924397394:=0
def tw964401333796396012:=0
def tw9739597552893738204:=0
def tw97437993572738311:=0
def tw9764363767044542581:=0
def tw97789490451829585:=0
def tw9816006675666864699:=0
def tw985171503901947866:=0
def tw9894574989013829721:=0
def tw9895358791440474046:=0
def tw9899141051180365379:=0
def tw9927098036035185826:=0
def tw993611797645943247:=0
def tw9976960746030106510:=0
def tw9983573777342780124:=0
end PySem.W.Fast
open PySem PySem.W PyProof.Rows
set_option maxRecDepth 100000 in
set_option maxHeartbeats 0 in
theorem PySem.Challenge.cw_dipmaps_k41_whole_dips_taken_out_holds : PySem.Challenge.rw_dipmaps_k41_whole_dips_taken_out.Holds := by
 w_on;o_law;k_head;(case hw=>w_witness2)
 k_fill
 refine DM.walk (l:=PySem.Challenge.rw_dipmaps_k41_whole_dips_taken_out) rfl rfl (fun w h Y=>PySem.W.kIn_of Y) ?F
 case F =>
   intro w mg fa h KX G hmg
   refine' DM.all_mk KX G hmg ?aCB ?aI ?iI ?lI ?cI ?kI ?aMS ?iMS ?lMS ?cMS ?kMS ?aMB ?iMB ?lMB ?cMB ?kMB ?aMT ?iMT ?lMT ?cMT ?kMT ?aMC ?iMC ?lMC ?cMC ?kMC ?aMH ?iMH ?lMH ?cMH ?kMH ?aMO ?iMO ?lMO ?cMO ?kMO ?pgB ?hdB ?poB ?saB ?mkB ?kcB ?naB_order ?naB_tables ?aCH ?aHI ?iHI ?lHI ?cHI ?kHI ?aHR ?iHR ?lHR ?cHR ?kHR ?aHQ ?iHQ ?lHQ ?cHQ ?kHQ ?aHB ?iHB ?lHB ?cHB ?kHB ?aHS ?iHS ?lHS ?cHS ?kHS ?aHT ?iHT ?lHT ?cHT ?kHT ?aHN ?iHN ?lHN ?cHN ?kHN ?aHC ?iHC ?lHC ?cHC ?kHC ?aHD ?iHD ?lHD ?cHD ?kHD ?pgH ?hdH ?poH ?saH ?mkH ?kcH ?naH_first_shades ?naH_day_now ?naH_standing ?naH_books_from ?aGd ?lGd ?cGd ?kGd ?aCn ?lCn ?cCn ?kCn ?aCs ?lCs ?cCs ?kCs ?aCo ?lCo ?cCo ?kCo ?aCb ?lCb ?cCb ?kCb ?aCD ?lCD ?cCD ?kCD ?aA ?lA ?cA ?kA ?aD ?lD ?cD ?kD ?aN ?lN ?cN ?kN ?aNs ?lNs ?cNs ?kNs ?aTu ?lTu ?cTu ?kTu ?aOu ?lOu ?cOu ?kOu ?aSh ?lSh ?cSh ?kSh ?aNd ?lNd ?cNd ?kNd ?aSz ?lSz ?cSz ?kSz ?aTa ?lTa ?cTa ?kTa ?aHd ?lHd ?cHd ?kHd ?aTI ?lTI ?cTI ?kTI ?aRw ?lRw ?cRw ?kRw ?aAE ?lAE ?cAE ?kAE ?aWR ?lWR ?cWR ?kWR ?aWB ?lWB ?cWB ?kWB ?aBO ?lBO ?cBO ?kBO ?aLO ?lLO ?cLO ?kLO ?aRB ?lRB ?cRB ?kRB ?aTx ?lTx ?cTx ?kTx ?aCk ?lCk ?cCk ?kCk ?aCL ?lCL ?cCL ?kCL ?aWa ?lWa ?cWa ?kWa ?aTo ?lTo ?cTo ?kTo ?aTh ?lTh ?cTh ?kTh ?aBT ?lBT ?cBT ?kBT ?aTG ?lTG ?cTG ?kTG ?aTK ?lTK ?cTK ?kTK ?aPr ?lPr ?cPr ?kPr ?aLo ?lLo ?cLo ?kLo ?aBA ?lBA ?cBA ?kBA ?aB1 ?lB1 ?cB1 ?kB1 ?aL ?lL ?cL ?kL ?aNoDay ?exND ?elND ?egND ?etND ?eaND ?emND ?ebND ?aLate ?exLa ?elLa ?egLa ?etLa ?eaLa ?emLa ?ebLa ?aNoCloth ?exNC ?elNC ?egNC ?etNC ?eaNC ?emNC ?ebNC ?aKnown ?exKn ?elKn ?egKn ?etKn ?eaKn ?emKn ?ebKn ?aBadName ?exBN ?elBN ?egBN ?etBN ?eaBN ?emBN ?ebBN ?aFull ?exFu ?elFu ?egFu ?etFu ?eaFu ?emFu ?ebFu ?aNoBath ?exNB ?elNB ?egNB ?etNB ?eaNB ?emNB ?ebNB ?aNoShade ?exNS ?elNS ?egNS ?etNS ?eaNS ?emNS ?ebNS ?eN1 ?eT1 ?zlen ?zall ?zrange ?zisinstance ?zlist ?zstr ?zsorted ?ztuple ?zdict ?zzip ?zset ?zmin ?zint ?zmax ?zbool ?vlett ?vlong ?vmostS ?vmostB ?vmostR ?vfday ?vlday ?vmostC ?vmostD
   (case aCB=>k_is)
   (case aI=>k_is)
   (case iI=>k_is)
   (case lI=>k_is)
   (case cI=>k_is)
   (case kI=>k_is)
   (case aMS=>k_is)
   (case iMS=>k_is)
   (case lMS=>k_is)
   (case cMS=>k_is)
   (case kMS=>k_is)
   (case aMB=>k_is)
   (case iMB=>k_is)
   (case lMB=>k_is)
   (case cMB=>k_is)
   (case kMB=>k_is)
   (case aMT=>k_is)
   (case iMT=>k_is)
   (case lMT=>k_is)
   (case cMT=>k_is)
   (case kMT=>k_is)
   (case aMC=>k_is)
   (case iMC=>k_is)
   (case lMC=>k_is)
   (case cMC=>k_is)
   (case kMC=>k_is)
   (case aMH=>k_is)
   (case iMH=>k_is)
   (case lMH=>k_is)
   (case cMH=>k_is)
   (case kMH=>k_is)
   (case aMO=>k_is)
   (case iMO=>k_is)
   (case lMO=>k_is)
   (case cMO=>k_is)
   (case kMO=>k_is)
   (case pgB=>k_is)
   (case hdB=>k_is)
   (case poB=>k_is)
   (case saB=>k_is)
   (case mkB=>k_is)
   (case kcB=>k_is)
   (case naB_order=>k_is)
   (case naB_tables=>k_is)
   (case aCH=>k_is)
   (case aHI=>k_is)
   (case iHI=>k_is)
   (case lHI=>k_is)
   (case cHI=>k_is)
   (case kHI=>k_is)
   (case aHR=>k_is)
   (case iHR=>k_is)
   (case lHR=>k_is)
   (case cHR=>k_is)
   (case kHR=>k_is)
   (case aHQ=>k_is)
   (case iHQ=>k_is)
   (case lHQ=>k_is)
   (case cHQ=>k_is)
   (case kHQ=>k_is)
   (case aHB=>k_is)
   (case iHB=>k_is)
   (case lHB=>k_is)
   (case cHB=>k_is)
   (case kHB=>k_is)
   (case aHS=>k_is)
   (case iHS=>k_is)
   (case lHS=>k_is)
   (case cHS=>k_is)
   (case kHS=>k_is)
   (case aHT=>k_is)
   (case iHT=>k_is)
   (case lHT=>k_is)
   (case cHT=>k_is)
   (case kHT=>k_is)
   (case aHN=>k_is)
   (case iHN=>k_is)
   (case lHN=>k_is)
   (case cHN=>k_is)
   (case kHN=>k_is)
   (case aHC=>k_is)
   (case iHC=>k_is)
   (case lHC=>k_is)
   (case cHC=>k_is)
   (case kHC=>k_is)
   (case aHD=>k_is)
   (case iHD=>k_is)
   (case lHD=>k_is)
   (case cHD=>k_is)
   (case kHD=>k_is)
   (case pgH=>k_is)
   (case hdH=>k_is)
   (case poH=>k_is)
   (case saH=>k_is)
   (case mkH=>k_is)
   (case kcH=>k_is)
   (case naH_first_shades=>k_is)
   (case naH_day_now=>k_is)
   (case naH_standing=>k_is)
   (case naH_books_from=>k_is)
   (case aGd=>k_is)
   (case lGd=>k_is)
   (case cGd=>k_is)
   (case kGd=>k_is)
   (case aCn=>k_is)
   (case lCn=>k_is)
   (case cCn=>k_is)
   (case kCn=>k_is)
   (case aCs=>k_is)
   (case lCs=>k_is)
   (case cCs=>k_is)
   (case kCs=>k_is)
   (case aCo=>k_is)
   (case lCo=>k_is)
   (case cCo=>k_is)
   (case kCo=>k_is)
   (case aCb=>k_is)
   (case lCb=>k_is)
   (case cCb=>k_is)
   (case kCb=>k_is)
   (case aCD=>k_is)
   (case lCD=>k_is)
   (case cCD=>k_is)
   (case kCD=>k_is)
   (case aA=>k_is)
   (case lA=>k_is)
   (case cA=>k_is)
   (case kA=>k_is)
   (case aD=>k_is)
   (case lD=>k_is)
   (case cD=>k_is)
   (case kD=>k_is)
   (case aN=>k_is)
   (case lN=>k_is)
   (case cN=>k_is)
   (case kN=>k_is)
   (case aNs=>k_is)
   (case lNs=>k_is)
   (case cNs=>k_is)
   (case kNs=>k_is)
   (case aTu=>k_is)
   (case lTu=>k_is)
   (case cTu=>k_is)
   (case kTu=>k_is)
   (case aOu=>k_is)
   (case lOu=>k_is)
   (case cOu=>k_is)
   (case kOu=>k_is)
   (case aSh=>k_is)
   (case lSh=>k_is)
   (case cSh=>k_is)
   (case kSh=>k_is)
   (case aNd=>k_is)
   (case lNd=>k_is)
   (case cNd=>k_is)
   (case kNd=>k_is)
   (case aSz=>k_is)
   (case lSz=>k_is)
   (case cSz=>k_is)
   (case kSz=>k_is)
   (case aTa=>k_is)
   (case lTa=>k_is)
   (case cTa=>k_is)
   (case kTa=>k_is)
   (case aHd=>k_is)
   (case lHd=>k_is)
   (case cHd=>k_is)
   (case kHd=>k_is)
   (case aTI=>k_is)
   (case lTI=>k_is)
   (case cTI=>k_is)
   (case kTI=>k_is)
   (case aRw=>k_is)
   (case lRw=>k_is)
   (case cRw=>k_is)
   (case kRw=>k_is)
   (case aAE=>k_is)
   (case lAE=>k_is)
   (case cAE=>k_is)
   (case kAE=>k_is)
   (case aWR=>k_is)
   (case lWR=>k_is)
   (case cWR=>k_is)
   (case kWR=>k_is)
   (case aWB=>k_is)
   (case lWB=>k_is)
   (case cWB=>k_is)
   (case kWB=>k_is)
   (case aBO=>k_is)
   (case lBO=>k_is)
   (case cBO=>k_is)
   (case kBO=>k_is)
   (case aLO=>k_is)
   (case lLO=>k_is)
   (case cLO=>k_is)
   (case kLO=>k_is)
   (case aRB=>k_is)
   (case lRB=>k_is)
   (case cRB=>k_is)
   (case kRB=>k_is)
   (case aTx=>k_is)
   (case lTx=>k_is)
   (case cTx=>k_is)
   (case kTx=>k_is)
   (case aCk=>k_is)
   (case lCk=>k_is)
   (case cCk=>k_is)
   (case kCk=>k_is)
   (case aCL=>k_is)
   (case lCL=>k_is)
   (case cCL=>k_is)
   (case kCL=>k_is)
   (case aWa=>k_is)
   (case lWa=>k_is)
   (case cWa=>k_is)
   (case kWa=>k_is)
   (case aTo=>k_is)
   (case lTo=>k_is)
   (case cTo=>k_is)
   (case kTo=>k_is)
   (case aTh=>k_is)
   (case lTh=>k_is)
   (case cTh=>k_is)
   (case kTh=>k_is)
   (case aBT=>k_is)
   (case lBT=>k_is)
   (case cBT=>k_is)
   (case kBT=>k_is)
   (case aTG=>k_is)
   (case lTG=>k_is)
   (case cTG=>k_is)
   (case kTG=>k_is)
   (case aTK=>k_is)
   (case lTK=>k_is)
   (case cTK=>k_is)
   (case kTK=>k_is)
   (case aPr=>k_is)
   (case lPr=>k_is)
   (case cPr=>k_is)
   (case kPr=>k_is)
   (case aLo=>k_is)
   (case lLo=>k_is)
   (case cLo=>k_is)
   (case kLo=>k_is)
   (case aBA=>k_is)
   (case lBA=>k_is)
   (case cBA=>k_is)
   (case kBA=>k_is)
   (case aB1=>k_is)
   (case lB1=>k_is)
   (case cB1=>k_is)
   (case kB1=>k_is)
   (case aL=>k_is)
   (case lL=>k_is)
   (case cL=>k_is)
   (case kL=>k_is)
   (case aNoDay=>k_is)
   (case exND=>k_exc)
   (case elND=>k_is)
   (case egND=>k_is)
   (case etND=>k_is)
   (case eaND=>k_is)
   (case emND=>k_is)
   (case ebND=>k_is)
   (case aLate=>k_is)
   (case exLa=>k_exc)
   (case elLa=>k_is)
   (case egLa=>k_is)
   (case etLa=>k_is)
   (case eaLa=>k_is)
   (case emLa=>k_is)
   (case ebLa=>k_is)
   (case aNoCloth=>k_is)
   (case exNC=>k_exc)
   (case elNC=>k_is)
   (case egNC=>k_is)
   (case etNC=>k_is)
   (case eaNC=>k_is)
   (case emNC=>k_is)
   (case ebNC=>k_is)
   (case aKnown=>k_is)
   (case exKn=>k_exc)
   (case elKn=>k_is)
   (case egKn=>k_is)
   (case etKn=>k_is)
   (case eaKn=>k_is)
   (case emKn=>k_is)
   (case ebKn=>k_is)
   (case aBadName=>k_is)
   (case exBN=>k_exc)
   (case elBN=>k_is)
   (case egBN=>k_is)
   (case etBN=>k_is)
   (case eaBN=>k_is)
   (case emBN=>k_is)
   (case ebBN=>k_is)
   (case aFull=>k_is)
   (case exFu=>k_exc)
   (case elFu=>k_is)
   (case egFu=>k_is)
   (case etFu=>k_is)
   (case eaFu=>k_is)
   (case emFu=>k_is)
   (case ebFu=>k_is)
   (case aNoBath=>k_is)
   (case exNB=>k_exc)
   (case elNB=>k_is)
   (case egNB=>k_is)
   (case etNB=>k_is)
   (case eaNB=>k_is)
   (case emNB=>k_is)
   (case ebNB=>k_is)
   (case aNoShade=>k_is)
   (case exNS=>k_exc)
   (case elNS=>k_is)
   (case egNS=>k_is)
   (case etNS=>k_is)
   (case eaNS=>k_is)
   (case emNS=>k_is)
   (case ebNS=>k_is)
   (case eN1=>k_is)
   (case eT1=>k_is)
   (case zlen=>k_is)
   (case zall=>k_is)
   (case zrange=>k_is)
   (case zisinstance=>k_is)
   (case zlist=>k_is)
   (case zstr=>k_is)
   (case zsorted=>k_is)
   (case ztuple=>k_is)
   (case zdict=>k_is)
   (case zzip=>k_is)
   (case zset=>k_is)
   (case zmin=>k_is)
   (case zint=>k_is)
   (case zmax=>k_is)
   (case zbool=>k_is)
   (case vlett=>k_is)
   (case vlong=>k_is)
   (case vmostS=>k_is)
   (case vmostB=>k_is)
   (case vmostR=>k_is)
   (case vfday=>k_is)
   (case vlday=>k_is)
   (case vmostC=>k_is)
   (case vmostD=>k_is)

