import PyProof.Rows.All
import Wide.All
import OpenK.AllK
import Wide.FinOn
import Lean
import PyProof.EqAt
import PyProof.EqKinds
import PyProof.TupleCall
import PySem.Challenge.RW_dipmaps_k38_whole_days
set_option Elab.async false
set_option linter.all false
set_option compiler.extract_closed false
set_option maxRecDepth 100000
open List renaming length_map→be,getElem?_eq_getElem→zN,getElem?_map→zO,length_append→zP,getD_eq_getElem?_getD→zQ,mem_of_getElem?→zS,getElem?_append_right→zT,map_append→zU,length_singleton→zV,range→zW,getElem?_append_left→zY,mem_cons_self→zZ,size_toArray→z6,mem_cons_of_mem→z7,replicate→z8,map_cons→Ac,length_take→Af,dropLast_concat_getLast→Ah,mem_append_right→Ai,lookup→Aj,lookup_cons→Al,mem_map_of_mem→Ao,map_map→Av,not_mem_nil→Ax,length_cons→Az,mem_cons→AE,take_of_length_le→AH,take_length→AI,getElem?_of_mem→AJ,getLast?_eq_some_getLast→AL,length_dropLast→AM,append_nil→AO,getElem_mem→AR,filter_append→AW,mem_append_left→AX,length_drop→AY,filter_cons_of_pos→AZ,length_range→A1,length_filter_le→A4,zip_cons_cons→A5,find?_cons→A9,getElem?_eq_none→Be,dropLast_sublist→Bf,range_succ→Bg,filter_nil→Bh,append_assoc→Bj,map_nil→Bl,any_cons→Bm,replicate_succ→Bn,pairwise_singleton→Bp,getLast_eq_getElem→Br,map_singleton→Bt,length_zip→Bu,take_sublist→Bv,take_succ→Bw,pairwise_append→Bx,mem_of_mem_take→Bz,perm_ext_iff_of_nodup→BB,filterMap_cons→BD,length_erase_of_mem→BE,foldl_cons→BF,nodup_cons→BH,filter_cons_of_neg→BJ,getElem?_set_self→BK,flatten_cons→BM,length_pos_of_mem→BN,filter_eq_nil_iff→BP,dropLast_eq_take→BR,getElem?_set_ne→BU,mem_erase_of_ne→BV,length_nil→BX,forIn_cons→BZ,getElem?_range→B5,getElem?_drop→Ca,getElem?_take→Cb,length→Cf,foldl_append→Ch,ext_getElem?→Ci,all_cons→Cj,of_mem_zip→Cs,length_set→Ct,nodup_nil→Cw,all_map→CD,foldl→CJ
open PySem.Str renaming ofString→zM,empty→BI
open Nat renaming le_refl→zR,ne_of_lt→Aa,lt_of_lt_of_le→Ae,sub_self→AC,zero_le→AF,le_trans→AG,lt_succ_of_lt→A6,lt_irrefl→Bb,lt_succ_self→Bo,ne_of_gt→BL,lt_of_succ_lt→BO,lt_of_le_of_lt→B9,le_of_not_lt→Cn,le_add_right→Co,le_of_lt→Cp,le_succ→Cu,le_of_eq→CC,min_self→CF,succ_pos→CG
open PySem renaming boot_len→zX,mem_of_lookup→A2,call→CK
open PySem.F renaming excBase_ValueError→z9,plainAttrs_list→Ap,slot_list_append→AA,type_list_append→AB
open Array renaming getElem?_eq_getElem→Ab,length_toList→Aw,getD_eq_getD_getElem?→Ay,getElem?_toList→A3
open PySem.W renaming kitOne→Ag,mg_of→Ak,nsIn→Am,mg_none_of→An,kia_one→AN,emptyDict→AU,findIn→AV,instObj→A8,keepIn→Bc,fnOf→Bs,methodCall_KW→BQ,plainGet→BS,makesIn→BW,hideAll_get→B1,plainGet_of→B3,lookIn→B7,callWith_K→B8,methodObj→Cd,hasDictIn→Ce,takerIn→Cr,codeIn→Cv,excIn→Cz,isFn→CA
open PyProof.Rows renaming sortedS→Aq,callWith_type1→Ba,envOfC→Cy
open Int renaming toNat_natCast→Au,emod_lt_of_pos→AK,emod_nonneg→AQ,eq_ofNat_of_zero_le→A7,toNat→Bq,le_refl→BA,toNat_of_nonneg→B6,le_trans→Cq
open Option renaming getD_some→BC,map_some→BG,isSome_map→Cg,getD_none→Ck
local macro_rules | `(tactic| decide) => `(tactic| decide +kernel)
set_option hygiene false in
local macro_rules | `(tactic| omega) => `(tactic| first | exact Nat.le_trans (by decide) hs | decide | omega +splitDisjunctions)
namespace L2
open PySem PySem.Spec PyProof.Rows
abbrev Key:=Sum Int Str
def jc:Key→Value→Bool
 | .inl k,v=>Value.isInt k v
 | .inr x,v=>Value.isStrOf x v
def zC (w:World):Key→Int
 | .inl k=>hashInt k
 | .inr x=>hashStr w x
theorem bF:∀ {k:Key}{v:Value},jc k v=true→(∃ i t,k=Sum.inl i∧v=Value.int i t)∨(∃ x t,k=Sum.inr x∧v=Value.str x t)
 | .inl i,v,h=>by
   obtain⟨t,e⟩:=Value.isInt_shape (k:=i) (v:=v) h;exact .inl ⟨i,t,rfl,e⟩
 | .inr x,v,h=>by
   obtain⟨t,e⟩:=Value.isStrOf_shape (x:=x) (v:=v) h;exact .inr ⟨x,t,rfl,e⟩
theorem tS (i:Int)(t:Tok):jc (.inl i) (.int i t)=true:=by simp[jc,Value.isInt]
theorem tF (x:Str)(t:Tok):jc (.inr x) (.str x t)=true:=by simp[jc,Value.isStrOf]
theorem yb (a b:Int):decide ((Sum.inl a:Key)=Sum.inl b)=(a==b):=by
 by_cases e:a=b
 . subst e;simp
 . have h:¬(Sum.inl a:Key)=Sum.inl b:=fun q=>e (Sum.inl.inj q);rw[decide_eq_false h];exact(beq_eq_false_iff_ne.mpr e).symm
theorem x0 (a b:Str):decide ((Sum.inr a:Key)=Sum.inr b)=decide (a=b):=by
 by_cases e:a=b
 . subst e;simp
 . have h:¬(Sum.inr a:Key)=Sum.inr b:=fun q=>e (Sum.inr.inj q);rw[decide_eq_false h,decide_eq_false e]
theorem yy (a:Int) (b:Str):decide ((Sum.inl a:Key)=Sum.inr b)=false:=decide_eq_false (fun q=>nomatch q)
theorem xI (a:Str) (b:Int):decide ((Sum.inr a:Key)=Sum.inl b)=false:=decide_eq_false (fun q=>nomatch q)
def bJ (prog:Program)(w:World):PySem.KeyKind prog w Key where
 is:=jc
 hash:=zC w
 inj:=fun v a b ha hb=>by
   rcases bF ha with ⟨i,t,rfl,rfl⟩ | ⟨x,t,rfl,rfl⟩
   . rcases bF hb with ⟨j,u,rfl,e⟩ | ⟨y,u,rfl,e⟩
     . injection e with e1 _;rw[e1]
     . exact nomatch e
   . rcases bF hb with ⟨j,u,rfl,e⟩ | ⟨y,u,rfl,e⟩
     . exact nomatch e
     . injection e with e1 _;rw[e1]
 byValue:=fun k v h=>by
   rcases bF h with ⟨i,t,rfl,rfl⟩ | ⟨x,t,rfl,rfl⟩<;>rfl
 pyHash:=fun hv h=>by
   rcases bF hv with ⟨i,t,rfl,rfl⟩ | ⟨x,t,rfl,rfl⟩
   . exact wpAny_pyHash_int h
   . exact wpAny_pyHash_str h
 eqBool:=fun hu hv h=>by
   rcases bF hu with ⟨i,t,rfl,rfl⟩ | ⟨x,t,rfl,rfl⟩
   . rcases bF hv with ⟨j,u,rfl,rfl⟩ | ⟨y,u,rfl,rfl⟩
     . rw[yb] at h;exact wpAny_eqBool_int h
     . rw[yy] at h;exact SeqAt.EqAt.int_str i t y u _ _ _ _ h
   . rcases bF hv with ⟨j,u,rfl,rfl⟩ | ⟨y,u,rfl,rfl⟩
     . rw[xI] at h;exact SeqAt.EqAt.str_int x t j u _ _ _ _ h
     . rw[x0] at h;exact wpAny_eqBool_str h
 «strs»:=fun k x t v h=>by
   rcases bF h with ⟨i,u,rfl,e⟩ | ⟨y,u,rfl,e⟩
   . exact nomatch e
   . injection e with e1 _
     subst e1;cases v<;>rfl
theorem nZ (prog:Program)(w:World) (i:Int)(t:Tok):(bJ prog w).is (.inl i) (.int i t)=true:=tS i t
theorem je (prog:Program)(w:World) (x:Str)(t:Tok):(bJ prog w).is (.inr x) (.str x t)=true:=tF x t
inductive V where
 | non | bl (b:Bool) | int (i:Int) | str (x:Str) | byt (b:Array UInt8) | flt (b:UInt64) | ref (a:Addr) | ty (n:String)
 deriving DecidableEq
def ba:V→Value→Prop
 | .non,u=>u=Value.none
 | .bl b,u=>u=Value.bool b
 | .int i,u=>∃ t,u=Value.int i t
 | .str x,u=>∃ t,u=Value.str x t
 | .byt b,u=>∃ t,u=Value.bytes b t
 | .flt b,u=>∃ t,u=Value.float b t
 | .ref a,u=>u=Value.ref a
 | .ty n,u=>u=Value.type n
abbrev Vals:List V→List Value→Prop:=Paired ba
theorem Vals.length {xs:List V}{us:List Value}(r:Vals xs us):xs.length=us.length:=Paired.length r
theorem Vals.get:∀ {xs:List V}{us:List Value}{i:Nat}{x:V},Vals xs us→xs[i]?=some x→∃ u,us[i]?=some u∧ba x u
 | _,_,_,_,.nil,e=>by simp at e
 | _,_,0,_,.cons r _,e=>by simp at e;subst e;exact⟨_,rfl,r⟩
 | _,_,i+1,x,.cons _ t,e=>by
   obtain⟨u,h1,h2⟩:=Vals.get (i:=i) (x:=x) t (by simpa using e);exact⟨u,by simpa using h1,h2⟩
theorem Vals.set {x:V}{u:Value}(r:ba x u):∀ {xs:List V}{us:List Value} (i:Nat),Vals xs us→Vals (xs.set i x) (us.set i u)
 | _,_,_,.nil=>.nil
 | _,_,0,.cons _ t=>.cons r t
 | _,_,i+1,.cons q t=>.cons q (Vals.set r i t)
theorem Vals.append:∀ {xs ys:List V}{us ws:List Value},Vals xs us→Vals ys ws→Vals (xs++ys) (us++ws)
 | _,_,_,_,.nil,s=>s
 | _,_,_,_,.cons r t,s=>.cons r (Vals.append t s)
theorem Vals.take:∀ {xs:List V}{us:List Value} (n:Nat),Vals xs us→Vals (xs.take n) (us.take n)
 | _,_,0,_=>.nil
 | _,_,_+1,.nil=>.nil
 | _,_,n+1,.cons r t=>.cons r (Vals.take n t)
theorem Vals.drop:∀ {xs:List V}{us:List Value} (n:Nat),Vals xs us→Vals (xs.drop n) (us.drop n)
 | _,_,0,r=>r
 | _,_,_+1,.nil=>.nil
 | _,_,n+1,.cons _ t=>Vals.drop n t
def gm:Option V→Option Value→Prop
 | some v,some u=>ba v u
 | none,none=>True
 | _,_=>False
def KV {κ:Type}:List (κ×V)→List (κ×Value)→Prop:=Paired fun(p:κ×V)(q:κ×Value)=>p.1=q.1∧ba p.2 q.2
def kV:Key→V
 | .inl i=>.int i
 | .inr x=>.str x
inductive HO where
 | lst (xs:List V)
 | tup (xs:List V)
 | dK (kvs:List (Key×V)) | dT (kvs:List (List Key×V))
 | set (S:Int→Bool) (n:Nat)
 | ins (C dx:Addr)(fs:List (Str×V))
 | own (x:Addr)
 | xd (fs:List (Str×V))
 | met (f x:Addr)
 | rng (lo hi:Int)
 | frz (o:Obj)(u:HO)
 | tbl (ps:Array Value)
 | ext (φ:Heap→Prop)
abbrev Hp:=Addr→Option HO
def upd (H:Hp)(a:Addr)(o:HO):Hp:=fun b=>if b=a then some o else H b
theorem ac {H:Hp}{a:Addr}{o:HO}:upd H a o a=some o:=by unfold upd;rw[if_pos rfl]
theorem ai {H:Hp}{a b:Addr}{o:HO}(h:b≠a):upd H a o b=H b:=by unfold upd;rw[if_neg h]
theorem gP {H:Hp}{a:Addr}{o u:HO}:upd (upd H a o) a u=upd H a u:=by
 funext b;unfold upd;split<;>rfl
theorem zw {H:Hp}{a b:Addr}{o u:HO}(h:H a=some o)(h':H b=some u)(d:o≠u):a≠b:=by
 intro e;subst e;rw[h] at h';exact d (Option.some.inj h')
theorem aF {H:Hp}{a b:Addr}{o:HO}(h:H a=some o)(h':H b=none):a≠b:=by
 intro e;subst e;rw[h] at h';cases h'
section
variable (P:Program)(w:World)
def bP (H:Hp)(h:Heap)(a:Addr):HO→Prop
 | .lst xs=>xs.length≤sizeLine∧∃ (its:List Value) (n:Nat),Vals xs its∧h.get? a=some { cls:=.type "list",data:=.seq its.toArray n }
 | .tup xs=>xs.length≤sizeLine∧∃ its:List Value,Vals xs its∧IsTup h a its.toArray
 | .dK kvs=>kvs.length≤sizeLine∧(a==sysModules)=false∧∃ vs,KV kvs vs∧h.DictOf (bJ P w) a vs
 | .dT kvs=>kvs.length≤sizeLine∧(a==sysModules)=false∧∃ xs:List (List Key×Addr×Value),
     Paired (fun(p:List Key×V)(q:List Key×Addr×Value)=>p.1=q.1∧H q.2.1=some (.tup (p.1.map kV))∧ba p.2 q.2.2) kvs xs ∧
     ∃ o es ep,h.get? a=some o∧o.ExactDict∧o.data=.dict es ep∧es.toList=xs.map (entryOfKey (tupleKind (bJ P w)))∧(xs.map (·.1)).Nodup
 | .set S n=>h.SetOf (intKind P w) a S n
 | .ins C dx fs=>H dx=some (.own a)∧fs.length≤1000∧dx≠a∧h.get? a=some (A8 C dx) ∧
     ∃ mA,h.Ns1 dx mA∧(∀ f,gm (fs.lookup f) (mA f))∧PySem.Within mA (fs.map (·.1))
 | .own _=>∃ o,h.get? a=some o
 | .xd fs=>∃ mA,h.Ns1 a mA∧∀ f,gm (fs.lookup f) (mA f)
 | .rng lo hi=>∃ t u v,h.get? a=some { cls:=.type "range",data:=.fields #[.int lo t,.int hi u,.int 1 v] }
 | .frz o u=>h.get? a=some o∧bP H h a u
 | .tbl ps=>h.get? a=some { cls:=.none,data:=.fields ps }
 | .met f x=>h.get? a=some (Cd (.ref f) (.ref x))
 | .ext φ=>φ h∧(∃ o,h.get? a=some o)∧∀ h1 h2:Heap,φ h1→(∀ o,h1.get? a=some o→h2.get? a=some o)→φ h2
def HOk (H:Hp)(h:Heap):Prop:=∀ a o,H a=some o→bP P w H h a o
end
section
variable {P:Program}{w:World}{H H':Hp}{h h':Heap}{a:Addr}{o:HO}
theorem bP.lt (x:bP P w H h a o):a < h.objs.size:=by
 cases o with
 | lst xs=>obtain⟨_,_,_,_,e⟩:=x;exact Heap.lt_size e
 | tup xs=>obtain⟨_,_,_,p⟩:=x;exact p.lt
 | dK kvs=>obtain⟨_,_,_,_,o,_,_,e,_⟩:=x;exact Heap.lt_size e
 | dT kvs=>obtain⟨_,_,_,_,o,_,_,e,_⟩:=x;exact Heap.lt_size e
 | set S n=>obtain⟨o,_,_,_,e,_⟩:=x;exact Heap.lt_size e
 | ins C dx fs=>obtain⟨_,_,_,e,_⟩:=x;exact Heap.lt_size e
 | own y=>obtain⟨_,e⟩:=x;exact Heap.lt_size e
 | xd fs=>obtain⟨_,⟨_,_,_,e,_⟩,_⟩:=x;exact Heap.lt_size e
 | rng lo hi=>obtain⟨_,_,_,e⟩:=x;exact Heap.lt_size e
 | frz ob u=>obtain⟨e,_⟩:=x;exact Heap.lt_size e
 | tbl ps=>exact Heap.lt_size (show h.get? a=some _ from x)
 | met f y=>exact Heap.lt_size (show h.get? a=some _ from x)
 | ext φ=>obtain⟨_,⟨_,e⟩,_⟩:=x;exact Heap.lt_size e
theorem Paired.mapP {α β:Type}{F G:α→β→Prop}:∀ {l₁:List α}{l₂:List β},Paired F l₁ l₂→(∀ a b,F a b→G a b)→Paired G l₁ l₂
 | _,_,.nil,_=>.nil
 | _,_,.cons r t,f=>.cons (f _ _ r) (Paired.mapP t f)
theorem bP.stay (x:bP P w H h a o)(k:∀ b u,(b=a∨H b=some (.own a))→h.get? b=some u→h'.get? b=some u)
   (ho:∀ b,H b=some (.own a)→H' b=some (.own a))(ht:∀ b xs,H b=some (.tup xs)→H' b=some (.tup xs)):bP P w H' h' a o:=by
 induction o with
 | lst xs=>obtain⟨z,its,n,r,e⟩:=x;exact⟨z,its,n,r,k _ _ (.inl rfl) e⟩
 | tup xs=>obtain⟨z,its,r,ob,e,c⟩:=x;exact⟨z,its,r,ob,k _ _ (.inl rfl) e,c⟩
 | dK kvs=>obtain⟨z,y,vs,r,ob,es,ep,e,c⟩:=x;exact⟨z,y,vs,r,ob,es,ep,k _ _ (.inl rfl) e,c⟩
 | dT kvs =>
   obtain⟨z,y,xs,r,ob,es,ep,e,c⟩:=x;exact⟨z,y,xs,Paired.mapP r fun p q z=>⟨z.1,ht _ _ z.2.1,z.2.2⟩,ob,es,ep,k _ _ (.inl rfl) e,c⟩
 | set S n=>obtain⟨ob,es,ep,t,e,c⟩:=x;exact⟨ob,es,ep,t,k _ _ (.inl rfl) e,c⟩
 | ins C dx fs =>
   obtain⟨d,z,ne,e,mA,⟨od,es,ep,e2,c⟩,r⟩:=x;exact⟨ho _ d,z,ne,k _ _ (.inl rfl) e,mA,⟨od,es,ep,k _ _ (.inr d) e2,c⟩,r⟩
 | own y=>obtain⟨ob,e⟩:=x;exact⟨ob,k _ _ (.inl rfl) e⟩
 | xd fs=>obtain⟨mA,⟨od,es,ep,e,c⟩,r⟩:=x;exact⟨mA,⟨od,es,ep,k _ _ (.inl rfl) e,c⟩,r⟩
 | rng lo hi=>obtain⟨t,u,v,e⟩:=x;exact⟨t,u,v,k _ _ (.inl rfl) e⟩
 | frz ob u ih=>obtain⟨e,q⟩:=x;exact⟨k _ _ (.inl rfl) e,ih q⟩
 | tbl ps =>
   have e:h.get? a=some { cls:=.none,data:=.fields ps }:=x;show h'.get? a=some { cls:=.none,data:=.fields ps };exact k a _ (.inl rfl) e
 | met f y =>
   have e:h.get? a=some (Cd (.ref f) (.ref y)):=x;show h'.get? a=some (Cd (.ref f) (.ref y));exact k a _ (.inl rfl) e
 | ext φ=>obtain⟨p,⟨o,e⟩,st⟩:=x;exact⟨st _ _ p fun o q=>k _ _ (.inl rfl) q,⟨o,k _ _ (.inl rfl) e⟩,st⟩
theorem HOk.lt (x:HOk P w H h)(e:H a=some o):a < h.objs.size:=(x a o e).lt
theorem HOk.fresh (x:HOk P w H h)(e:h.objs.size≤a):H a=none:=by
 cases q:H a with
 | none=>rfl
 | some u=>exact absurd (Ae (x.lt q) e) (Bb _)
theorem HOk.kept (x:HOk P w H h)(k:∀ b u,h.get? b=some u→h'.get? b=some u):HOk P w H h':=fun a o e =>
 (x a o e).stay (fun b u _ q=>k b u q) (fun _ q=>q) fun _ _ q=>q
theorem HOk.laid (x:HOk P w H h)(k:∀ b u,h.get? b=some u→h'.get? b=some u)(hp:h.objs.size≤a)(new:bP P w (upd H a o) h' a o):HOk P w (upd H a o) h':=fun b u e=>by
 have hn:=x.fresh hp;by_cases hb:b=a
 . subst hb;rw[ac] at e;cases e;exact new
 . rw[ai hb] at e
   exact(x b u e).stay (fun c v _ q=>k c v q) (fun c q=>by rw[ai (aF q hn)];exact q) fun c xs q=>by rw[ai (aF q hn)];exact q
end
def Rd (H:Hp)(a:Addr)(u:HO):Prop:=H a=some u∨∃ o,H a=some (.frz o u)
theorem Rd.ok {P:Program}{w:World}{H:Hp}{h:Heap}{a:Addr}{u:HO}(r:Rd H a u)(x:HOk P w H h):bP P w H h a u:=by
 rcases r with r | ⟨o,r⟩
 . exact x a u r
 . obtain⟨_,q⟩:=x a _ r;exact q
def Mut:Option HO→Prop
 | some (.lst _)=>True
 | some (.dK _)=>True
 | some (.dT _)=>True
 | some (.set _ _)=>True
 | some (.ins _ _ _)=>True
 | some (.ext _)=>True
 | _=>False
section
variable {P:Program}{w:World}{H:Hp}{h h':Heap}{x e:Addr}{o':HO}
theorem HOk.write (ok:HOk P w H h)(mu:Mut (H x))(he:e=x∨H e=some (.own x))(k:∀ b u,b≠e→h.get? b=some u→h'.get? b=some u)(heo:∃ u,h'.get? e=some u)
   (new:bP P w (upd H x o') h' x o'):HOk P w (upd H x o') h':=fun b u q=>by
 have nown:∀ c y,H c=some (.own y)→c≠x:=fun c y r z=>by subst z;rw[r] at mu;exact mu
 have ntup:∀ c xs,H c=some (.tup xs)→c≠x:=fun c xs r z=>by subst z;rw[r] at mu;exact mu
 by_cases hb:b=x
 . subst hb;rw[ac] at q;cases q;exact new
 . rw[ai hb] at q;by_cases hbe:b=e
   . have q':H b=some (.own x):=by
       rcases he with z | z
       . exact absurd (hbe.trans z) hb
       . rw[hbe];exact z
     rw[q] at q';cases q';obtain⟨v,hv⟩:=heo;exact⟨v,by rw[hbe];exact hv⟩
   . refine(ok b u q).stay (fun c v hc r=>k c v ?_ r) (fun c r=>by rw[ai (nown c b r)];exact r) fun c xs r=>by rw[ai (ntup c xs r)];exact r
     rcases hc with rfl | hc
     . exact hbe
     . rintro rfl
       rcases he with z | z
       . exact nown c b hc z
       . rw[hc] at z;cases z;exact hb rfl
end
structure Un (fs ex:List Addr)(H H':Hp)(h h':Heap):Prop where
 keep:∀ b o,h.get? b=some o→H b=none→b∉fs→b∉ex→h'.get? b=some o
 slot:∀ b o,h.get? b=some o→H b=none→b∈fs→b∉ex→∃ sl,h'.get? b=some { o with slots:=sl }
 free:∀ b o,h.get? b=some o→H b=none→b∉ex→H' b=none
 there:∀ b o,h.get? b=some o→b∉ex→∃ o',h'.get? b=some o'
 tups:∀ b xs,H b=some (.tup xs)→H' b=some (.tup xs)
 frzs:∀ b o u,H b=some (.frz o u)→H' b=some (.frz o u)
 tbls:∀ b ps,H b=some (.tbl ps)→∃ more,H' b=some (.tbl (ps++more))
section
variable {fs fs' ex ex':List Addr}{H H1 H2:Hp}{h h1 h2 h':Heap}{a x e:Addr}{o:HO}
theorem Un.any (u:Un fs ex H H1 h h1){b:Addr}{ob:Obj}(q:h.get? b=some ob)(n:H b=none)(hx:b∉ex):∃ sl,h1.get? b=some { ob with slots:=sl }:=by
 by_cases hb:b∈fs
 . exact u.slot b ob q n hb hx
 . exact⟨ob.slots,u.keep b ob q n hb hx⟩
theorem Un.kept (k:∀ b u,h.get? b=some u→h'.get? b=some u):Un fs ex H H h h' :=
 ⟨fun b ob q _ _ _=>k b ob q,fun b ob q _ _ _=>⟨ob.slots,k b ob q⟩,fun _ _ _ n _=>n,fun b ob q _=>⟨ob,k b ob q⟩,fun _ _ q=>q,fun _ _ _ q=>q,fun _ ps q=>⟨#[],by rw[q];simp⟩⟩
theorem Un.refl:Un fs ex H H h h:=Un.kept fun _ _ q=>q
theorem Un.laid (k:∀ b u,h.get? b=some u→h'.get? b=some u)(hp:h.objs.size≤a)(hn:H a=none):Un fs ex H (upd H a o) h h' where
 keep:=fun b u q _ _ _=>k b u q
 slot:=fun b u q _ _ _=>⟨u.slots,k b u q⟩
 free:=fun b u q n _=>by rw[ai (Aa (Ae (Heap.lt_size q) hp))];exact n
 there:=fun b u q _=>⟨u,k b u q⟩
 tups:=fun b xs q=>by rw[ai (aF q hn)];exact q
 frzs:=fun b u xs q=>by rw[ai (aF q hn)];exact q
 tbls:=fun b ps q=>⟨#[],by rw[ai (aF q hn),q];simp⟩
theorem Un.write (mu:Mut (H x))(he:e=x∨H e=some (.own x))(k:∀ b u,b≠e→h.get? b=some u→h'.get? b=some u)(heo:∃ u,h'.get? e=some u):Un fs ex H (upd H x o) h h':=by
 have hx:∀ b,H b=none→b≠x:=fun b n z=>by subst z;rw[n] at mu;exact mu
 have hb:∀ b,H b=none→b≠e:=fun b n z=>by
   subst z
   rcases he with r | r
   . exact hx b n r
   . rw[n] at r;cases r
 have hm:∀ b u,H b=some u→¬Mut (some u)→b≠x:=fun b u q nm z=>by subst z;rw[q] at mu;exact nm mu
 refine⟨fun b u q n _ _=>k b u (hb b n) q,fun b u q n _ _=>⟨u.slots,k b u (hb b n) q⟩,fun b u q n _=>by rw[ai (hx b n)];exact n,fun b u q _=>?_,
   fun b xs q=>by rw[ai (hm b _ q fun z=>z)];exact q,fun b u xs q=>by rw[ai (hm b _ q fun z=>z)];exact q,fun b ps q=>⟨#[],by rw[ai (hm b _ q fun z=>z),q];simp⟩⟩
 by_cases hbe:b=e
 . subst hbe;exact heo
 . exact⟨u,k b u hbe q⟩
end
def trk (h:Heap)(H:Hp):List Addr:=(zW h.objs.size).filter fun a=>(H a).isSome
def mQ (h:Heap)(H:Hp):Heap:=PySem.W.hideAll h (trk h H)
theorem tX (h:Heap)(H:Hp):(mQ h H).objs.size=h.objs.size:=PySem.W.hideAll_size _ _
theorem vV {h:Heap}{H:Hp}{b:Addr}{o:Obj}(e:h.get? b=some o)(n:H b=none):(mQ h H).get? b=some o :=
 B1 _ e fun hm=>by
   have q:(H b).isSome=true:=(List.mem_filter.mp hm).2;rw[n] at q;simp at q
theorem wW {h:Heap}{H:Hp}{b:Addr}{o:Obj}(e:(mQ h H).get? b=some o):h.get? b=some o∧H b=none:=by
 have e':h.get? b=some o:=PySem.W.of_hideAll (trk h H) e;refine⟨e',?_⟩
 cases q:H b with
 | none=>rfl
 | some x =>
   have hm:b∈trk h H:=List.mem_filter.mpr ⟨List.mem_range.mpr (Heap.lt_size e'),by simp[q]⟩;have z:(mQ h H).get? b=none:=PySem.W.hideAll_none (trk h H) hm;rw[z] at e;cases e
def wT (g h:Heap)(L:Addr):List (Addr×Obj):=(zW h.objs.size).filterMap fun a=>if a=L∨(g.get? a).isSome=true then none else(h.get? a).map fun o=>(a,o)
def cE (g h:Heap)(L d:Addr):List (Addr×Obj):=(wT g h L).filter fun p=>decide (p.1≠d)
structure Mod (K:PySem.W.Frag)(mg:Str→Option Value)(base:Heap):Prop where
 kin:K.In base
 glob:base.Ns mainGlobals mg
 blt:∃ mb,base.Ns builtinsNs mb∧∀ x:Str,x≠"__name__"→mb x=bootBuiltins x
 nolimit:base.NoLimit
structure Cx where
 prog:Program
 w:World
 K:PySem.W.Frag
 mg:Str→Option Value
 base:Heap
 A:Around
 N:List Str
 s₀:Shared
 H₀:Hp
 env:Env
 outer:List Env
 stack:List Env
 ex:List Addr
 fn:Str→Bool
 calm:Bool
 pn:List (Addr×Obj)
 xe:Value→Shared→Prop
def frs (l:List Env):List Addr:=l.filterMap (·.frame)
abbrev Cx.fs (X:Cx):List Addr:=frs X.outer
def Vis (sc:Scope) (x:Str):Prop:=sc.names.lookup x=some .local∨sc.names.lookup x=some .cell∨sc.names.lookup x=some .free
def Loc (sc:Scope) (x:Str):Prop:=sc.names.lookup x=some .local∨sc.names.lookup x=some .cell
def zK (env:Env)(h:Heap)(m:Str→Option Value) (x:Str) (u:Value):Prop :=
 (env.kindOf x=some .local∧m x=some u)∨((env.kindOf x=some .cell∨env.kindOf x=some .free)∧∃ c,env.cells.lookup x=some c∧h.IsCell c (some u))
structure Cx.Ok (X:Cx):Prop where
 mod:Mod X.K X.mg X.base
 kind:X.env.scope.kind=.function
 glob:X.env.globals=mainGlobals
 blt:X.env.builtins=builtinsNs
 above:X.s₀.heap.objs.size≤X.env.locals
 inj:∀ x y c,X.env.cells.lookup x=some c→X.env.cells.lookup y=some c→x=y
 has:∀ x,(X.env.kindOf x=some .cell∨X.env.kindOf x=some .free)→∃ c,X.env.cells.lookup x=some c
 cab:∀ x c,X.fn x=true→X.env.cells.lookup x=some c→X.s₀.heap.objs.size≤c
 hd:X.calm=true→X.A.handled=none
 frames:X.A.frames=some X.stack
 stk:X.stack=X.outer∨(X.stack=X.env::X.outer∧X.env.frame=some X.env.locals)
 exf:∀ b∈X.ex,b≠X.env.locals∧∀ x c,X.env.cells.lookup x=some c→c≠b
 bs:∀ b o,X.base.get? b=some o→X.s₀.heap.get? b=some o∧X.H₀ b=none
 bsz:X.base.objs.size≤X.s₀.heap.objs.size
 noex:∀ b o,X.base.get? b=some o→b∉X.ex
 exfs:∀ b∈X.ex,b∉X.fs
 funs:X.s₀.heap.FunFrames X.base X.outer
 frf:∀ b∈X.fs,X.H₀ b=none
structure Inv (X:Cx)(pins:List (Addr×Obj))(σ:List (Option V))(H:Hp)(s:Shared):Prop where
 ok:X.Ok
 os:s.os=X.s₀.os
 bare:AllBare s.gens
 base:Un X.fs X.ex X.H₀ H X.s₀.heap s.heap
 loc:∃ m,s.heap.Ns X.env.locals m∧∀ (i:Nat) (x:Str) (v:V),X.N[i]?=some x→σ[i]?=some (some v)→Vis X.env.scope x→∃ u,ba v u∧zK X.env s.heap m x u
 cell:∀ x c,X.env.cells.lookup x=some c→∃ v,s.heap.IsCell c v
 free:H X.env.locals=none
 freeC:∀ x c,X.env.cells.lookup x=some c→H c=none
 pin:∀ p∈X.pn++pins,s.heap.get? p.1=some p.2∧H p.1=none∧p.1≠X.env.locals∧p.1∉X.fs∧∀ v,p.2.data≠.cell v
 hok:HOk X.prog X.w H s.heap
 len:σ.length=X.N.length
section
variable {X:Cx}{pins:List (Addr×Obj)}{σ:List (Option V)}{H H':Hp}{s:Shared}{h':Heap}
theorem Cx.Ok.nofr (ok:X.Ok){b:Addr}{o:Obj}(e:X.base.get? b=some o):b∉X.fs:=fun hb=>by
 have:=(ok.funs.mem hb).1;rw[e] at this;cases this
theorem Inv.bs (I:Inv X pins σ H s):∀ b o,X.base.get? b=some o→s.heap.get? b=some o∧H b=none:=fun b o e =>
 ⟨I.base.keep b o (I.ok.bs b o e).1 (I.ok.bs b o e).2 (I.ok.nofr e) (I.ok.noex b o e),I.base.free b o (I.ok.bs b o e).1 (I.ok.bs b o e).2 (I.ok.noex b o e)⟩
theorem Inv.bk (I:Inv X pins σ H s):∀ b o,X.base.get? b=some o→s.heap.get? b=some o:=fun b o e=>(I.bs b o e).1
theorem Inv.mod (I:Inv X pins σ H s):Mod X.K X.mg X.base:=I.ok.mod
theorem Inv.kIn (I:Inv X pins σ H s):X.K.In s.heap:=I.ok.mod.kin.keeps I.bk
theorem Inv.lt (I:Inv X pins σ H s):X.env.locals < s.heap.objs.size:=let ⟨_,hn,_⟩:=I.loc;hn.lt
theorem Inv.sz (I:Inv X pins σ H s):X.s₀.heap.objs.size≤s.heap.objs.size:=AG I.ok.above (Cp I.lt)
theorem Inv.nofs (I:Inv X pins σ H s){a:Addr}(h:s.heap.objs.size≤a):a∉X.fs:=fun hb=>by
 obtain⟨_,o,ho,_⟩:=I.ok.funs.mem hb;exact absurd (Ae (Heap.lt_size ho) (AG I.sz h)) (Bb _)
theorem Inv.cne (I:Inv X pins σ H s):∀ x c,X.env.cells.lookup x=some c→c≠X.env.locals:=fun x c e z=>by
 obtain⟨v,o,ho,hd⟩:=I.cell x c e;obtain⟨m,⟨o',es,ep,ho',hd',_⟩,_⟩:=I.loc;rw[z,ho'] at ho;cases ho;rw[hd'] at hd;cases hd
theorem Inv.funs (I:Inv X pins σ H s):s.heap.FunFrames X.base X.outer:=by
 have all:∀ (l:List Env),(∀ b∈frs l,b∈X.fs)→X.s₀.heap.FunFrames X.base l→s.heap.FunFrames X.base l:=by
   intro l
   induction l with
   | nil=>intro _ _;trivial
   | cons env r ih =>
     intro hs hl;obtain⟨hk,⟨L,o,hf,hn,ho,hd⟩,hr⟩:=hl;have hL:L∈X.fs:=hs L (by unfold frs;rw[BD,hf];exact zZ);obtain⟨sl,e⟩:=I.base.slot L o ho (I.ok.frf L hL) hL fun z=>I.ok.exfs L z hL;exact⟨hk,⟨L,_,hf,hn,e,hd⟩,ih (fun b hb=>hs b (by unfold frs;rw[BD,hf];exact z7 _ hb)) hr⟩
 exact all X.outer (fun _ hb=>hb) I.ok.funs
theorem Inv.stack (I:Inv X pins σ H s):s.heap.FunFrames X.base X.stack:=by
 rcases I.ok.stk with e | ⟨e,hf⟩
 . rw[e];exact I.funs
 . rw[e];obtain⟨m,hn,_⟩:=I.loc;refine .cons (by rw[I.ok.kind];decide) hf hn ?_ I.funs;exact Heap.get?_none_of_le (AG I.ok.bsz I.ok.above)
theorem Inv.stkSub (I:Inv X pins σ H s):∀ b∈frs X.stack,b∈X.env.locals::X.fs:=fun b hb=>by
 rcases I.ok.stk with e | ⟨e,hf⟩
 . rw[e] at hb;exact z7 _ hb
 . rw[e] at hb;unfold frs at hb;rw[BD,hf] at hb;exact hb
theorem Inv.stkFree (I:Inv X pins σ H s):∀ b∈frs X.stack,H b=none:=fun b hb=>by
 rcases List.mem_cons.mp (I.stkSub b hb) with e | hb
 . rw[e];exact I.free
 . obtain⟨_,o,ho,_⟩:=I.ok.funs.mem hb;exact I.base.free b o ho (I.ok.frf b hb) fun z=>I.ok.exfs b z hb
theorem Inv.step {g':Array GenState}{t':Nat}{d':Drawn}{ch:List Addr}(I:Inv X pins σ H s)
   (hch:∀ b∈ch,(b∈X.ex∨X.s₀.heap.objs.size≤b)∧b≠X.env.locals∧(∀ x c,X.env.cells.lookup x=some c→c≠b)∧∀ p∈X.pn++pins,p.1≠b)
   (keep:∀ b o,b≠X.env.locals→b∉X.fs→b∉ch→s.heap.get? b=some o→H b=none→h'.get? b=some o)
   (slot:∀ b o,b≠X.env.locals→b∈X.fs→b∉ch→s.heap.get? b=some o→H b=none→∃ sl,h'.get? b=some { o with slots:=sl })(free:∀ b o,b∉ch→s.heap.get? b=some o→H b=none→H' b=none)
   (there:∀ b o,b∉ch→s.heap.get? b=some o→∃ o',h'.get? b=some o')
   (tups:∀ b xs,H b=some (.tup xs)→H' b=some (.tup xs))(frzs:∀ b o u,H b=some (.frz o u)→H' b=some (.frz o u))(tbls:∀ b ps,H b=some (.tbl ps)→∃ more,H' b=some (.tbl (ps++more)))
   (ns:∀ m,s.heap.Ns X.env.locals m→h'.Ns X.env.locals m)(hok:HOk X.prog X.w H' h')(hg:AllBare g') :
   Inv X pins σ H' { s with heap:=h',gens:=g',drawn:=d',toks:=t' }:=by
 have neL:∀ b o,X.s₀.heap.get? b=some o→b≠X.env.locals:=fun b o e=>Aa (Ae (Heap.lt_size e) I.ok.above)
 have neC:∀ b o,X.s₀.heap.get? b=some o→b∉X.ex→b∉ch:=fun b o e hx hb=>by
   rcases(hch b hb).1 with z | z
   . exact hx z
   . exact absurd (Ae (Heap.lt_size e) z) (Bb _)
 have cellK:∀ x c,X.env.cells.lookup x=some c→∀ v,s.heap.IsCell c v→h'.IsCell c v:=fun x c e v ⟨o,ho,hd⟩=>by
   have nch:c∉ch:=fun z=>(hch c z).2.2.1 x c e rfl;by_cases hc:c∈X.fs
   . obtain⟨sl,q⟩:=slot c o (I.cne x c e) hc nch ho (I.freeC x c e);exact⟨_,q,hd⟩
   . exact⟨o,keep c o (I.cne x c e) hc nch ho (I.freeC x c e),hd⟩
 refine⟨I.ok,I.os,hg,⟨fun b o e n hb hx=>?_,fun b o e n hb hx=>?_,fun b o e n hx=>?_,fun b o e hx=>?_,fun b xs e=>tups b xs (I.base.tups b xs e),fun b o xs e=>frzs b o xs (I.base.frzs b o xs e),fun b ps e=>?_⟩,?_,fun x c e=>?_,?_,fun x c e=>?_,fun p hp=>?_,hok,I.len⟩
 . exact keep b o (neL b o e) hb (neC b o e hx) (I.base.keep b o e n hb hx) (I.base.free b o e n hx)
 . obtain⟨sl,e1⟩:=I.base.slot b o e n hb hx;obtain⟨sl',e2⟩:=slot b _ (neL b o e) hb (neC b o e hx) e1 (I.base.free b o e n hx);exact⟨sl',e2⟩
 . obtain⟨o',e1⟩:=I.base.there b o e hx;exact free b o' (neC b o e hx) e1 (I.base.free b o e n hx)
 . obtain⟨o',e1⟩:=I.base.there b o e hx;exact there b o' (neC b o e hx) e1
 . obtain⟨m1,e1⟩:=I.base.tbls b ps e;obtain⟨m2,e2⟩:=tbls b _ e1;exact⟨m1++m2,by rw[e2,Array.append_assoc]⟩
 . obtain⟨m,hn,hl⟩:=I.loc;refine⟨m,ns m hn,fun i x v e1 e2 e3=>?_⟩;obtain⟨u,r,l⟩:=hl i x v e1 e2 e3;refine⟨u,r,?_⟩
   rcases l with l | ⟨k,c,e,z⟩
   . exact .inl l
   . exact .inr ⟨k,c,e,cellK x c e _ z⟩
 . obtain⟨v,z⟩:=I.cell x c e;exact⟨v,cellK x c e v z⟩
 . obtain⟨m,⟨o,_,_,ho,_⟩,_⟩:=I.loc;exact free _ o (fun z=>(hch _ z).2.1 rfl) ho I.free
 . obtain⟨v,o,ho,hd⟩:=I.cell x c e;exact free c o (fun z=>(hch c z).2.2.1 x c e rfl) ho (I.freeC x c e)
 . obtain⟨e,n,ne,nf,d⟩:=I.pin p hp;have nch:p.1∉ch:=fun z=>(hch p.1 z).2.2.2 p hp rfl;exact⟨keep p.1 p.2 ne nf nch e n,free p.1 p.2 nch e n,ne,nf,d⟩
theorem Inv.un {t':Nat}(I:Inv X pins σ H s)(u:Un X.fs [] H H' s.heap h')(hok:HOk X.prog X.w H' h'):Inv X pins σ H' { s with heap:=h',toks:=t' }:=by
 obtain⟨m,⟨o,es,ep,ho,r⟩,_⟩:=id I.loc;obtain⟨sl,hL⟩:=u.any ho I.free (by simp)
 exact I.step (g':=s.gens) (d':=s.drawn) (ch:=[]) (fun _ z=>nomatch z) (fun b o _ hb _ e n=>u.keep b o e n hb (by simp)) (fun b o _ hb _ e n=>u.slot b o e n hb (by simp)) (fun b o _ e n=>u.free b o e n (by simp)) (fun b o _ e=>u.there b o e (by simp)) u.tups u.frzs u.tbls (fun m' hm=>by
   obtain⟨o',es',ep',ho',r'⟩:=hm;rw[ho] at ho';cases ho'
   exact⟨_,es',ep',hL,r'⟩) hok I.bare
theorem Inv.call {g':Array GenState}{t':Nat}{d':Drawn}{ch:List Addr}(I:Inv X pins σ H s)(u:Un (frs X.stack) ch H H' s.heap h')(hok:HOk X.prog X.w H' h')(hg:AllBare g')
   (hch:∀ b∈ch,(b∈X.ex∨X.s₀.heap.objs.size≤b)∧b≠X.env.locals∧(∀ x c,X.env.cells.lookup x=some c→c≠b)∧∀ p∈X.pn++pins,p.1≠b) :
   Inv X pins σ H' { s with heap:=h',gens:=g',drawn:=d',toks:=t' }:=by
 obtain⟨m,⟨o,es,ep,ho,r⟩,_⟩:=id I.loc;obtain⟨sl,hL⟩:=u.any ho I.free fun z=>(hch _ z).2.1 rfl
 exact I.step (ch:=ch) hch (fun b o hL hb hc e n=>u.keep b o e n (fun z=>(List.mem_cons.mp (I.stkSub b z)).elim hL hb) hc) (fun b o _ _ hc e n=>u.any e n hc) (fun b o hc e n=>u.free b o e n hc) (fun b o hc e=>u.there b o e hc) u.tups u.frzs u.tbls (fun m' hm=>by
   obtain⟨o',es',ep',ho',r'⟩:=hm;rw[ho] at ho';cases ho'
   exact⟨_,es',ep',hL,r'⟩) hok hg
theorem Inv.turned {t':Nat}{it:Addr}(I:Inv X pins σ H s)(k:∀ b o,b≠it→s.heap.get? b=some o→h'.get? b=some o)(hn:H it=none)(hL:it≠X.env.locals)
   (h1:it∈X.ex∨X.s₀.heap.objs.size≤it)(h2:∀ x c,X.env.cells.lookup x=some c→c≠it)(h3:∀ p∈X.pn++pins,p.1≠it):Inv X pins σ H { s with heap:=h',toks:=t' }:=by
 have nit:∀ b u,H b=some u→b≠it:=fun b u e z=>by rw[z,hn] at e;cases e
 refine I.step (g':=s.gens) (d':=s.drawn) (ch:=[it]) (fun b hb=>?_) (fun b o _ _ hc e _=>k b o (fun z=>hc (by simp[z])) e) (fun b o _ _ hc e _=>⟨o.slots,k b o (fun z=>hc (by simp[z])) e⟩) (fun _ _ _ _ n=>n)
   (fun b o hc e=>⟨o,k b o (fun z=>hc (by simp[z])) e⟩) (fun _ _ e=>e) (fun _ _ _ e=>e) (fun b ps e=>⟨#[],by rw[e];simp⟩) (fun m hm=>?_) (fun b u e=>?_) I.bare
 . have e:b=it:=by simpa using hb
   subst e;exact⟨h1,hL,h2,h3⟩
 . obtain⟨o,es,ep,ho,r⟩:=hm;exact⟨o,es,ep,k _ o (Ne.symm hL) ho,r⟩
 . refine(I.hok b u e).stay (fun c v hc q=>k c v ?_ q) (fun _ q=>q) fun _ _ q=>q
   rcases hc with z | z
   . rw[z];exact nit b u e
   . exact nit c _ z
theorem Inv.tok (I:Inv X pins σ H s) (t:Nat):Inv X pins σ H { s with toks:=t }:=I.un (h':=s.heap) (t':=t) Un.refl I.hok
theorem Inv.kept {t':Nat}(I:Inv X pins σ H s)(k:∀ b u,s.heap.get? b=some u→h'.get? b=some u):Inv X pins σ H { s with heap:=h',toks:=t' }:=I.un (Un.kept k) (I.hok.kept k)
theorem Inv.laid {a:Addr}{o:HO}{t':Nat}(I:Inv X pins σ H s)(k:∀ b u,s.heap.get? b=some u→h'.get? b=some u)(hp:s.heap.objs.size≤a)(new:bP X.prog X.w (upd H a o) h' a o) :
 Inv X pins σ (upd H a o) { s with heap:=h',toks:=t' }:=I.un (Un.laid k hp (I.hok.fresh hp)) (I.hok.laid k hp new)
theorem Inv.write {x e:Addr}{o:HO}{t':Nat}(I:Inv X pins σ H s)(mu:Mut (H x))(he:e=x∨H e=some (.own x))(k:∀ b u,b≠e→s.heap.get? b=some u→h'.get? b=some u)(heo:∃ u,h'.get? e=some u)
 (new:bP X.prog X.w (upd H x o) h' x o):Inv X pins σ (upd H x o) { s with heap:=h',toks:=t' }:=I.un (Un.write mu he k heo) (I.hok.write mu he k heo new)
theorem Inv.pins_of {pins':List (Addr×Obj)}(I:Inv X pins σ H s)(h:∀ p∈pins',s.heap.get? p.1=some p.2∧H p.1=none∧p.1≠X.env.locals∧p.1∉X.fs∧∀ v,p.2.data≠.cell v):Inv X pins' σ H s :=
 ⟨I.ok,I.os,I.bare,I.base,I.loc,I.cell,I.free,I.freeC,fun p hp=>(List.mem_append.mp hp).elim (fun z=>I.pin p (AX _ z)) (h p),I.hok,I.len⟩
theorem ko {N:List Str}(hN:N.Nodup){i j:Nat}{x:Str}(a:N[i]?=some x)(b:N[j]?=some x):i=j:=by
 obtain⟨h1,e1⟩:=List.getElem?_eq_some_iff.mp a;obtain⟨h2,e2⟩:=List.getElem?_eq_some_iff.mp b;exact(List.getElem_inj hN).mp (e1.trans e2.symm)
theorem iL {M:Model}{A:Around}{E:Value→Shared→Prop}{i:Nat}{x:Str}{v:V}{u:Value}{Q:Unit→Shared→Prop}(I:Inv X pins σ H s)(hN:X.N.Nodup)(hi:X.N[i]?=some x)(hx:Loc X.env.scope x)(r:ba v u)
   (h:∀ s',Inv X pins (σ.set i (some v)) H s'→(∃ a,Heap.SameBut a s.heap s'.heap∧(a=X.env.locals∨X.env.cells.lookup x=some a))→Q () s')(hf:X.fn x=true∨X.env.scope.names.lookup x=some .local:=by first | exact .inl rfl | exact .inr rfl | assumption):wpAny M A (storeName X.env x u) Q E s:=by
 obtain⟨m,hn,hl⟩:=id I.loc
 have hcls:(X.env.scope.kind==.class||(X.env.scope.kind==.module&&X.env.locals != X.env.globals))=false:=by rw[I.ok.kind];rfl
 have hiσ:i < σ.length:=by rw[I.len];exact(List.getElem?_eq_some_iff.mp hi).1
 have cne:=I.cne
 have tracked:∀ {a:Addr}{h':Heap},(∃ o,s.heap.get? a=some o∧H a=none)→Heap.SameBut a s.heap h'→HOk X.prog X.w H h':=fun {a h'} ha hs b ob e=>by
   obtain⟨_,_,hfree⟩:=ha;refine(I.hok b ob e).stay (fun c w' hc q=>(hs.2 c ?_).trans q) (fun _ q=>q) fun _ _ q=>q;rintro rfl
   rcases hc with rfl | hc
   . rw[hfree] at e;cases e
   . rw[hfree] at hc;cases hc
 rcases hx with hk | hk
 . refine wpAny_storeName_local hk hn (fun h' hn' hs=>?_) hcls;obtain⟨oL,_,_,hoL,_⟩:=id hn;refine h _ ⟨I.ok,I.os,I.bare,⟨fun b o e n hb hx=>?_,fun b o e n hb hx=>?_,I.base.free,fun b o e hx=>?_,I.base.tups,I.base.frzs,I.base.tbls⟩,⟨_,hn',fun j y v' e1 e2 e3=>?_⟩,fun y c e=>?_,I.free,I.freeC,fun p hp=>?_,tracked ⟨oL,hoL,I.free⟩ hs,by simpa using I.len⟩ ⟨_,hs,.inl rfl⟩
   . exact(hs.2 b (Aa (Ae (Heap.lt_size e) I.ok.above))).trans (I.base.keep b o e n hb hx)
   . obtain⟨sl,e1⟩:=I.base.slot b o e n hb hx;exact⟨sl,(hs.2 b (Aa (Ae (Heap.lt_size e) I.ok.above))).trans e1⟩
   . obtain⟨o',e1⟩:=I.base.there b o e hx;exact⟨o',(hs.2 b (Aa (Ae (Heap.lt_size e) I.ok.above))).trans e1⟩
   . by_cases hj:j=i
     . subst hj;rw[hi] at e1;cases e1;rw[BK hiσ] at e2;cases e2;exact⟨u,r,.inl ⟨hk,by simp⟩⟩
     . rw[BU (Ne.symm hj)] at e2;obtain⟨u',r',q⟩:=hl j y v' e1 e2 e3;refine⟨u',r',?_⟩
       rcases q with ⟨k,e⟩ | ⟨k,c,e,z⟩
       . refine .inl ⟨k,?_⟩;have:y≠x:=fun e=>hj (ko hN e1 (e▸hi));simp[this,e]
       . exact .inr ⟨k,c,e,z.sameBut hs (cne y c e)⟩
   . obtain⟨w',z⟩:=I.cell y c e;exact⟨w',z.sameBut hs (cne y c e)⟩
   . obtain⟨e,n,ne,nf,d⟩:=I.pin p hp;exact⟨(hs.2 p.1 ne).trans e,n,ne,nf,d⟩
 . have hfn:X.fn x=true:=by
     rcases hf with z | z
     . exact z
     . rw[z] at hk;cases hk
   obtain⟨c,hc⟩:=I.ok.has x (.inl hk);obtain⟨w',z⟩:=I.cell x c hc;refine wpAny_storeName_cell I.ok.kind hk hc z (fun h' hc' hs=>?_);obtain⟨oc,hoc,hocd⟩:=id z;refine h { s with heap:=h' } ⟨I.ok,I.os,I.bare,⟨fun b o e n hb hx=>?_,fun b o e n hb hx=>?_,I.base.free,fun b o e hx=>?_,I.base.tups,I.base.frzs,I.base.tbls⟩,⟨m,hn.sameBut hs (Ne.symm (cne x c hc)),fun j y v' e1 e2 e3=>?_⟩,fun y c' e=>?_,I.free,I.freeC,fun p hp=>?_,tracked ⟨oc,hoc,I.freeC x c hc⟩ hs,by simpa using I.len⟩ ⟨c,hs,.inr hc⟩
   . exact(hs.2 b (Aa (Ae (Heap.lt_size e) (I.ok.cab x c hfn hc)))).trans (I.base.keep b o e n hb hx)
   . obtain⟨sl,e1⟩:=I.base.slot b o e n hb hx;exact⟨sl,(hs.2 b (Aa (Ae (Heap.lt_size e) (I.ok.cab x c hfn hc)))).trans e1⟩
   . obtain⟨o',e1⟩:=I.base.there b o e hx;exact⟨o',(hs.2 b (Aa (Ae (Heap.lt_size e) (I.ok.cab x c hfn hc)))).trans e1⟩
   . by_cases hj:j=i
     . subst hj;rw[hi] at e1;cases e1;rw[BK hiσ] at e2;cases e2;exact⟨u,r,.inr ⟨.inl hk,c,hc,hc'⟩⟩
     . rw[BU (Ne.symm hj)] at e2;obtain⟨u',r',q⟩:=hl j y v' e1 e2 e3;refine⟨u',r',?_⟩
       rcases q with q | ⟨k,c',e,z'⟩
       . exact .inl q
       . refine .inr ⟨k,c',e,z'.sameBut hs ?_⟩;rintro rfl;exact hj (ko hN e1 (I.ok.inj _ _ _ e hc▸hi))
   . by_cases hcc:c'=c
     . subst hcc;exact⟨_,hc'⟩
     . obtain⟨w2,z2⟩:=I.cell y c' e;exact⟨w2,z2.sameBut hs hcc⟩
   . obtain⟨e,n,ne,nf,d⟩:=I.pin p hp;refine⟨(hs.2 p.1 ?_).trans e,n,ne,nf,d⟩;intro q;rw[q,hoc] at e;have q':oc=p.2:=Option.some.inj e;exact d w' (by rw[←q'];exact hocd)
theorem jQ {M:Model}{A:Around}{E:Value→Shared→Prop}{i:Nat}{x:Str}{v:V}{u:Value}{Q:Unit→Shared→Prop}(I:Inv X pins σ H s)(hN:X.N.Nodup)(hi:X.N[i]?=some x)(hx:Loc X.env.scope x)(r:ba v u)
   (h:∀ s',Inv X pins (σ.set i (some v)) H s'→Q () s')(hf:X.fn x=true∨X.env.scope.names.lookup x=some .local:=by first | exact .inl rfl | exact .inr rfl | assumption):wpAny M A (storeName X.env x u) Q E s :=
 iL I hN hi hx r (fun s' I' _=>h s' I') hf
theorem Inv.call' {s':Shared}{ch:List Addr}(I:Inv X pins σ H s)(ho:s'.os=s.os)(u:Un (frs X.stack) ch H H' s.heap s'.heap)(hok:HOk X.prog X.w H' s'.heap)(hg:AllBare s'.gens)
   (hch:∀ b∈ch,(b∈X.ex∨X.s₀.heap.objs.size≤b)∧b≠X.env.locals∧(∀ x c,X.env.cells.lookup x=some c→c≠b)∧∀ p∈X.pn++pins,p.1≠b):Inv X pins σ H' s':=by
 obtain⟨h',g',d',t',o'⟩:=s';have e:o'=s.os:=ho;subst e;exact I.call (g':=g') (t':=t') (d':=d') u hok hg hch
end
abbrev XK:=Value→Option Addr→Hp→Prop
abbrev St:=List (Option V)
abbrev VK:=V→Hp→Prop
abbrev TE:=St→Hp→VK→Prop
abbrev TT:=St→Hp→(Bool→Hp→Prop)→Prop
abbrev TA:=St→Hp→(List V→Hp→Prop)→Prop
structure gk where
 nx:St→Hp→Prop
 rt:VK
 bk:St→Hp→Prop:=fun _ _=>False
 ct:St→Hp→Prop:=fun _ _=>False
abbrev TS:=gk→St→Hp→Prop
def EP (X:Cx)(pins:List (Addr×Obj)) (σ:St)(Q:VK) (u:Value)(s':Shared):Prop:=∃ v H',Inv X pins σ H' s'∧ba v u∧Q v H'
def TP (X:Cx)(pins:List (Addr×Obj)) (σ:St)(Q:Bool→Hp→Prop)(b:Bool)(s':Shared):Prop:=∃ H',Inv X pins σ H' s'∧Q b H'
def AP (X:Cx)(pins:List (Addr×Obj)) (σ:St)(Q:List V→Hp→Prop)(us:List Value)(s':Shared):Prop:=∃ vs H',Inv X pins σ H' s'∧Vals vs us∧Q vs H'
def SP (X:Cx)(pins:List (Addr×Obj))(D:gk)(f:Flow)(s':Shared):Prop :=
 match f with
 | .next=>∃ σ' H',Inv X pins σ' H' s'∧D.nx σ' H'
 | .brk=>∃ σ' H',Inv X pins σ' H' s'∧D.bk σ' H'
 | .cont=>∃ σ' H',Inv X pins σ' H' s'∧D.ct σ' H'
 | .ret u=>∃ v σ' H',Inv X pins σ' H' s'∧ba v u∧D.rt v H'
def PE (X:Cx)(e:Expr)(t:TE):Prop :=
 ∀ ⦃pins:List (Addr×Obj)⦄ (s:Shared) (σ:St)(H:Hp)(Q:VK),Inv X pins σ H s→t σ H Q→wpAny (model X.prog X.w) X.A (eval e X.env) (EP X pins σ Q) X.xe s
def PT (X:Cx)(e:Expr)(t:TT):Prop :=
 ∀ ⦃pins:List (Addr×Obj)⦄ (s:Shared) (σ:St)(H:Hp)(Q:Bool→Hp→Prop),Inv X pins σ H s→t σ H Q→wpAny (model X.prog X.w) X.A (isTrue e X.env (eval e X.env)) (TP X pins σ Q) X.xe s
def PW (X:Cx)(e:Expr)(t:TT):Prop :=
 ∀ (whole:Sem Value)(pins:List (Addr×Obj))(s:Shared) (σ:St)(H:Hp)(Q:Bool→Hp→Prop),Inv X pins σ H s→t σ H Q→wpAny (model X.prog X.w) X.A (isTrue e X.env whole) (TP X pins σ Q) X.xe s
theorem PW.pt {X:Cx}{e:Expr}{t:TT}(h:PW X e t):PT X e t:=h _
def PA (X:Cx)(es:List Expr)(t:TA):Prop :=
 ∀ ⦃pins:List (Addr×Obj)⦄ (pos:Pos)(s:Shared) (σ:St)(H:Hp)(Q:List V→Hp→Prop),Inv X pins σ H s→t σ H Q→wpAny (model X.prog X.w) X.A (spliced (backTo pos (starEach es X.env))) (AP X pins σ Q) X.xe s
def PS (X:Cx)(st:Stmt)(t:TS):Prop :=
 ∀ ⦃pins:List (Addr×Obj)⦄ (s:Shared) (σ:St)(H:Hp)(D:gk),Inv X pins σ H s→t D σ H→wpAny (model X.prog X.w) X.A (exec st X.env) (SP X pins D) X.xe s
def PSs (X:Cx)(st:List Stmt)(t:TS):Prop :=
 ∀ ⦃pins:List (Addr×Obj)⦄ (s:Shared) (σ:St)(H:Hp)(D:gk),Inv X pins σ H s→t D σ H→wpAny (model X.prog X.w) X.A (execs st X.env) (SP X pins D) X.xe s
theorem thn {α:Type}{t:Sem α}{Q Q':α→Shared→Prop}{M:Model}{A:Around}{E:Value→Shared→Prop}{s:Shared}(h:wpAny M A t Q E s)(hQ:∀ a s,Q a s→Q' a s):wpAny M A t Q' E s:=wpAny_mono h hQ fun _ _ x=>x
section
variable {X:Cx}
theorem bin {a b:Expr}{ta tb:TE}(ha:PE X a ta)(hb:PE X b tb){pins:List (Addr×Obj)}{s:Shared}{σ:St}{H:Hp}{R:V→V→Hp→Prop}(I:Inv X pins σ H s)(h:ta σ H fun x H1=>tb σ H1 fun y H2=>R x y H2)
   {α:Type}{Q:α→Shared→Prop}{f:Value→Value→Sem α}
   (hf:∀ v u s2 x y H2,Inv X pins σ H2 s2→ba x v→ba y u→R x y H2→wpAny (model X.prog X.w) X.A (f v u) Q X.xe s2) :
   wpAny (model X.prog X.w) X.A (eval a X.env) (fun v s₁=>wpAny (model X.prog X.w) X.A (eval b X.env) (fun u s₂=>wpAny (model X.prog X.w) X.A (f v u) Q X.xe s₂) X.xe s₁) X.xe s:=by
 refine thn (ha s σ H _ I h) fun v s1 ⟨x,H1,I1,r1,q1⟩=>?_;refine thn (hb s1 σ H1 _ I1 q1) fun u s2 ⟨y,H2,I2,r2,q2⟩=>?_;exact hf v u s2 x y H2 I2 r1 r2 q2
def nI (x:V)(k:Addr→Prop):Prop:=match x with
 | .ref p=>k p
 | _=>False
def isInt (x:V)(k:Int→Prop):Prop:=match x with
 | .int p=>k p
 | _=>False
def we (x:V)(k:Bool→Prop):Prop:=match x with
 | .bl p=>k p
 | _=>False
theorem lW {p:Addr}{k:Addr→Prop}:nI (.ref p) k=k p:=rfl
theorem lU {p:Int}{k:Int→Prop}:isInt (.int p) k=k p:=rfl
theorem rj {p:Bool}{k:Bool→Prop}:we (.bl p) k=k p:=rfl
theorem km {x:V}{k:Addr→Prop}:nI x k=∃ p,x=.ref p∧k p:=by
 cases x<;>simp[nI]
theorem cU {x:V}{k:Int→Prop}:isInt x k=∃ p,x=.int p∧k p:=by
 cases x<;>simp[isInt]
theorem rH {x:V}{k:Bool→Prop}:we x k=∃ p,x=.bl p∧k p:=by
 cases x<;>simp[we]
def kP (i:Nat):TE:=fun σ H Q=>match σ[i]? with
 | some (some v)=>Q v H
 | _=>False
theorem v9 {i:Nat}{σ:St}{H:Hp}{Q:VK}(h:kP i σ H Q):∃ v,σ[i]?=some (some v)∧Q v H:=by
 unfold kP at h
 split at h
 . exact⟨_,by assumption,h⟩
 . exact h.elim
def tC (v:V):TE:=fun _ H Q=>Q v H
theorem xC {i:Nat}{x:Str}{pos:Pos}(hN:X.N[i]?=some x)(hv:Vis X.env.scope x)(hd:(x==("__debug__":Str))=false:=by decide)(hcd:(x==("__classdict__":Str))=false:=by decide):PE X (.Name x pos) (kP i):=by
 intro pins s σ H Q I h;obtain⟨v,e,h⟩:=v9 h;obtain⟨m,hn,hl⟩:=I.loc;obtain⟨u,r,l⟩:=hl i x v hN e hv;have fin:EP X pins σ Q u s:=⟨v,H,I,r,h⟩
 rcases l with ⟨hk,hm⟩ | ⟨hk,c,hc,hcell⟩
 . exact wpAny_Name (wpAny_loadName_local I.ok.kind hk hn hm fin) hd
 . rcases hk with hk | hk
   . exact wpAny_Name (wpAny_loadName_cell I.ok.kind hk hc hcell fin) hd
   . exact wpAny_Name (wpAny_loadName_free I.ok.kind hk hc hcell fin hcd) hd
theorem ag {i j pos}:PE X (.Constant (.int i) j pos) (tC (.int i)):=fun _ _ _ H _ I h=>wpAny_Constant_int ⟨.int i,H,I.tok _,⟨_,rfl⟩,h⟩
theorem cw {b j pos}:PE X (.Constant (.bool b) j pos) (tC (.bl b)):=fun _ _ _ H _ I h=>Constant_bool ⟨.bl b,H,I,rfl,h⟩
theorem jL {j pos}:PE X (.Constant .none j pos) (tC .non):=fun _ _ _ H _ I h=>Constant_none ⟨.non,H,I,rfl,h⟩
theorem aA {x j pos}:PE X (.Constant (.str x) j pos) (tC (.str x)):=fun _ _ _ H _ I h=>Calls.Constant_str ⟨.str x,H,I.tok _,⟨_,rfl⟩,h⟩
def Gl (X:Cx) (x:Str):Prop:=X.env.kindOf x=some .globalImplicit
theorem g0 {E:Value→Shared→Prop}{pins:List (Addr×Obj)}{s:Shared}{σ:St}{H:Hp}{x:Str}{u:Value}{pos:Pos}{Q:Value→Shared→Prop}(I:Inv X pins σ H s)(hg:Gl X x)(hm:X.mg x=some u)(h:Q u s)
   (hd:(x==("__debug__":Str))=false:=by decide):wpAny (model X.prog X.w) X.A (eval (.Name x pos) X.env) Q E s :=
 Calls.Name_function_global I.ok.kind hg (Calls.loadGlobal_global (by rw[I.ok.glob];exact I.mod.glob.keeps I.bk) hm h) hd
theorem iU {E:Value→Shared→Prop}{pins:List (Addr×Obj)}{s:Shared}{σ:St}{H:Hp}{x:Str}{u:Value}{pos:Pos}{Q:Value→Shared→Prop}(I:Inv X pins σ H s)(hg:Gl X x)(hm:X.mg x=none)(hv:bootBuiltins x=some u)(h:Q u s)
   (hn:x≠"__name__":=by decide)(hd:(x==("__debug__":Str))=false:=by decide):wpAny (model X.prog X.w) X.A (eval (.Name x pos) X.env) Q E s:=by
 obtain⟨mb,h1,h2⟩:=I.mod.blt;exact Calls.Name_function_global I.ok.kind hg (Calls.loadGlobal_builtin (by rw[I.ok.glob];exact I.mod.glob.keeps I.bk) hm (by rw[I.ok.blt];exact h1.keeps I.bk) ((h2 x hn).trans hv) h) hd
theorem bc {x:Str}{v:V}{u:Value}{pos:Pos}(hg:Gl X x)(hm:X.mg x=some u)(r:ba v u)(hd:(x==("__debug__":Str))=false:=by decide):PE X (.Name x pos) (tC v) :=
 fun _ _ _ H _ I h=>g0 I hg hm ⟨v,H,I,r,h⟩ hd
theorem cA {x:Str}{v:V}{u:Value}{pos:Pos}(hg:Gl X x)(hm:X.mg x=none)(hv:bootBuiltins x=some u)(r:ba v u)(hn:x≠"__name__":=by decide)(hd:(x==("__debug__":Str))=false:=by decide):PE X (.Name x pos) (tC v) :=
 fun _ _ _ H _ I h=>iU I hg hm hv ⟨v,H,I,r,h⟩ hn hd
variable {a b:Expr}{ta tb:TE}{pos:Pos}
def PC (X:Cx)(op:CmpOp)(a b:Expr)(t:TE):Prop :=
 ∀ (pins:List (Addr×Obj))(s:Shared) (σ:St)(H:Hp)(Q:VK),Inv X pins σ H s→t σ H Q →
   wpAny (model X.prog X.w) X.A (eval a X.env) (fun v s₁=>wpAny (model X.prog X.w) X.A (eval b X.env) (fun u s₂=>wpAny (model X.prog X.w) X.A (compareOp op v u) (EP X pins σ Q) X.xe s₂) X.xe s₁) X.xe s
def tB (t:TE):TT:=fun σ H Q=>t σ H fun x H1=>∃ c,x=.bl c∧Q c H1
theorem fc {op:CmpOp}{t:TE}(h:PC X op a b t)(h1:behindInMarks op b=false:=by first | exact nobehind _ (by decide) (by decide) | rfl):PT X (.Compare a [op] [b] pos) (tB t):=by
 intro pins s σ H Q I hw;refine wpAny_isTrue_Compare1 (thn (h pins s σ H _ I hw) fun v s1 h1=>thn h1 fun u s2 h2=>thn h2 fun c s3 ⟨x,H1,I1,r1,q1⟩=>?_) h1;obtain⟨d,rfl,q⟩:=q1;cases r1;exact wpAny_truthy_bool ⟨H1,I1,q⟩
theorem bE {e:Expr}{t:TE}(h:PE X e t)(he:∀ whole,isTrue e X.env whole=(do let v ←whole;standAt e.pos;holding [v] (truthy v)):=by intro _;rfl):PT X e (tB t):=by
 intro pins s σ H Q I hw;refine isTrue_plain (thn (h s σ H _ I hw) fun v s1 ⟨x,H1,I1,r1,q1⟩=>?_) (he _);obtain⟨d,rfl,q⟩:=q1;cases r1;exact wpAny_truthy_bool ⟨H1,I1,q⟩
variable {tA tB':TT}{cE:List Expr}
def yC (t u:TT):TT:=fun σ H Q=>t σ H fun c H1=>if c=true then u σ H1 Q else Q false H1
def tOr (t u:TT):TT:=fun σ H Q=>t σ H fun c H1=>if c=true then Q true H1 else u σ H1 Q
def yr (t:TT):TT:=fun σ H Q=>t σ H fun c H1=>Q (!c) H1
theorem gi (ha:PT X a tA):PW X (.BoolOp .And [a] pos) tA:=by
 intro wh pins s σ H Q I h;refine isTrue_and (thn (ha s σ H Q I h) fun c s1 e=>?_)
 cases c with
 | true=>exact isTrue_and_nil e
 | false=>exact e
theorem cM (ha:PT X a tA):PW X (.BoolOp .Or [a] pos) tA:=by
 intro wh pins s σ H Q I h;refine isTrue_or (thn (ha s σ H Q I h) fun c s1 e=>?_)
 cases c with
 | false=>exact isTrue_or_nil e
 | true=>exact e
theorem im (ha:PT X a tA)(hb:PW X (.BoolOp .And (b::cE) pos) tB'):PW X (.BoolOp .And (a::b::cE) pos) (yC tA tB'):=by
 intro wh pins s σ H Q I h;refine isTrue_and (thn (ha s σ H _ I h) fun c s1 ⟨H1,I1,q1⟩=>?_)
 cases c with
 | true=>exact hb wh pins s1 σ H1 Q I1 q1
 | false=>exact⟨H1,I1,q1⟩
theorem d8 (ha:PT X a tA)(hb:PW X (.BoolOp .Or (b::cE) pos) tB'):PW X (.BoolOp .Or (a::b::cE) pos) (tOr tA tB'):=by
 intro wh pins s σ H Q I h;refine isTrue_or (thn (ha s σ H _ I h) fun c s1 ⟨H1,I1,q1⟩=>?_)
 cases c with
 | true=>exact⟨H1,I1,q1⟩
 | false=>exact hb wh pins s1 σ H1 Q I1 q1
theorem bV (ha:PT X a tA):PT X (.UnaryOp .Not a pos) (yr tA):=by
 intro pins s σ H Q I h;exact isTrue_not (ha s σ H (fun c H1=>Q (!c) H1) I h)
def t5 (ta tb:TE):TE:=fun σ H Q=>ta σ H fun x H1=>∃ c,x=.bl c∧if c=true then tb σ H1 Q else Q (.bl false) H1
def zj (ta tb:TE):TE:=fun σ H Q=>ta σ H fun x H1=>∃ c,x=.bl c∧if c=true then Q (.bl true) H1 else tb σ H1 Q
def vT (ta:TE):TE:=fun σ H Q=>ta σ H fun x H1=>∃ c,x=.bl c∧Q (.bl (!c)) H1
theorem qh {op}{t:TE}(h:PE X a t):PE X (.BoolOp op [a] pos) t:=fun pins s σ H Q I hw=>BoolOp_one (h s σ H Q I hw)
theorem l4 (ha:PE X a ta)(hb:PE X (.BoolOp .And (b::cE) pos) tb):PE X (.BoolOp .And (a::b::cE) pos) (t5 ta tb):=by
 intro pins s σ H Q I h;refine BoolOp_and (thn (ha s σ H _ I h) fun v s1 ⟨x,H1,I1,r1,q1⟩=>?_);obtain⟨c,rfl,q1⟩:=q1;cases r1;refine wpAny_truthy_bool ?_
 cases c with
 | true=>exact hb s1 σ H1 Q I1 q1
 | false=>exact⟨.bl false,H1,I1,rfl,q1⟩
theorem yG (ha:PE X a ta):PE X (.UnaryOp .Not a pos) (vT ta):=by
 intro pins s σ H Q I h;refine UnaryOp_ (thn (ha s σ H _ I h) fun v s1 ⟨x,H1,I1,r1,q1⟩=>?_);obtain⟨c,rfl,q1⟩:=q1;cases r1;exact not_of (wpAny_truthy_bool ⟨.bl (!c),H1,I1,rfl,q1⟩)
def tIf (t:TT)(ta tb:TE):TE:=fun σ H Q=>t σ H fun c H1=>if c=true then ta σ H1 Q else tb σ H1 Q
theorem t8 {c:Expr}(hc:PT X c tA)(ha:PE X a ta)(hb:PE X b tb):PE X (.IfExp c a b pos) (tIf tA ta tb):=by
 intro pins s σ H Q I h;refine wpAny_IfExp (thn (hc s σ H _ I h) fun d s1 ⟨H1,I1,q1⟩=>?_)
 cases d with
 | true=>exact ha s1 σ H1 Q I1 q1
 | false=>exact hb s1 σ H1 Q I1 q1
end
def SqL (K:PySem.W.Frag)(H:Hp)(a:Addr)(xs:List V):Prop :=
 Rd H a (.lst xs) ∨
   ∃ (o:Obj)(its:Array Value) (n:Nat),K.lookup a=some o∧o.cls=.type "list"∧o.dict=none∧o.data=.seq its n∧its.size≤sizeLine∧Vals xs its.toList
def SqT (K:PySem.W.Frag)(H:Hp)(a:Addr)(xs:List V):Prop :=
 Rd H a (.tup xs) ∨
   ∃ (o:Obj)(its:Array Value) (n:Nat),K.lookup a=some o∧o.cls=.type "tuple"∧o.data=.seq its n∧its.size≤sizeLine∧Vals xs its.toList
def zB:Value→Option V
 | .none=>some .non
 | .bool b=>some (.bl b)
 | .int i _=>some (.int i)
 | .str x _=>some (.str x)
 | .bytes b _=>some (.byt b)
 | .float b _=>some (.flt b)
 | .ref a=>some (.ref a)
 | .type n=>some (.ty n)
 | _=>none
theorem ba.abs {x:V}{u:Value}(r:ba x u):zB u=some x:=by
 cases x with
 | non=>cases r;rfl
 | bl _=>cases r;rfl
 | int _=>obtain⟨t,rfl⟩:=r;rfl
 | str _=>obtain⟨t,rfl⟩:=r;rfl
 | byt _=>obtain⟨t,rfl⟩:=r;rfl
 | flt _=>obtain⟨t,rfl⟩:=r;rfl
 | ref _=>cases r;rfl
 | ty _=>cases r;rfl
theorem ba.inj {x y:V}{u:Value}(r:ba x u)(q:ba y u):x=y:=Option.some.inj (r.abs.symm.trans q.abs)
theorem Vals.inj:∀ {xs ys:List V}{us:List Value},Vals xs us→Vals ys us→xs=ys
 | _,_,_,.nil,.nil=>rfl
 | _,_,_,.cons r t,.cons r' t'=>by rw[r.inj r',Vals.inj t t']
section
variable {X:Cx}{pins:List (Addr×Obj)}{σ:St}{H:Hp}{s:Shared}{a:Addr}{xs ys:List V}
theorem SqL.of {K:PySem.W.Frag}(h:H a=some (.lst xs)):SqL K H a xs:=.inl (.inl h)
theorem SqT.of {K:PySem.W.Frag}(h:H a=some (.tup xs)):SqT K H a xs:=.inl (.inl h)
theorem Inv.list (I:Inv X pins σ H s)(h:SqL X.K H a xs):∃ its:List Value,Vals xs its∧PlainL s.heap a its.toArray∧xs.length≤sizeLine:=by
 rcases h with h | ⟨o,its,n,hk,hc,hd,hs,hz,r⟩
 . obtain⟨z,its,n,r,e⟩:=h.ok I.hok;exact⟨its,r,⟨_,n,e,rfl,rfl,rfl⟩,z⟩
 . refine⟨its.toList,r,⟨o,n,I.kIn a o hk,hc,hd,by simpa using hs⟩,?_⟩;have e:=r.length;simp only[Aw] at e;omega
theorem Inv.tuple (I:Inv X pins σ H s)(h:SqT X.K H a xs):∃ its:List Value,Vals xs its∧IsTup s.heap a its.toArray∧xs.length≤sizeLine:=by
 rcases h with h | ⟨o,its,n,hk,hc,hs,hz,r⟩
 . obtain⟨z,its,r,p⟩:=h.ok I.hok;exact⟨its,r,p,z⟩
 . refine⟨its.toList,r,⟨o,I.kIn a o hk,hc,n,by simpa using hs⟩,?_⟩;have e:=r.length;simp only[Aw] at e;omega
theorem Inv.list_inj (I:Inv X pins σ H s)(h:SqL X.K H a xs)(h':SqL X.K H a ys):xs=ys:=by
 obtain⟨its,r,⟨o,n,e,_,_,d⟩,_⟩:=I.list h;obtain⟨its',r',⟨o',n',e',_,_,d'⟩,_⟩:=I.list h';rw[e] at e';cases e';rw[d] at d'
 injection d' with d1 _
 have:its=its':=by simpa using congrArg Array.toList d1
 subst this;exact r.inj r'
theorem Inv.tuple_inj (I:Inv X pins σ H s)(h:SqT X.K H a xs)(h':SqT X.K H a ys):xs=ys:=by
 obtain⟨its,r,⟨o,e,_,n,d⟩,_⟩:=I.tuple h;obtain⟨its',r',⟨o',e',_,n',d'⟩,_⟩:=I.tuple h';rw[e] at e';cases e';rw[d] at d'
 injection d' with d1 _
 have:its=its':=by simpa using congrArg Array.toList d1
 subst this;exact r.inj r'
end
abbrev Cx.wish (X:Cx)(E:Value→Shared→Prop):Cx:={ X with xe:=E }
abbrev Cx.nox (X:Cx):Cx:=X.wish fun _ _=>False
theorem Cx.Ok.wish {X:Cx}(ok:X.Ok)(E:Value→Shared→Prop):(X.wish E).Ok :=
 ⟨ok.mod,ok.kind,ok.glob,ok.blt,ok.above,ok.inj,ok.has,ok.cab,ok.hd,ok.frames,ok.stk,ok.exf,ok.bs,ok.bsz,ok.noex,ok.exfs,ok.funs,ok.frf⟩
theorem Cx.Ok.unwish {X:Cx}{E:Value→Shared→Prop}(ok:(X.wish E).Ok):X.Ok :=
 ⟨ok.mod,ok.kind,ok.glob,ok.blt,ok.above,ok.inj,ok.has,ok.cab,ok.hd,ok.frames,ok.stk,ok.exf,ok.bs,ok.bsz,ok.noex,ok.exfs,ok.funs,ok.frf⟩
section
variable {X:Cx}{pins:List (Addr×Obj)}{σ:St}{H:Hp}{s:Shared}{E:Value→Shared→Prop}
theorem Inv.wish (I:Inv X pins σ H s)(E:Value→Shared→Prop):Inv (X.wish E) pins σ H s:=⟨I.ok.wish E,I.os,I.bare,I.base,I.loc,I.cell,I.free,I.freeC,I.pin,I.hok,I.len⟩
theorem Inv.unwish (I:Inv (X.wish E) pins σ H s):Inv X pins σ H s:=⟨I.ok.unwish,I.os,I.bare,I.base,I.loc,I.cell,I.free,I.freeC,I.pin,I.hok,I.len⟩
theorem SP.unwish {D:gk}{f:Flow}{s':Shared}(h:SP (X.wish E) pins D f s'):SP X pins D f s':=by
 cases f with
 | next=>obtain⟨σ',H',I,q⟩:=h;exact⟨σ',H',I.unwish,q⟩
 | brk=>obtain⟨σ',H',I,q⟩:=h;exact⟨σ',H',I.unwish,q⟩
 | cont=>obtain⟨σ',H',I,q⟩:=h;exact⟨σ',H',I.unwish,q⟩
 | ret u=>obtain⟨v,σ',H',I,r,q⟩:=h;exact⟨v,σ',H',I.unwish,r,q⟩
theorem PSs.nox {st:List Stmt}{t:TS}(h:PSs X.nox st t):PSs X st t:=fun pins s σ H D I hw =>
 wpAny_mono (h s σ H D (I.wish _) hw) (fun _ _ q=>q.unwish) fun _ _ z=>False.elim z
end
section
variable {X:Cx}{st:Stmt}{cE:List Stmt}{t u:TS}{e:Expr}{te:TE}{pos:Pos}
def uI:TS:=fun D σ H=>D.nx σ H
def xL (t u:TS):TS:=fun D σ H=>t { D with nx:=u D } σ H
theorem am:PSs X [] uI:=fun _ _ σ H _ I h=>wpAny_execs_nil ⟨σ,H,I,h⟩
theorem aL (h1:PS X st t)(h2:PSs X cE u):PSs X (st::cE) (xL t u):=by
 intro pins s σ H D I h;refine wpAny_execs_cons (thn (h1 s σ H { D with nx:=u D } I h) fun f s1 q=>?_)
 cases f with
 | next =>
   obtain⟨σ',H',I',q⟩:=q;exact h2 s1 σ' H' D I' q
 | ret v=>exact q
 | brk=>exact q
 | cont=>exact q
theorem ah (h1:PS X st t):PSs X [st] t:=by
 intro pins s σ H D I h;refine wpAny_execs_cons (thn (h1 s σ H D I h) fun f s1 q=>?_)
 cases f with
 | next=>exact wpAny_execs_nil q
 | ret v=>exact q
 | brk=>exact q
 | cont=>exact q
theorem Inv.quiet {pins:List (Addr×Obj)}{σ:St}{H:Hp}{s:Shared}(I:Inv X pins σ H s):interactive X.env=false:=by simp[interactive,I.ok.kind]
def vR (te:TE):TS:=fun D σ H=>te σ H fun _ H1=>D.nx σ H1
theorem aP (he:PE X e te)(hs:swapsWith e none pos.line X.env=pure false:=by rfl):PS X (.Expr e pos) (vR te):=by
 intro pins s σ H D I h;exact wpAny_Expr_any (thn (he s σ H _ I h) fun v s1 ⟨x,H1,I1,r1,q1⟩=>⟨σ,H1,I1,q1⟩) I.quiet hs
def yd (te:TE):TS:=fun D σ H=>te σ H D.rt
theorem aq (he:PE X e te):PS X (.Return (some e) pos) (yd te):=by
 intro pins s σ H D I h;exact wpAny_Return_some (thn (he s σ H _ I h) fun v s1 ⟨x,H1,I1,r1,q1⟩=>⟨x,σ,H1,I1,r1,q1⟩)
def ug (c:TT)(t u:TS):TS:=fun D σ H=>c σ H fun b H1=>if b=true then t D σ H1 else u D σ H1
theorem aB {c:Expr}{a b:List Stmt}{tc:TT}(hc:PT X c tc)(ha:PSs X a t)(hb:PSs X b u):PS X (.If c a b pos) (ug tc t u):=by
 intro pins s σ H D I h;refine wpAny_If (thn (hc s σ H _ I h) fun d s1 ⟨H1,I1,q1⟩=>?_)
 cases d with
 | true=>exact ha s1 σ H1 D I1 q1
 | false=>exact hb s1 σ H1 D I1 q1
def xX:TS:=fun _ _ _=>False
theorem cC {sts:List Stmt}:PSs X sts xX:=fun _ _ _ _ _ _ h=>h.elim
end
abbrev TG:=V→St→Hp→(St→Hp→Prop)→Prop
abbrev TGs:=List V→St→Hp→(St→Hp→Prop)→Prop
def PG (X:Cx)(target:Expr)(t:TG):Prop :=
 ∀ ⦃pins:List (Addr×Obj)⦄ (s:Shared) (σ:St)(H:Hp) (v:V) (u:Value)(Q:St→Hp→Prop),Inv X pins σ H s→ba v u→t v σ H Q →
   wpAny (model X.prog X.w) X.A (assign target X.env u) (fun _ s'=>∃ σ' H',Inv X pins σ' H' s'∧Q σ' H') X.xe s
def PGs (X:Cx)(ts:List Expr)(t:TGs):Prop :=
 ∀ ⦃pins:List (Addr×Obj)⦄ (s:Shared) (σ:St)(H:Hp)(vs:List V)(us:List Value)(Q:St→Hp→Prop),Inv X pins σ H s→Vals vs us→t vs σ H Q →
   wpAny (model X.prog X.w) X.A (assignInOrder ((assignEach ts X.env).map (·.2)) us) (fun _ s'=>∃ σ' H',Inv X pins σ' H' s'∧Q σ' H') X.xe s
abbrev xQ:=V→V→V→Hp→(Hp→Prop)→Prop
def yK (X:Cx)(t:xQ):Prop :=
 ∀ (pins:List (Addr×Obj))(s:Shared) (σ:St)(H:Hp) (o i v:V) (ov iv u:Value)(Q:Hp→Prop),Inv X pins σ H s→ba o ov→ba i iv→ba v u→t o i v H Q →
   wpAny (model X.prog X.w) X.A (setItem ov iv u) (fun _ s'=>∃ H',Inv X pins σ H' s'∧Q H') X.xe s
abbrev TIp:=V→V→Hp→VK→Prop
section
variable {X:Cx}{pos:Pos}
def bx (i:Nat):TG:=fun v σ H Q=>Q (σ.set i (some v)) H
theorem rS {i:Nat}{x:Str}(hN:X.N.Nodup)(hi:X.N[i]?=some x)(hx:Loc X.env.scope x)(hf:X.fn x=true∨X.env.scope.names.lookup x=some .local:=by first | exact .inl rfl | exact .inr rfl | assumption):PG X (.Name x pos) (bx i):=by
 intro pins s σ H v u Q I r h;exact wpAny_assign_Name (jQ I hN hi hx r (fun s' I'=>⟨_,H,I',h⟩) hf)
def iC:TGs:=fun vs σ H Q=>vs=[]∧Q σ H
def bN (t:TG)(u:TGs):TGs:=fun vs σ H Q=>∃ v r,vs=v::r∧t v σ H fun σ' H'=>u r σ' H' Q
theorem bS:PGs X [] iC:=by
 intro pins s σ H vs us Q I r h;obtain⟨e,h⟩:=h;subst e;cases r;exact assignInOrder_nil ⟨σ,H,I,h⟩
theorem aE {e:Expr}{es:List Expr}{t:TG}{u:TGs}(h1:PG X e t)(h2:PGs X es u)
   (hs:(assignEach (e::es) X.env).map (·.2)=assign e X.env::(assignEach es X.env).map (·.2):=by rfl):PGs X (e::es) (bN t u):=by
 intro pins s σ H vs us Q I r h;obtain⟨v,vr,e1,h⟩:=h;subst e1
 cases r with
 | cons r rr =>
   rw[hs];refine assignInOrder_cons (thn (h1 s σ H _ _ _ I r h) fun _ s1 ⟨σ1,H1,I1,q1⟩=>?_);exact h2 s1 σ1 H1 _ _ Q I1 rr q1
def kD (K:PySem.W.Frag) (n:Nat)(t:TGs):TG:=fun v σ H Q=>∃ a xs,v=.ref a∧SqT K H a xs∧xs.length=n∧t xs σ H Q
theorem cz {es:List Expr}{k:Nat}{t:TGs}{n:Nat}(hc:X.calm=true)(h:PGs X es t)
   (hn:(assignEach es X.env).length=n:=by rfl)(hst:(assignEach es X.env).findIdx? (·.1)=none:=by rfl):PG X (.Tuple es k pos) (kD X.K n t):=by
 intro pins s σ H v u Q I r hw;obtain⟨a,xs,e1,hq,hl,hw⟩:=hw;subst e1;cases r;obtain⟨its,rv,ht,hz⟩:=I.tuple hq;refine assign_Tuple_tuple (I.ok.hd hc) ht (by simp[hn,←hl,rv.length]) hst fun h' hx=>?_;have I1:Inv X pins σ H { s with heap:=h' }:=I.kept (t':=s.toks) fun b o e=>hx b o (Aa (Heap.lt_size e)) e;exact h _ σ H xs _ Q I1 (by simpa using rv) hw
def ye (to ti:TE)(t:xQ):TG:=fun v σ H Q=>to σ H fun o H1=>ti σ H1 fun i H2=>t o i v H2 fun H3=>Q σ H3
theorem pL {o i:Expr}{to ti:TE}{t:xQ}(ho:PE X o to)(hi:PE X i ti)(hs:yK X t)
   (ha:∀ v,assign (.Subscript o i pos) X.env v=(do
     let ov ←holding [v] (eval o X.env)
     let iv ←holding [v,ov] (eval i X.env)
     standAt pos
     holding [v,ov,iv] (setItem ov iv v)
     release [v,ov,iv] []):=by intro _;rfl):PG X (.Subscript o i pos) (ye to ti t):=by
 intro pins s σ H v u Q I r h;rw[ha];refine wpAny_bind (wpAny_holding (thn (ho s σ H _ I h) fun ov s1 ⟨x,H1,I1,r1,q1⟩=>?_));refine wpAny_bind (wpAny_holding (thn (hi s1 σ H1 _ I1 q1) fun iv s2 ⟨y,H2,I2,r2,q2⟩=>?_));refine wpAny_bind (wpAny_standAt (wpAny_bind (wpAny_holding (thn (hs pins s2 σ H2 x y v ov iv u _ I2 r1 r2 r q2) fun _ s3 ⟨H3,I3,q3⟩=>?_))));exact wpAny_release ⟨σ,H3,I3,q3⟩
def qa (te:TE)(g:TG):TS:=fun D σ H=>te σ H fun x H1=>g x σ H1 D.nx
theorem mF {tg e:Expr}{te:TE}{g:TG}(he:PE X e te)(hg:PG X tg g)(hs:swapsWithSole [tg] e pos.line X.env=pure false:=by rfl)(hw:swappedStores [tg] e X.env=pure none:=by rfl)
   (h1:(assignEach [tg] X.env).map (·.2)=[assign tg X.env]:=by rfl):PS X (.Assign [tg] e pos) (qa te g):=by
 intro pins s σ H D I h;refine wpAny_Assign_stores (thn (he s σ H _ I h) fun v s1 ⟨x,H1,I1,r1,q1⟩=>?_) hs hw;rw[h1];exact thn (hg s1 σ H1 x v _ I1 r1 q1) fun _ s2 q=>q
theorem l8 {i:Nat}{x:Str}{e:Expr}{te:TE}{pos':Pos}(hN:X.N.Nodup)(hi:X.N[i]?=some x)(hx:Loc X.env.scope x)(he:PE X e te)(hs:swapsWith e (some (.Name x pos')) pos.line X.env=pure false:=by rfl)(hf:X.fn x=true∨X.env.scope.names.lookup x=some .local:=by first | exact .inl rfl | exact .inr rfl | assumption) :
   PS X (.Assign [.Name x pos'] e pos) (qa te (bx i)):=by
 intro pins s σ H D I h;refine wpAny_Assign_Name (thn (he s σ H _ I h) fun v s1 ⟨y,H1,I1,r1,q1⟩=>?_) hs;exact jQ I1 hN hi hx r1 (fun s2 I2=>⟨_,H1,I2,q1⟩) hf
def zz (i:Nat)(te:TE)(ti:TIp):TS:=fun D σ H=>∃ x,σ[i]?=some (some x)∧te σ H fun y H1=>ti x y H1 fun z H2=>D.nx (σ.set i (some z)) H2
def ipI (f:Int→Int→Int):TIp:=fun x y H Q=>∃ i j,x=.int i∧y=.int j∧Q (.int (f i j)) H
end
section
variable {X:Cx}{pos:Pos}
def yD (c:TT)(tb:TS):TS:=fun D σ H=>∃ W:Nat→St→Hp→Prop,(∃ m,W m σ H)∧∀ m σ H,W m σ H →
 c σ H fun b H1=>if b=true then ∃ N:St→Hp→Prop,(∀ σ' H',N σ' H'→∃ m',m' < m∧W m' σ' H')∧tb { D with nx:=N,ct:=N,bk:=D.nx } σ H1 else D.nx σ H1
theorem vx {c:Expr}{body:List Stmt}{tc:TT}{tb:TS}(hp:PassesOwn (model X.prog X.w) X.A X.env X.xe)(hc:PT X c tc)(hb:PSs X body tb):PS X (.While c body [] pos) (yD tc tb):=by
 intro pins s σ H D I h;obtain⟨W,⟨m0,w0⟩,turn⟩:=h;refine wpAny_While (codeAny_whileLoop (fun n s'=>∃ σ' H',Inv X pins σ' H' s'∧W n σ' H') ?_ m0 ⟨σ,H,I,w0⟩);rintro n s1 ⟨σ1,H1,I1,w1⟩;refine wpAny_passesOwn hp (thn (hc s1 σ1 H1 _ I1 (turn n σ1 H1 w1)) fun b s2 ⟨H2,I2,q2⟩=>?_)
 cases b with
 | true =>
   obtain⟨N,hN,q2⟩:=q2;rw[if_pos rfl];refine wpAny_passesOwn hp (thn (hb s2 σ1 H2 _ I2 q2) fun f s3 q3=>?_)
   cases f with
   | next =>
     obtain⟨σ3,H3,I3,n3⟩:=q3;obtain⟨m',hm,w3⟩:=hN σ3 H3 n3;exact⟨m',hm,σ3,H3,I3,w3⟩
   | cont =>
     obtain⟨σ3,H3,I3,n3⟩:=q3;obtain⟨m',hm,w3⟩:=hN σ3 H3 n3;exact⟨m',hm,σ3,H3,I3,w3⟩
   | brk=>exact q3
   | ret v=>exact q3
 | false =>
   rw[if_neg Bool.false_ne_true];exact wpAny_execs_nil ⟨σ1,H2,I2,q2⟩
end
structure It where
 go:Nat→Hp→Prop
 yld:Nat→Hp→V→Hp→Prop
 stop:Nat→Hp→Prop
def fq (X:Cx)(pins:List (Addr×Obj))(H:Hp)(b:Addr):Prop :=
 H b=none∧b≠X.env.locals∧b∉X.fs∧(b∈X.ex∨X.s₀.heap.objs.size≤b)∧(∀ x c,X.env.cells.lookup x=some c→c≠b)∧∀ p∈X.pn++pins,p.1≠b
theorem Inv.fpOk {X:Cx}{pins:List (Addr×Obj)}{σ:St}{H H':Hp}{s:Shared}{b:Addr}(I:Inv X pins σ H s)(hb:s.heap.objs.size≤b)(hn:H' b=none):fq X pins H' b:=by
 refine⟨hn,BL (Ae I.lt hb),I.nofs hb,.inr (AG I.sz hb),fun x c e z=>?_,fun p hp z=>?_⟩
 . obtain⟨v,q⟩:=I.cell x c e;exact absurd (Ae q.lt (by rw[z];exact hb)) (Bb _)
 . exact absurd (Ae (Heap.lt_size (I.pin p hp).1) (by rw[z];exact hb)) (Bb _)
structure oj (P:Program)(w:World)(K:PySem.W.Frag)(tg:Expr)(J:It)(fp:List Addr)(it:Addr)(tn:Nat→Heap→Prop):Prop where
 mem:it∈fp
 obj:∀ i h,tn i h→∀ b∈fp,∃ o,h.get? b=some o∧∀ v,o.data≠.cell v
 keep:∀ i h h',tn i h→(∀ b∈fp,∀ o,h.get? b=some o→h'.get? b=some o)→tn i h'
 item:∀ (X:Cx),X.prog=P→X.w=w→X.K=K→X.calm=true→∀ (i:Nat)(pins:List (Addr×Obj))(s:Shared) (σ:St)(H:Hp)(E:Value→Shared→Prop),Inv X pins σ H s→(∀ b∈fp,fq X pins H b)→tn i s.heap→J.go i H →
   wpAny (model P w) X.A (pyNext (.ref it)) (fun r s1=>∃ u,r=some u ∧
     wpAny (model P w) X.A (letOwnedTupleGo tg (.ref it) u) (fun _ s2=>∃ x H',Inv X pins σ H' s2∧ba x u∧J.yld i H x H'∧tn (i+1) s2.heap∧∀ b∈fp,H' b=none) E s1) E s
 done:∀ (X:Cx),X.prog=P→X.w=w→X.K=K→X.calm=true→∀ (i:Nat)(pins:List (Addr×Obj))(s:Shared) (σ:St)(H:Hp)(E:Value→Shared→Prop),Inv X pins σ H s→(∀ b∈fp,fq X pins H b)→tn i s.heap→J.stop i H →
   wpAny (model P w) X.A (pyNext (.ref it)) (fun r s1=>r=none∧Inv X pins σ H s1) E s
 self:∀ (A:Around) (i:Nat)(s:Shared)(Q:Value→Shared→Prop)(E:Value→Shared→Prop),tn i s.heap→Q (.ref it) s→wpAny (model P w) A (pyIter (.ref it)) Q E s
abbrev TI:=St→Hp→(It→Hp→Prop)→Prop
def PIE (X:Cx)(pins:List (Addr×Obj)) (σ:St)(tg:Expr)(R:It→Hp→Prop) (itv:Value)(s2:Shared):Prop :=
 ∃ (it:Addr)(fp:List Addr)(tn:Nat→Heap→Prop)(J:It)(H':Hp),itv=.ref it∧Inv X pins σ H' s2∧oj X.prog X.w X.K tg J fp it tn∧tn 0 s2.heap∧(∀ b∈fp,fq X pins H' b)∧R J H'
def PI (X:Cx)(tg iter:Expr)(wi:TI):Prop :=
 ∀ ⦃pins:List (Addr×Obj)⦄ (s:Shared) (σ:St)(H:Hp)(R:It→Hp→Prop),Inv X pins σ H s→wi σ H R →
   wpAny (model X.prog X.w) X.A (eval iter X.env) (fun v s1=>wpAny (model X.prog X.w) X.A (pyIter v) (PIE X pins σ tg R) X.xe s1) X.xe s
theorem oa {M:Model}{A:Around}{E:Value→Shared→Prop}{s:Shared}{tg:Expr}{it:Addr}{u:Value}{o:Obj}{n:String}{vs:Array Value}{Q:Unit→Shared→Prop}(ho:s.heap.get? it=some o)(hc:o.cls=.type n)(hd:o.data=.fields vs)
   (hn:["enumerate", "zip", "dict_itemiterator", "dict_reverseitemiterator", "odict_iterator", "itertools.zip_longest", "itertools.pairwise"].contains n=false)(hQ:Q () s):wpAny M A (letOwnedTupleGo tg (.ref it) u) Q E s:=by
 unfold letOwnedTupleGo
 cases tg<;>first
   | exact wpAny_pure hQ
   | (cases u<;>first
       | exact wpAny_pure hQ
       | (refine wpAny_bind (wpAny_load ho ?_)
          rw[hc,hd];show wpAny M A (if(["enumerate", "zip", "dict_itemiterator", "dict_reverseitemiterator", "odict_iterator", "itertools.zip_longest", "itertools.pairwise"].contains n&&vs[0]?==some (rawInt _))=true then _ else _) Q E s;rw[if_neg (by intro h;rw[hn,Bool.false_and] at h;cases h)]
          exact wpAny_pure hQ))
def Itl (K:PySem.W.Frag)(a:Addr):It :=
 ⟨fun i H=>∃ xs x,SqL K H a xs∧xs[i]?=some x,fun i H x H'=>H'=H∧∀ xs,SqL K H a xs→xs[i]?=some x,fun i H=>∃ xs,SqL K H a xs∧xs.length≤i⟩
def Itt (K:PySem.W.Frag)(a:Addr):It :=
 ⟨fun i H=>∃ xs x,SqT K H a xs∧xs[i]?=some x,fun i H x H'=>H'=H∧∀ xs,SqT K H a xs→xs[i]?=some x,fun i H=>∃ xs,SqT K H a xs∧xs.length≤i⟩
def Itr (lo:Int) (n:Nat):It:=⟨fun i _=>i < n,fun i H x H'=>H'=H∧x=.int (lo+i),fun i _=>n≤i⟩
theorem tj {P:Program}{w:World}{K:PySem.W.Frag}{tg:Expr}(a it:Addr):oj P w K tg (Itl K a) [it] it (fun i h=>h.IsListIter it a i) where
 mem:=by simp
 obj:=fun i h st b hb=>by
   have e:b=it:=by simpa using hb
   subst e;obtain⟨o,e,c,d⟩:=st;exact⟨o,e,fun v z=>by rw[d] at z;cases z⟩
 keep:=fun i h h' st k=>st.at fun o e=>k it (by simp) o e
 item:=by
   intro X hP hw hK hc i pins s σ H E I hf st hg;subst hP hw hK;obtain⟨xs,x,hq,hx⟩:=hg;obtain⟨its,rv,p,hz⟩:=I.list hq;obtain⟨u,hu,ru⟩:=rv.get hx;obtain⟨f0,f1,f2,f3,f4,f5⟩:=hf it (by simp);refine wpAny_pyNext_list_item st p.isList (x:=u) (by simpa using hu) fun h' st' sb=>?_;have I1:Inv X pins σ H { s with heap:=h' }:=I.turned (t':=s.toks) (fun b o hb e=>(sb.2 b hb).trans e) f0 f1 f3 f4 f5;obtain⟨o,e,c,d⟩:=id st';exact⟨u,rfl,oa (s:={ s with heap:=h' }) e c d (by decide) ⟨x,H,I1,ru,⟨rfl,fun ys hy=>by rw[I.list_inj hy hq];exact hx⟩,st',fun b hb=>(hf b hb).1⟩⟩
 done:=by
   intro X hP hw hK hc i pins s σ H E I hf st hg;subst hP hw hK;obtain⟨xs,hq,hx⟩:=hg;obtain⟨its,rv,p,hz⟩:=I.list hq;obtain⟨f0,f1,f2,f3,f4,f5⟩:=hf it (by simp);have hl:=rv.length;exact wpAny_pyNext_list_end (I.ok.hd hc) st p.isList (by simp;omega) fun h' eb=>⟨rfl,I.turned (t':=s.toks) (fun b o hb e=>eb b o hb e) f0 f1 f3 f4 f5⟩
 self:=fun _ _ _ _ _ st h=>wpAny_pyIter_listiter st h
theorem qI {P:Program}{w:World}{K:PySem.W.Frag}{tg:Expr}(a it:Addr):oj P w K tg (Itt K a) [it] it (fun i h=>h.IsTupleIter it a i) where
 mem:=by simp
 obj:=fun i h st b hb=>by
   have e:b=it:=by simpa using hb
   subst e;obtain⟨o,e,c,d⟩:=st;exact⟨o,e,fun v z=>by rw[d] at z;cases z⟩
 keep:=fun i h h' st k=>st.at fun o e=>k it (by simp) o e
 item:=by
   intro X hP hw hK hc i pins s σ H E I hf st hg;subst hP hw hK;obtain⟨xs,x,hq,hx⟩:=hg;obtain⟨its,rv,p,hz⟩:=I.tuple hq;obtain⟨u,hu,ru⟩:=rv.get hx;obtain⟨f0,f1,f2,f3,f4,f5⟩:=hf it (by simp);refine wpAny_pyNext_tuple_item st (show s.heap.IsTuple a its.toArray from p) (x:=u) (by simpa using hu) fun h' st' sb=>?_;have I1:Inv X pins σ H { s with heap:=h' }:=I.turned (t':=s.toks) (fun b o hb e=>(sb.2 b hb).trans e) f0 f1 f3 f4 f5;obtain⟨o,e,c,d⟩:=id st';exact⟨u,rfl,oa (s:={ s with heap:=h' }) e c d (by decide) ⟨x,H,I1,ru,⟨rfl,fun ys hy=>by rw[I.tuple_inj hy hq];exact hx⟩,st',fun b hb=>(hf b hb).1⟩⟩
 done:=by
   intro X hP hw hK hc i pins s σ H E I hf st hg;subst hP hw hK;obtain⟨xs,hq,hx⟩:=hg;obtain⟨its,rv,p,hz⟩:=I.tuple hq;obtain⟨f0,f1,f2,f3,f4,f5⟩:=hf it (by simp);have hl:=rv.length;exact wpAny_pyNext_tuple_end (I.ok.hd hc) st (show s.heap.IsTuple a its.toArray from p) (by simp;omega) fun h' eb=>⟨rfl,I.turned (t':=s.toks) (fun b o hb e=>eb b o hb e) f0 f1 f3 f4 f5⟩
 self:=fun _ _ _ _ _ st h=>wpAny_pyIter_tupleiter st h
theorem qK {P:Program}{w:World}{K:PySem.W.Frag}{tg:Expr}(it:Addr) (lo:Int) (n:Nat):oj P w K tg (Itr lo n) [it] it (fun i h=>IsRangeIter h it (lo+(i:Nat)*1) ((n:Int) - (i:Nat)) 1) where
 mem:=by simp
 obj:=fun i h st b hb=>by
   have e:b=it:=by simpa using hb
   subst e
   exact⟨_,st,fun v z=>by
     have z':Data.fields _=Data.cell v:=z
     cases z'⟩
 keep:=fun i h h' st k=>k it (by simp) _ st
 item:=by
   intro X hP hw hK hc i pins s σ H E I hf st hg;subst hP hw hK;obtain⟨f0,f1,f2,f3,f4,f5⟩:=hf it (by simp);have W:=Walks.range (prog:=X.prog) (w:=X.w) (I.ok.hd hc) it lo 1 n;refine W.item i s _ _ hg st fun v h' tk hv st' kk=>?_;obtain⟨t,rfl⟩:=hv;have I1:Inv X pins σ H { s with heap:=h',toks:=tk }:=I.turned (fun b o hb e=>kk b o (by simpa using hb) e) f0 f1 f3 f4 f5;refine⟨_,rfl,oa (s:={ s with heap:=h',toks:=tk }) (n:="range_iterator") st' rfl rfl (by decide) ⟨.int (lo+i),H,I1,⟨t,?_⟩,⟨rfl,rfl⟩,st',fun b hb=>(hf b hb).1⟩⟩;rw[Int.mul_one]
 done:=by
   intro X hP hw hK hc i pins s σ H E I hf st hg;subst hP hw hK;obtain⟨f0,f1,f2,f3,f4,f5⟩:=hf it (by simp);exact wpAny_pyNext_range_end (I.ok.hd hc) st (by have:n≤i:=hg;omega) fun h' eb=>⟨rfl,I.turned (t':=s.toks) (fun b o hb e=>eb b o hb e) f0 f1 f3 f4 f5⟩
 self:=fun _ _ _ _ _ st h=>wpAny_pyIter_rangeiter st h
section
variable {X:Cx}{tg:Expr}
def vL (K:PySem.W.Frag)(tl:TE):TI:=fun σ H R=>tl σ H fun x H1=>∃ a,x=.ref a∧(∃ xs,SqL K H1 a xs)∧R (Itl K a) H1
def xW (K:PySem.W.Frag)(tl:TE):TI:=fun σ H R=>tl σ H fun x H1=>∃ a,x=.ref a∧(∃ xs,SqT K H1 a xs)∧R (Itt K a) H1
theorem a8 {l:Expr}{tl:TE}(hl:PE X l tl):PI X tg l (vL X.K tl):=by
 intro pins s σ H R I h;refine thn (hl s σ H _ I h) fun v s1 ⟨x,H1,I1,r1,q1⟩=>?_;obtain⟨a,e,⟨xs,hq⟩,q⟩:=q1;subst e;cases r1;obtain⟨its,rv,p,hz⟩:=I1.list hq;refine wpAny_pyIter_list p.isList ?_;refine⟨s1.heap.objs.size,[s1.heap.objs.size],_,_,H1,rfl,I1.kept (t':=s1.toks) fun b o e=>Heap.get?_push_of_some _ e,tj a _,⟨_,Heap.get?_push_size _ rfl,rfl,rfl⟩,fun b hb=>?_,q⟩
 have e:b=s1.heap.objs.size:=by simpa using hb
 subst e;exact I1.fpOk (zR _) (I1.hok.fresh (zR _))
theorem xE {l:Expr}{tl:TE}(hl:PE X l tl):PI X tg l (xW X.K tl):=by
 intro pins s σ H R I h;refine thn (hl s σ H _ I h) fun v s1 ⟨x,H1,I1,r1,q1⟩=>?_;obtain⟨a,e,⟨xs,hq⟩,q⟩:=q1;subst e;cases r1;obtain⟨its,rv,p,hz⟩:=I1.tuple hq;refine wpAny_pyIter_tuple (show s1.heap.IsTuple a its.toArray from p) ?_;refine⟨s1.heap.objs.size,[s1.heap.objs.size],_,_,H1,rfl,I1.kept (t':=s1.toks) fun b o e=>Heap.get?_push_of_some _ e,qI a _,⟨_,Heap.get?_push_size _ rfl,rfl,rfl⟩,fun b hb=>?_,q⟩
 have e:b=s1.heap.objs.size:=by simpa using hb
 subst e;exact I1.fpOk (zR _) (I1.hok.fresh (zR _))
theorem uT {pins:List (Addr×Obj)}{σ:St}{H:Hp}{s:Shared}{R:It→Hp→Prop}{E:Value→Shared→Prop}{lo hi:Int}{t u v:Tok}{tk:Nat}(I:Inv X pins σ H s)(h1:-(2 ^ 62)≤lo)(h2:lo < 2 ^ 62)(h3:-(2 ^ 62)≤hi)(h4:hi < 2 ^ 62)
   (q:R (Itr lo (hi - lo).toNat) H):wpAny (model X.prog X.w) X.A (pyIter (.ref s.heap.objs.size)) (PIE X pins σ tg R) E { s with heap:=s.heap.push { cls:=.type "range",data:=.fields #[.int lo t,.int hi u,.int 1 v] },toks:=tk }:=by
 refine wpAny_pyIter_range (IsRange.new ..) (small_one h1 h2 h3 h4) ?_;have I1:Inv X pins σ H { s with heap:=s.heap.push { cls:=.type "range",data:=.fields #[.int lo t,.int hi u,.int 1 v] },toks:=tk }:=I.kept fun b o e=>Heap.get?_push_of_some _ e
 refine⟨(s.heap.push { cls:=.type "range",data:=.fields #[.int lo t,.int hi u,.int 1 v] }).objs.size,[(s.heap.push { cls:=.type "range",data:=.fields #[.int lo t,.int hi u,.int 1 v] }).objs.size],_,_,H,rfl,
   I1.kept (t':=tk) fun b o e=>Heap.get?_push_of_some _ e,qK _ lo (hi - lo).toNat,?_,fun b hb=>?_,q⟩
 . have e1:lo+((0:Nat):Int)*1=lo:=by simp
   have e2:(((hi - lo).toNat:Nat):Int) - ((0:Nat):Int)=Builtin.Range.rangeSize lo hi 1:=by rw[rangeSize_one];split<;>omega
   show IsRangeIter _ _ (lo+((0:Nat):Int)*1) ((((hi - lo).toNat:Nat):Int) - ((0:Nat):Int)) 1;rw[e1,e2];exact Heap.get?_push_size _ rfl
 . have e:b=(s.heap.push { cls:=.type "range",data:=.fields #[.int lo t,.int hi u,.int 1 v] }).objs.size:=by simpa using hb
   subst e;exact I1.fpOk (zR _) (I1.hok.fresh (zR _))
def uh (ta:TA):TI:=fun σ H R=>ta σ H fun vs H1=>∃ j:Int,vs=[.int j]∧-(2 ^ 62)≤j∧j < 2 ^ 62∧R (Itr 0 j.toNat) H1
def xv (ta:TA):TI:=fun σ H R=>ta σ H fun vs H1=>∃ i j:Int,vs=[.int i,.int j]∧(-(2 ^ 62)≤i∧i < 2 ^ 62∧-(2 ^ 62)≤j∧j < 2 ^ 62)∧R (Itr i (j - i).toNat) H1
theorem cc {a:Expr}{ta:TA}{p pos:Pos}(hg:Gl X "range")(hm:X.mg "range"=none)(ha:PA X [a] ta)(hs:starEach [a] X.env=[(false,eval a X.env)]:=by rfl):PI X tg (.Call (.Name "range" p) [a] [] pos) (uh ta):=by
 intro pins s σ H R I h;refine Call_ (iU I hg hm boot_range (Ba (thn (ha pos s σ H _ I h) fun us s1 ⟨vs,H1,I1,r1,q1⟩=>?_) hs rfl));obtain⟨j,e,q1,q2,q⟩:=q1;subst e
 cases r1 with
 | cons r rr =>
   cases rr;obtain⟨t,rfl⟩:=r;exact call_range_1 (uT I1 (by omega) (by omega) q1 q2 (by simpa using q))
def zl (wi:TI)(g:TG)(tb:TS):TS:=fun D σ H=>wi σ H fun J H1=>∃ W:Nat→Nat→St→Hp→Prop,(∃ m,W 0 m σ H1)∧∀ i m σ H,W i m σ H →
 (J.stop i H∧D.nx σ H)∨(J.go i H∧∃ N:St→Hp→Prop,(∀ σ' H',N σ' H'→∃ m',m' < m∧W (i+1) m' σ' H')∧∀ x H',J.yld i H x H'→g x σ H' fun σ2 H2=>tb { D with nx:=N,ct:=N,bk:=D.nx } σ2 H2)
def kE (fp:List Addr)(h:Heap):List (Addr×Obj):=fp.filterMap fun b=>(h.get? b).map fun o=>(b,o)
theorem dh {fp:List Addr}{h:Heap}{b:Addr}{o:Obj}(hb:b∈fp)(e:h.get? b=some o):(b,o)∈kE fp h:=List.mem_filterMap.mpr ⟨b,hb,by rw[e];rfl⟩
theorem tf {fp:List Addr}{h:Heap}{p:Addr×Obj}(hp:p∈kE fp h):p.1∈fp∧h.get? p.1=some p.2:=by
 obtain⟨b,hb,e⟩:=List.mem_filterMap.mp hp
 cases q:h.get? b with
 | none=>rw[q] at e;cases e
 | some o =>
   rw[q] at e;have e':(b,o)=p:=Option.some.inj e;subst e';exact⟨hb,q⟩
theorem Inv.pinned {pins:List (Addr×Obj)}{σ:St}{H:Hp}{s:Shared}{fp:List Addr}(I:Inv X pins σ H s)(hf:∀ b∈fp,fq X pins H b)(ho:∀ b∈fp,∃ o,s.heap.get? b=some o∧∀ v,o.data≠.cell v):Inv X (pins++kE fp s.heap) σ H s :=
 I.pins_of fun p hp=>(List.mem_append.mp hp).elim (fun z=>I.pin p (Ai _ z)) fun z=>by
   obtain⟨hb,e⟩:=tf z;obtain⟨f0,f1,f2,_⟩:=hf p.1 hb;obtain⟨o,e',d⟩:=ho p.1 hb;rw[e] at e';cases e';exact⟨e,f0,f1,f2,d⟩
theorem Inv.unpinned {pins pl:List (Addr×Obj)}{σ:St}{H:Hp}{s:Shared}(I:Inv X (pins++pl) σ H s):Inv X pins σ H s:=I.pins_of fun p hp=>I.pin p (Ai _ (AX _ hp))
theorem bC {iter:Expr}{body:List Stmt}{wi:TI}{g:TG}{tb:TS}{pos:Pos}(hp:PassesOwn (model X.prog X.w) X.A X.env X.xe)(hc:X.calm=true)(hi:PI X tg iter wi)(hg:PG X tg g)(hb:PSs X body tb)
   (hs:∀ x,foldedSetIterable iter X.env x=pure x:=by intro _;rfl):PS X (.For tg iter body [] pos) (zl wi g tb):=by
 intro pins s σ H D I h;refine wpAny_For (thn (hi s σ H _ I h) fun v s1 h1=>thn h1 fun itv s2 h2=>?_) hs;obtain⟨it,fp,tn,J,H2,e,I2,T,st2,f2,W,⟨m0,w0⟩,turn⟩:=h2;subst e;have stat:∀ {H':Hp},(∀ b∈fp,H' b=none)→∀ b∈fp,fq X pins H' b:=fun hn b hb=>⟨hn b hb,(f2 b hb).2⟩;refine codeAny_forLoop_any (fun n s'=>∃ i σ' H',Inv X pins σ' H' s'∧tn i s'.heap∧(∀ b∈fp,H' b=none)∧W i n σ' H') ?_ m0 ⟨0,σ,H2,I2,st2,fun b hb=>(f2 b hb).1,w0⟩;rintro n s3 ⟨i,σ3,H3,I3,st3,fr3,w3⟩
 rcases turn i n σ3 H3 w3 with ⟨stop,qn⟩ | ⟨go,N,hN,step⟩
 . refine wpAny_passesOwn hp (thn (T.done X rfl rfl rfl hc i pins s3 σ3 H3 X.xe I3 (stat fr3) st3 stop) fun r s4 ⟨hr,I4⟩=>?_);subst hr;exact wpAny_execs_nil ⟨σ3,H3,I4,qn⟩
 . refine wpAny_passesOwn hp (thn (T.item X rfl rfl rfl hc i pins s3 σ3 H3 X.xe I3 (stat fr3) st3 go) fun r s4 ⟨u,hr,h4⟩=>?_);subst hr;refine wpAny_passesOwn hp (thn h4 fun _ s5 ⟨x,H5,I5,r5,y5,st5,fr5⟩=>?_);have I5':=I5.pinned (stat fr5) (T.obj _ _ st5);refine wpAny_passesOwn hp (thn (hg s5 σ3 H5 x u _ I5' r5 (step x H5 y5)) fun _ s6 ⟨σ6,H6,I6,q6⟩=>?_);refine wpAny_passesOwn hp (thn (hb s6 σ6 H6 _ I6 q6) fun f s7 q7=>?_)
   have again:∀ {σ7:St}{H7:Hp},Inv X (pins++kE fp s5.heap) σ7 H7 s7→N σ7 H7→∃ m,m < n∧∃ i σ' H',Inv X pins σ' H' s7∧tn i s7.heap∧(∀ b∈fp,H' b=none)∧W i m σ' H':=fun {σ7 H7} I7 n7=>by
     obtain⟨m',hm,w7⟩:=hN σ7 H7 n7;refine⟨m',hm,i+1,σ7,H7,I7.unpinned,T.keep _ _ _ st5 fun b hb o e=>(I7.pin (b,o) (Ai _ (Ai _ (dh hb e)))).1,fun b hb=>?_,w7⟩;obtain⟨o,e,d⟩:=T.obj _ _ st5 b hb;exact(I7.pin (b,o) (Ai _ (Ai _ (dh hb e)))).2.1
   cases f with
   | next=>obtain⟨σ7,H7,I7,n7⟩:=q7;exact again I7 n7
   | cont=>obtain⟨σ7,H7,I7,n7⟩:=q7;exact again I7 n7
   | brk=>obtain⟨σ7,H7,I7,q7⟩:=q7;exact⟨σ7,H7,I7.unpinned,q7⟩
   | ret v=>obtain⟨x7,σ7,H7,I7,r7,q7⟩:=q7;exact⟨x7,σ7,H7,I7.unpinned,r7,q7⟩
end
abbrev R2:=V→V→Hp→VK→Prop
def OpR (X:Cx)(f:Value→Value→Sem Value)(r:R2):Prop :=
 ∀ (pins:List (Addr×Obj))(s:Shared) (σ:St)(H:Hp) (x y:V) (v u:Value)(Q:VK),Inv X pins σ H s→ba x v→ba y u→r x y H Q →
   wpAny (model X.prog X.w) X.A (f v u) (EP X pins σ Q) X.xe s
def UnR (X:Cx)(f:Value→Sem Value)(r:V→Hp→VK→Prop):Prop :=
 ∀ (pins:List (Addr×Obj))(s:Shared) (σ:St)(H:Hp) (x:V) (v:Value)(Q:VK),Inv X pins σ H s→ba x v→r x H Q →
   wpAny (model X.prog X.w) X.A (f v) (EP X pins σ Q) X.xe s
def cq (X:Cx) (f:Value)(r:List V→Hp→VK→Prop):Prop :=
 ∀ (pins:List (Addr×Obj))(s:Shared) (σ:St)(H:Hp)(xs:List V)(us:List Value)(Q:VK),Inv X pins σ H s→Vals xs us→r xs H Q →
   wpAny (model X.prog X.w) X.A (call f us) (EP X pins σ Q) X.xe s
def tOp (r:R2)(ta tb:TE):TE:=fun σ H Q=>ta σ H fun x H1=>tb σ H1 fun y H2=>r x y H2 Q
def tUn (r:V→Hp→VK→Prop)(ta:TE):TE:=fun σ H Q=>ta σ H fun x H1=>r x H1 Q
def rI (C:Int→Int→Prop)(g:Int→Int→V):R2:=fun x y H Q=>isInt x fun i=>isInt y fun j=>C i j∧Q (g i j) H
def rI0 (g:Int→Int→V):R2:=fun x y H Q=>isInt x fun i=>isInt y fun j=>Q (g i j) H
def rU (g:Int→V):V→Hp→VK→Prop:=fun x H Q=>∃ i,x=.int i∧Q (g i) H
section
variable {X:Cx}{a b c:Expr}{ta tb tc:TE}{pos:Pos}
theorem xH (ha:PE X a ta)(hb:PE X b tb){pins:List (Addr×Obj)}{s:Shared}{σ:St}{H:Hp}{R:V→V→Hp→Prop}(I:Inv X pins σ H s)
   (h:ta σ H fun x H1=>tb σ H1 fun y H2=>R x y H2){Q:Value→Shared→Prop}{f:Value→Value→Sem Value}
   (hf:∀ v u s2 x y H2,Inv X pins σ H2 s2→ba x v→ba y u→R x y H2→wpAny (model X.prog X.w) X.A (f v u) Q X.xe s2) :
   wpAny (model X.prog X.w) X.A (eval a X.env) (fun v s₁=>wpAny (model X.prog X.w) X.A (eval b X.env) (fun u s₂=>wpAny (model X.prog X.w) X.A (f v u) Q X.xe s₂) X.xe s₁) X.xe s:=by
 refine thn (ha s σ H _ I h) fun v s1 ⟨x,H1,I1,r1,q1⟩=>?_;refine thn (hb s1 σ H1 _ I1 q1) fun u s2 ⟨y,H2,I2,r2,q2⟩=>?_;exact hf v u s2 x y H2 I2 r1 r2 q2
theorem aH {op:Operator}{r:R2}(ho:OpR X (binaryOp op) r)(ha:PE X a ta)(hb:PE X b tb):PE X (.BinOp a op b pos) (tOp r ta tb):=by
 intro pins s σ H Q I h;exact wpAny_BinOp (xH ha hb I h fun v u s2 x y H2 I2 rx ry q=>ho pins s2 σ H2 x y v u Q I2 rx ry q)
theorem eG {op:UnaryOp}{r:V→Hp→VK→Prop}(ho:UnR X (unaryOp op) r)(ha:PE X a ta):PE X (.UnaryOp op a pos) (tUn r ta):=by
 intro pins s σ H Q I h;exact UnaryOp_ (thn (ha s σ H _ I h) fun v s1 ⟨x,H1,I1,r1,q1⟩=>ho pins s1 σ H1 x v Q I1 r1 q1)
theorem opI {f:Value→Value→Sem Value}{C:Int→Int→Prop}{g:Int→Int→Int}
   (rule:∀ (i j:Int)(t u:Tok)(s:Shared)(Q:Value→Shared→Prop)(E:Value→Shared→Prop),C i j→Q (.int (g i j) s.toks) { s with toks:=s.toks+1 }→wpAny (model X.prog X.w) X.A (f (.int i t) (.int j u)) Q E s) :
   OpR X f (rI C fun i j=>.int (g i j)):=by
 intro pins s σ H x y v u Q I rx ry h;rw[rI,cU] at h;obtain⟨i,rfl,h⟩:=h;rw[cU] at h;obtain⟨j,rfl,hc,q⟩:=h;obtain⟨t,rfl⟩:=rx;obtain⟨t',rfl⟩:=ry;exact rule i j t t' s _ _ hc ⟨.int (g i j),H,I.tok _,⟨_,rfl⟩,q⟩
theorem y7 {f:Value→Value→Sem Value}{g:Int→Int→Int}
   (rule:∀ (i j:Int)(t u:Tok)(s:Shared)(Q:Value→Shared→Prop)(E:Value→Shared→Prop),Q (.int (g i j) s.toks) { s with toks:=s.toks+1 }→wpAny (model X.prog X.w) X.A (f (.int i t) (.int j u)) Q E s) :
   OpR X f (rI0 fun i j=>.int (g i j)):=by
 intro pins s σ H x y v u Q I rx ry h;rw[rI0,cU] at h;obtain⟨i,rfl,h⟩:=h;rw[cU] at h;obtain⟨j,rfl,q⟩:=h;obtain⟨t,rfl⟩:=rx;obtain⟨t',rfl⟩:=ry;exact rule i j t t' s _ _ ⟨.int (g i j),H,I.tok _,⟨_,rfl⟩,q⟩
theorem xi {f:Value→Value→Sem Value}{g:Int→Int→Bool}
   (rule:∀ (i j:Int)(t u:Tok)(s:Shared)(Q:Value→Shared→Prop)(E:Value→Shared→Prop),Q (.bool (g i j)) s→wpAny (model X.prog X.w) X.A (f (.int i t) (.int j u)) Q E s) :
   OpR X f (rI0 fun i j=>.bl (g i j)):=by
 intro pins s σ H x y v u Q I rx ry h;rw[rI0,cU] at h;obtain⟨i,rfl,h⟩:=h;rw[cU] at h;obtain⟨j,rfl,q⟩:=h;obtain⟨t,rfl⟩:=rx;obtain⟨t',rfl⟩:=ry;exact rule i j t t' s _ _ ⟨.bl (g i j),H,I,rfl,q⟩
def yR (i j:Int):Prop:=0 < j∧j < 1073741824
def zH (i j:Int):Prop:=0≤j∧j≤1000000∧i.natAbs < 2 ^ 64
def ud (i j:Int):Prop:=(-(2 ^ 64) < i∧i < 2 ^ 64)∨(-(2 ^ 64) < j∧j < 2 ^ 64)
theorem ud.ok {i j:Int}(h:ud i j):IntMulOk i j:=by
 rcases h with ⟨h1,h2⟩ | ⟨h1,h2⟩
 . exact .of_left (intBits_le_64 h1 h2)
 . exact .of_right (intBits_le_64 h1 h2)
theorem cn:OpR X (binaryOp .Add) (rI0 fun i j=>.int (i+j)):=y7 fun _ _ _ _ _ _ _ q=>add_int q
theorem mY:OpR X (binaryOp .Sub) (rI0 fun i j=>.int (i - j)):=y7 fun _ _ _ _ _ _ _ q=>sub_int q
theorem fK:OpR X (binaryOp .Mult) (rI ud fun i j=>.int (i*j)):=opI fun _ _ _ _ _ _ _ hc q=>mul_int q hc.ok
theorem bp:OpR X (binaryOp .Mod) (rI (fun _ j=>0 < j) fun i j=>.int (i % j)):=opI fun i j _ _ _ _ _ hc q=>by
 have h1:(0:Int) < j:=hc;exact mod_int' (by omega) (by rw[Int.fmod_eq_emod_of_nonneg i (by omega)];exact q)
theorem t7:OpR X (binaryOp .Pow) (rI zH fun i j=>.int (i ^ j.toNat)):=opI fun _ _ _ _ _ _ _ hc q=>pow_int_small hc.1 hc.2.1 hc.2.2 q
theorem unI {f:Value→Sem Value}{g:Int→Int}
   (rule:∀ (i:Int)(t:Tok)(s:Shared)(Q:Value→Shared→Prop)(E:Value→Shared→Prop),Q (.int (g i) s.toks) { s with toks:=s.toks+1 }→wpAny (model X.prog X.w) X.A (f (.int i t)) Q E s) :
   UnR X f (rU fun i=>.int (g i)):=by
 intro pins s σ H x v Q I rx h;obtain⟨i,rfl,q⟩:=h;obtain⟨t,rfl⟩:=rx;exact rule i t s _ _ ⟨.int (g i),H,I.tok _,⟨_,rfl⟩,q⟩
theorem dj:UnR X (unaryOp .USub) (rU fun i=>.int (-i)):=unI fun _ _ _ _ _ q=>neg_int q
end
def yN:V→V→Bool
 | .non,.non=>true | .non,.int _=>true | .int _,.non=>true | .non,.bl _=>true | .bl _,.non=>true | .non,.str _=>true | .str _,.non=>true
 | .int _,.int _=>true | .bl _,.bl _=>true | .str _,.str _=>true | .byt _,.byt _=>true
 | .int _,.str _=>true | .str _,.int _=>true | .bl _,.str _=>true | .str _,.bl _=>true
 | _,_=>false
def rEq:R2:=fun x y H Q=>yN x y=true∧Q (.bl (decide (x=y))) H
def rNe:R2:=fun x y H Q=>yN x y=true∧Q (.bl (!decide (x=y))) H
theorem rn {i j:Int}:decide (V.int i=V.int j)=(i==j):=by
 rw[Bool.eq_iff_iff];simp
theorem vI {i j:Bool}:decide (V.bl i=V.bl j)=(i==j):=by
 rw[Bool.eq_iff_iff];simp
theorem rV {i j:Str}:decide (V.str i=V.str j)=(i==j):=by
 rw[Bool.eq_iff_iff];simp
theorem rY {i j:Array UInt8}:decide (V.byt i=V.byt j)=(i.toList==j.toList):=by
 rw[Bool.eq_iff_iff];cases i;cases j;simp
section
variable {X:Cx}{a b c:Expr}{ta tb tc:TE}{pos:Pos}
theorem bd {pins:List (Addr×Obj)}{σ:St}{H:Hp}{s:Shared}{Q:VK}{k k':Bool}(I:Inv X pins σ H s)(q:Q (.bl k) H)(e:k=k'):EP X pins σ Q (.bool k') s:=by
 subst e;exact⟨.bl k,H,I,rfl,q⟩
theorem bM:OpR X (compareOp .Eq) rEq:=by
 intro pins s σ H x y v u Q I rx ry h;obtain⟨hs,q⟩:=h
 cases x with
 | non =>
   cases rx
   cases y with
   | non=>cases ry;exact PySem.EqNone.eq_none_none (bd I q (by simp))
   | bl j=>cases ry;exact PySem.EqNone.eq_none_bool (bd I q (by simp))
   | int j=>obtain⟨t',rfl⟩:=ry;exact PySem.EqNone.eq_none_int (bd I q (by simp))
   | str j=>obtain⟨t',rfl⟩:=ry;exact PySem.EqNone.eq_none_str (bd I q (by simp))
   | _=>exact absurd (show false=true from hs) Bool.false_ne_true
 | bl i =>
   cases rx
   cases y with
   | non=>cases ry;exact PySem.EqNone.eq_bool_none (bd I q (by simp))
   | bl j=>cases ry;exact eq_bool (bd I q vI)
   | str j=>obtain⟨t',rfl⟩:=ry;exact PySem.EqMixed.eq_bool_str (bd I q (by simp))
   | _=>exact absurd (show false=true from hs) Bool.false_ne_true
 | int i =>
   obtain⟨t,rfl⟩:=rx
   cases y with
   | non=>cases ry;exact PySem.EqNone.eq_int_none (bd I q (by simp))
   | int j=>obtain⟨t',rfl⟩:=ry;exact eq_int (bd I q rn)
   | str j=>obtain⟨t',rfl⟩:=ry;exact PySem.EqMixed.eq_int_str (bd I q (by simp))
   | _=>exact absurd (show false=true from hs) Bool.false_ne_true
 | str i =>
   obtain⟨t,rfl⟩:=rx
   cases y with
   | non=>cases ry;exact PySem.EqNone.eq_str_none (bd I q (by simp))
   | bl j=>cases ry;exact PySem.EqMixed.eq_str_bool (bd I q (by simp))
   | int j=>obtain⟨t',rfl⟩:=ry;exact PySem.EqMixed.eq_str_int (bd I q (by simp))
   | str j=>obtain⟨t',rfl⟩:=ry;exact eq_str (bd I q rV)
   | _=>exact absurd (show false=true from hs) Bool.false_ne_true
 | byt i =>
   obtain⟨t,rfl⟩:=rx
   cases y with
   | byt j=>obtain⟨t',rfl⟩:=ry;exact PySem.W.eq_bytes (bd I q rY)
   | _=>exact absurd (show false=true from hs) Bool.false_ne_true
 | _=>cases y<;>exact absurd (show false=true from hs) Bool.false_ne_true
theorem i6:OpR X (compareOp .NotEq) rNe:=by
 intro pins s σ H x y v u Q I rx ry h;obtain⟨hs,q⟩:=h
 cases x with
 | non =>
   cases rx
   cases y with
   | non=>cases ry;exact PySem.EqNone.ne_none_none (bd I q (by simp))
   | bl j=>cases ry;exact PySem.EqNone.ne_none_bool (bd I q (by simp))
   | int j=>obtain⟨t',rfl⟩:=ry;exact PySem.EqNone.ne_none_int (bd I q (by simp))
   | str j=>obtain⟨t',rfl⟩:=ry;exact PySem.EqNone.ne_none_str (bd I q (by simp))
   | _=>exact absurd (show false=true from hs) Bool.false_ne_true
 | bl i =>
   cases rx
   cases y with
   | non=>cases ry;exact PySem.EqNone.ne_bool_none (bd I q (by simp))
   | bl j=>cases ry;exact ne_bool (bd I q (congrArg not vI))
   | str j=>obtain⟨t',rfl⟩:=ry;exact PySem.EqMixed.ne_bool_str (bd I q (by simp))
   | _=>exact absurd (show false=true from hs) Bool.false_ne_true
 | int i =>
   obtain⟨t,rfl⟩:=rx
   cases y with
   | non=>cases ry;exact PySem.EqNone.ne_int_none (bd I q (by simp))
   | int j=>obtain⟨t',rfl⟩:=ry;exact ne_int (bd I q (congrArg not rn))
   | str j=>obtain⟨t',rfl⟩:=ry;exact PySem.EqMixed.ne_int_str (bd I q (by simp))
   | _=>exact absurd (show false=true from hs) Bool.false_ne_true
 | str i =>
   obtain⟨t,rfl⟩:=rx
   cases y with
   | non=>cases ry;exact PySem.EqNone.ne_str_none (bd I q (by simp))
   | bl j=>cases ry;exact PySem.EqMixed.ne_str_bool (bd I q (by simp))
   | int j=>obtain⟨t',rfl⟩:=ry;exact PySem.EqMixed.ne_str_int (bd I q (by simp))
   | str j=>obtain⟨t',rfl⟩:=ry;exact ne_str (bd I q (congrArg not rV))
   | _=>exact absurd (show false=true from hs) Bool.false_ne_true
 | byt i =>
   obtain⟨t,rfl⟩:=rx
   cases y with
   | byt j=>obtain⟨t',rfl⟩:=ry;exact PySem.W.ne_bytes (bd I q (congrArg not rY))
   | _=>exact absurd (show false=true from hs) Bool.false_ne_true
 | _=>cases y<;>exact absurd (show false=true from hs) Bool.false_ne_true
theorem cY:OpR X (compareOp .Lt) (rI0 fun i j=>.bl (decide (i < j))):=xi fun _ _ _ _ _ _ _ q=>lt_int q
theorem sj:OpR X (compareOp .LtE) (rI0 fun i j=>.bl (decide (i≤j))):=xi fun _ _ _ _ _ _ _ q=>le_int q
theorem fw:OpR X (compareOp .Gt) (rI0 fun i j=>.bl (decide (j < i))):=xi fun _ _ _ _ _ _ _ q=>gt_int q
theorem xo:OpR X (compareOp .GtE) (rI0 fun i j=>.bl (decide (j≤i))):=xi fun _ _ _ _ _ _ _ q=>ge_int q
theorem tz:OpR X (compareOp .In) (fun x y H Q=>∃ i j,x=.str i∧y=.str j∧Q (.bl (!(Builtin.Str.occurrences j i 0 j.length 1).isEmpty)) H):=by
 intro pins s σ H x y v u Q I rx ry h;obtain⟨i,j,rfl,rfl,q⟩:=h;obtain⟨t,rfl⟩:=rx;obtain⟨t',rfl⟩:=ry;exact in_str (bd I q rfl)
theorem v4:OpR X (compareOp .Is) (fun x y H Q=>y=.non∧Q (.bl (decide (x=.non))) H):=by
 intro pins s σ H x y v u Q I rx ry h;obtain⟨rfl,q⟩:=h;cases ry;refine is_none_gen (bd I q ?_)
 cases x<;>first
   | (cases rx;rfl)
   | (obtain⟨t,rfl⟩:=rx;rfl)
theorem ax (b:Expr){op:CmpOp}(h:op≠.In:=by decide)(h2:op≠.NotIn:=by decide):behindInMarks op b=false:=by
 have e1:(op==CmpOp.In)=false:=by cases op<;>first | rfl | exact absurd rfl h
 have e2:(op==CmpOp.NotIn)=false:=by cases op<;>first | rfl | exact absurd rfl h2
 cases b<;>simp[behindInMarks,e1,e2]
theorem jn {op:CmpOp}{r:R2}(ho:OpR X (compareOp op) r)(ha:PE X a ta)(hb:PE X b tb)(hm:behindInMarks op b=false):PE X (.Compare a [op] [b] pos) (tOp r ta tb):=by
 intro pins s σ H Q I h;exact wpAny_Compare1 (xH ha hb I h fun v u s2 x y H2 I2 rx ry q=>ho pins s2 σ H2 x y v u Q I2 rx ry q) hm
def oE (t:TE):TT:=fun σ H Q=>t σ H fun x H'=>we x fun k=>Q k H'
theorem ap {op:CmpOp}{r:R2}(ho:OpR X (compareOp op) r)(ha:PE X a ta)(hb:PE X b tb)(hm:behindInMarks op b=false):PT X (.Compare a [op] [b] pos) (oE (tOp r ta tb)):=by
 intro pins s σ H Q I h
 refine wpAny_isTrue_Compare1 (thn (ha s σ H _ I h) fun v s1 ⟨x,H1,I1,r1,q1⟩=>thn (hb s1 σ H1 _ I1 q1) fun u s2 ⟨y,H2,I2,r2,q2⟩ =>
   thn (ho pins s2 σ H2 x y v u _ I2 r1 r2 q2) fun c s3 ⟨z,H3,I3,r3,q3⟩=>?_) hm
 have q3:we z fun k=>Q k H3:=q3;rw[rH] at q3;obtain⟨k,e,q3⟩:=q3;subst e;cases r3;exact wpAny_truthy_bool ⟨H3,I3,q3⟩
theorem iz:(sizeLine:Nat) < 2 ^ 63:=by rw[sizeLine_eq];decide
theorem fm:OpR X (binaryOp .Add) (fun x y H Q=>∃ i j,x=.str i∧y=.str j∧i.length+j.length≤sizeLine∧Q (.str (i++j)) H):=by
 intro pins s σ H x y v u Q I rx ry h;obtain⟨i,j,rfl,rfl,hz,q⟩:=h;obtain⟨t,rfl⟩:=rx;obtain⟨t',rfl⟩:=ry;exact add_str (fun t' tk=>⟨.str (i++j),H,I.tok _,⟨_,rfl⟩,q⟩) hz
theorem ej {x:V}{us:List Value}(r:Vals [x] us):∃ u,us=[u]∧ba x u:=by
 cases r with
 | cons r1 r2=>cases r2;exact⟨_,rfl,r1⟩
theorem lE {x y:V}{us:List Value}(r:Vals [x,y] us):∃ u w',us=[u,w']∧ba x u∧ba y w':=by
 cases r with
 | cons r1 r2 =>
   cases r2 with
   | cons r3 r4=>cases r4;exact⟨_,_,rfl,r1,r3⟩
theorem k7 (hc:X.calm=true):cq X (.builtin "max") (fun xs H Q=>∃ i j,xs=[.int i,.int j]∧Q (.int (if j > i then j else i)) H):=by
 intro pins s σ H xs us Q I r h;obtain⟨i,j,rfl,q⟩:=h;obtain⟨u,w',rfl,⟨t,rfl⟩,⟨t',rfl⟩⟩:=lE r;refine max_two_ints (I.ok.hd hc) fun h' tk k=>⟨_,H,I.kept k,?_,q⟩;by_cases hj:j > i
 . rw[if_pos hj,if_pos hj];exact⟨_,rfl⟩
 . rw[if_neg hj,if_neg hj];exact⟨_,rfl⟩
theorem lq (hc:X.calm=true):cq X (.builtin "min") (fun xs H Q=>∃ i j,xs=[.int i,.int j]∧Q (.int (if j < i then j else i)) H):=by
 intro pins s σ H xs us Q I r h;obtain⟨i,j,rfl,q⟩:=h;obtain⟨u,w',rfl,⟨t,rfl⟩,⟨t',rfl⟩⟩:=lE r;refine min_two_ints (I.ok.hd hc) fun h' tk k=>⟨_,H,I.kept k,?_,q⟩;by_cases hj:j < i
 . rw[if_pos hj,if_pos hj];exact⟨_,rfl⟩
 . rw[if_neg hj,if_neg hj];exact⟨_,rfl⟩
end
structure pK (h:Heap)(x dx C:Addr)(mA:Str→Option Value):Prop where
 obj:h.get? x=some (A8 C dx)
 ns:h.Ns1 dx mA
 ne:dx≠x
theorem tG {h:Heap}{dx:Addr}{mA:Str→Option Value}(n:h.Ns1 dx mA):∃ od,h.get? dx=some od∧∀ name,B7 name od=some (mA name):=by
 obtain⟨o,es,ep,ho,hd,hk,_,hm⟩:=n;refine⟨o,ho,fun name=>?_⟩;have e:=hm name;unfold nsFind findBy at e;rw[←Array.find?_toList] at e;unfold B7;rw[hd];dsimp only
 split
 . rename_i y q;rw[q] at e;exact congrArg some e
 . rename_i q;rw[q] at e
   have a:es.toList.any (·.refKey)=false:=by
     rw[List.any_eq_false];intro y hy;obtain⟨z,t,hkey⟩:=hk y (Array.mem_toList_iff.mp hy);simp[DictEntry.refKey,hkey]
   have a':¬es.toList.any (·.refKey)=true:=by rw[a];exact Bool.false_ne_true
   rw[if_neg a'];exact congrArg some e
theorem pK.look {h:Heap}{x dx C:Addr}{mA:Str→Option Value}(I:pK h x dx C mA):∃ od,PySem.W.InstAt h x (A8 C dx) C (some od)∧∀ name,B7 name od=some (mA name) :=
 let ⟨od,ho,hl⟩:=tG I.ns
 ⟨od,⟨I.obj,rfl,rfl,ho⟩,hl⟩
section
variable {prog:Program}{w:World}{A:Around}{E:Value→Shared→Prop}{s:Shared}{K:PySem.W.Frag}{x dx C f:Addr}{mA:Str→Option Value}{name:Str}{v:Value}
theorem wm {expr:Bool}{Q:Value→Shared→Prop}(X:K.In s.heap)(I:pK s.heap x dx C mA)(hg:BS K C name=true)(hh:Ce K C=true)
   (ha:AV K (.ref C) name=some none)(hv:mA name=some v)(hv':PySem.W.handedIn v=true)(h:Q v { s with toks:=s.toks+1 }) :
   wpAny (model prog w) A (getAttr (.ref x) name expr) Q E s:=by
 obtain⟨od,J,hl⟩:=I.look;exact PySem.W.get_value X J (B3 hg).1 (PySem.W.findObj_own hh ha rfl (by rw[hl,hv])) hv' h
theorem vS {pl:Sem Bool}{Q:Value×List Value→Shared→Prop}(X:K.In s.heap)(I:pK s.heap x dx C mA)(hg:BS K C name=true)
   (hf:AV K (.ref C) name=some (some (.ref f)))(ht:CA K (.ref f)=true)(hv:mA name=none)(h:Q (.ref f,[.ref x]) s) :
   wpAny (model prog w) A (getMethod (.ref x) name pl) Q E s:=by
 obtain⟨od,J,hl⟩:=I.look;exact PySem.W.method_fn X J (B3 hg).1 (B3 hg).2 hf (beq_iff_eq.mp ht) (by show(B7 name od).map (·.isSome)=some false;rw[hl,hv];rfl) h
theorem wr {ns:List Str}{Q:Unit→Shared→Prop}(X:K.In s.heap)(I:pK s.heap x dx C mA)
   (hs:AV K (.ref C) "__setattr__"=some (some (.builtin "object.__setattr__")))(hp:PySem.W.plainOver K C=true)(ht:Cr K C name=some none)(hh:Ce K C=true)
   (hw:PySem.Within mA ns)(hsz:ns.length≤sizeLine)
   (h:∀ h',pK h' x dx C (fun y=>if y=name then some v else mA y)→Heap.SameBut dx s.heap h'→Q () { s with heap:=h',toks:=s.toks+2 }) :
   wpAny (model prog w) A (setAttr (.ref x) name v) Q E s:=by
 obtain⟨od,J,hl⟩:=I.look;refine PySem.W.set_plain X J hs (PySem.W.osa_open (s:={ s with toks:=s.toks+1 }) (r:=none) X J hp ht fun b=>?_);obtain⟨cd,hc,hd'⟩:=PySem.W.any_some hh;have hx:s.heap.get? x=some ⟨.ref C,some dx,.plain,#[]⟩:=I.obj;refine wpAny_bind (wpAny_pure (wpAny_bind (wpAny_bind (wpAny_loadPart hx (wpAny_bind (PySem.W.Looks.here (s:={ s with toks:=s.toks+1 }) (PySem.W.looks_clsIn X hc) ?_))))));rw[hd'];refine wpAny_pure (a:=some dx) (wpAny_bind (wpAny_pure (wpAny_bind ?_)));refine wpAny_nsSet1 (s:={ s with toks:=s.toks+1 }) I.ns fun h' hn2 hs2=>?_;obtain⟨oD,esD,epD,hoD,hdD,hcD⟩:=hn2.count (PySem.Within.cons name v hw);refine wpAny_bind (wpAny_lookBehind hoD (by rw[hdD];exact pastItsLine_dict (AG hcD (by rw[Az];omega))) ?_);exact wpAny_pure (h _ ⟨(hs2.2 _ (Ne.symm I.ne)).trans I.obj,hn2,I.ne⟩ hs2)
theorem uM {R:Result→Shared→Prop}{vs:List Value}{kw:List (Str×Value)}(X:K.In s.heap)(hm:BW K C=true)
   (hi:AV K (.ref C) "__init__"=some (some (.ref f)))(hf:PySem.W.typeIn K (.ref f)=some (.type "function"))
   (h:codeAny (model prog w) (A.under (.builtin "type.__call__" ⟨.ref C::vs,kw⟩)) (.call (.ref f) ⟨.ref (s.heap.objs.size+1)::vs,kw⟩) (PySem.W.InitBack (s.heap.objs.size+1) R)
     { s with heap:=(s.heap.push AU).push (A8 C s.heap.objs.size) }) :
   codeAny (model prog w) A (.call (.ref C) ⟨vs,kw⟩) R s:=by
 obtain⟨hh,g,d,t,os⟩:=s;exact PySem.W.make_core (PySem.W.makes_of X hm) (PySem.W.looks_findIn X hi) (fun self=>PySem.W.bind_fn X self hf) (.inl rfl) h
end
def cK (f:Str) (v:V):List (Str×V)→List (Str×V)
 | []=>[(f,v)]
 | (g,x)::r=>if g=f then(g,v)::r else(g,x)::cK f v r
theorem i4 (f g:Str) (v:V):∀ fs:List (Str×V),(cK f v fs).lookup g=if g=f then some v else fs.lookup g
 | []=>by
   show Aj g [(f,v)]=_;by_cases h:g=f
   . have hb:(g==f)=true:=beq_iff_eq.mpr h;simp only[Aj,hb,if_pos h]
   . have hb:(g==f)=false:=beq_eq_false_iff_ne.mpr h;simp only[Aj,hb,if_neg h]
 | (k,x)::r=>by
   have ih:=i4 f g v r;rw[show cK f v ((k,x)::r)=(if k=f then(k,v)::r else(k,x)::cK f v r) from rfl];by_cases hk:k=f
   . rw[if_pos hk];by_cases h:g=k
     . have hb:(g==k)=true:=beq_iff_eq.mpr h;simp only[Aj,hb,if_pos (h.trans hk)]
     . have hb:(g==k)=false:=beq_eq_false_iff_ne.mpr h;simp only[Aj,hb,if_neg (fun e:g=f=>h (e.trans hk.symm))]
   . rw[if_neg hk];by_cases h:g=k
     . have hb:(g==k)=true:=beq_iff_eq.mpr h;simp only[Aj,hb,if_neg (fun e:g=f=>hk (h.symm.trans e))]
     . have hb:(g==k)=false:=beq_eq_false_iff_ne.mpr h;simp only[Aj,hb];exact ih
theorem iw (f:Str) (v:V):∀ fs:List (Str×V),f∈(cK f v fs).map (·.1)∧∀ g,g∈fs.map (·.1)→g∈(cK f v fs).map (·.1)
 | []=>⟨by simp[cK],fun g h=>by simp at h⟩
 | (k,x)::r=>by
   obtain⟨i1,i2⟩:=iw f v r;rw[show cK f v ((k,x)::r)=(if k=f then(k,v)::r else(k,x)::cK f v r) from rfl];by_cases hk:k=f
   . rw[if_pos hk];subst hk;exact⟨by simp,fun g h=>by simpa using h⟩
   . rw[if_neg hk];refine⟨?_,fun g h=>?_⟩
     . rw[Ac];exact z7 _ i1
     . rw[Ac] at h ⊢
       rcases List.mem_cons.mp h with e | e
       . exact List.mem_cons.mpr (.inl e)
       . exact z7 _ (i2 g e)
theorem i7 (f:Str) (v:V):∀ fs:List (Str×V),(cK f v fs).length≤fs.length+1
 | []=>by simp[cK]
 | (k,x)::r=>by
   have ih:=i7 f v r;rw[show cK f v ((k,x)::r)=(if k=f then(k,v)::r else(k,x)::cK f v r) from rfl];by_cases hk:k=f
   . rw[if_pos hk,Az,Az];omega
   . rw[if_neg hk,Az,Az];omega
theorem gm.some_of {v:V}{o:Option Value}(r:gm (some v) o):∃ u,o=some u∧ba v u:=by
 cases o with
 | none=>exact(show False from r).elim
 | some u=>exact⟨u,rfl,r⟩
theorem gm.none_of {o:Option Value}(r:gm none o):o=none:=by
 cases o with
 | none=>rfl
 | some u=>exact(show False from r).elim
theorem sE {v:V}{u:Value}(r:ba v u):PySem.W.handedIn u=true:=by
 cases v with
 | non=>cases (show u=Value.none from r);rfl
 | bl b=>cases (show u=Value.bool b from r);rfl
 | int i=>obtain⟨t,e⟩:=(show ∃ t,u=Value.int i t from r);cases e;rfl
 | str x=>obtain⟨t,e⟩:=(show ∃ t,u=Value.str x t from r);cases e;rfl
 | byt b=>obtain⟨t,e⟩:=(show ∃ t,u=Value.bytes b t from r);cases e;rfl
 | flt b=>obtain⟨t,e⟩:=(show ∃ t,u=Value.float b t from r);cases e;rfl
 | ref a=>cases (show u=Value.ref a from r);rfl
 | ty n=>cases (show u=Value.type n from r);rfl
section
variable {P:Program}{w:World}{H H':Hp}{h h':Heap}{a C dx:Addr}{fs fs':List (Str×V)}
theorem jv (hok:HOk P w H h)(e:H a=some (.ins C dx fs)):∃ mA,pK h a dx C mA∧(∀ f,gm (fs.lookup f) (mA f))∧PySem.Within mA (fs.map (·.1))∧fs.length≤1000∧H dx=some (.own a):=by
 obtain⟨d,z,ne,ob,mA,n,r,q⟩:=(show bP P w H h a (.ins C dx fs) from hok a _ e);exact⟨mA,⟨ob,n,ne⟩,r,q,z,d⟩
end
structure Cls (K:PySem.W.Frag)(C:Addr):Prop where
 pg:BS K C BI=true
 hd:Ce K C=true
 po:PySem.W.plainOver K C=true
 sa:AV K (.ref C) "__setattr__"=some (some (.builtin "object.__setattr__"))
theorem Cls.get {K:PySem.W.Frag}{C:Addr}(c:Cls K C) (f:Str):BS K C f=true:=c.pg
def NoAttr (K:PySem.W.Frag)(C:Addr) (f:Str):Prop:=AV K (.ref C) f=some none
theorem NoAttr.taker {K:PySem.W.Frag}{C:Addr}{f:Str}(n:NoAttr K C f):Cr K C f=some none:=by
 unfold Cr;rw[show AV K (.ref C) f=some none from n];rfl
structure Meth (K:PySem.W.Frag)(C:Addr) (m:Str)(f:Addr):Prop where
 at_:AV K (.ref C) m=some (some (.ref f))
 fn:CA K (.ref f)=true
 kp:Bc K (.ref f)=true
section
variable {X:Cx}{pins:List (Addr×Obj)}{σ:St}{H:Hp}{s:Shared}{a C dx:Addr}{fs:List (Str×V)}{f:Str}{v:V}{A:Around}{E:Value→Shared→Prop}
theorem qM {b:Bool}{Q:Value→Shared→Prop}(I:Inv X pins σ H s)(e:H a=some (.ins C dx fs))(c:Cls X.K C)(n:NoAttr X.K C f)(l:fs.lookup f=some v)
   (h:∀ u s',Inv X pins σ H s'→ba v u→Q u s'):wpAny (model X.prog X.w) A (getAttr (.ref a) f b) Q E s:=by
 obtain⟨mA,O,r,_,_,_⟩:=jv I.hok e;obtain⟨u,hu,ru⟩:=gm.some_of (v:=v) (o:=mA f) (by rw[←l];exact r f);exact wm I.kIn O (c.get f) c.hd n hu (sE ru) (h u _ (I.tok _) ru)
theorem gC {m:Str}{g:Addr}{pl:Sem Bool}{Q:Value×List Value→Shared→Prop}(I:Inv X pins σ H s)(e:H a=some (.ins C dx fs))(c:Cls X.K C)(k:Meth X.K C m g)(l:fs.lookup m=none)
   (h:Q (.ref g,[.ref a]) s):wpAny (model X.prog X.w) A (getMethod (.ref a) m pl) Q E s:=by
 obtain⟨mA,O,r,_,_,_⟩:=jv I.hok e;have hn:mA m=none:=gm.none_of (by rw[←l];exact r m);exact vS I.kIn O (c.get m) k.at_ k.fn hn h
theorem qH {y:V}{u:Value}{Q:Unit→Shared→Prop}(I:Inv X pins σ H s)(e:H a=some (.ins C dx fs))(c:Cls X.K C)(n:NoAttr X.K C f)(hl:fs.length < 1000)(ry:ba y u)
   (h:∀ s',Inv X pins σ (upd H a (.ins C dx (cK f y fs))) s'→Q () s'):wpAny (model X.prog X.w) A (setAttr (.ref a) f u) Q E s:=by
 obtain⟨mA,O,r,wi,_,ho⟩:=jv I.hok e
 have hz:(fs.map (·.1)).length≤sizeLine:=by rw[be,sizeLine_eq];omega
 refine wr I.kIn O c.sa c.po n.taker c.hd wi hz fun h' O' sb=>h _ ?_
 have hd:∃ o,h'.get? dx=some o:=let ⟨o,_,_,e',_⟩:=O'.ns;⟨o,e'⟩
 refine I.write (x:=a) (e:=dx) (by rw[e];exact True.intro) (.inr ho) (fun b q hb z=>(sb.2 b hb).trans z) hd ?_;refine⟨by rw[ai O.ne];exact ho,?_,O.ne,O'.obj,_,O'.ns,fun g=>?_,fun g hg=>?_⟩
 . have:=i7 f y fs;omega
 . show gm ((cK f y fs).lookup g) (if g=f then some u else mA g);rw[i4];by_cases q:g=f
   . rw[if_pos q,if_pos q];exact ry
   . rw[if_neg q,if_neg q];exact r g
 . by_cases q:g=f
   . rw[q];exact(iw f y fs).1
   . refine(iw f y fs).2 g (wi g fun z=>hg ?_);show(if g=f then some u else mA g)=none;rw[if_neg q];exact z
theorem Inv.made (I:Inv X pins σ H s):Inv X pins σ (upd (upd H s.heap.objs.size (.own (s.heap.objs.size+1))) (s.heap.objs.size+1) (.ins C s.heap.objs.size []))
   { s with heap:=(s.heap.push AU).push (A8 C s.heap.objs.size) }:=by
 have e1:(s.heap.push AU).get? s.heap.objs.size=some AU:=Heap.get?_push_size s.heap rfl
 have e2:((s.heap.push AU).push (A8 C s.heap.objs.size)).get? (s.heap.objs.size+1)=some (A8 C s.heap.objs.size):=by
   have:=Heap.get?_push_size (s.heap.push AU) (o:=A8 C s.heap.objs.size) rfl
   rwa [Heap.size_push] at this
 have e3:(s.heap.push AU).Ns s.heap.objs.size (fun _=>none):=⟨AU,#[],_,e1,rfl,(fun e he=>absurd he (by simp)),fun _=>rfl⟩;have I1:=I.laid (a:=s.heap.objs.size) (o:=.own (s.heap.objs.size+1)) (h':=s.heap.push AU) (t':=s.toks) (fun b u q=>Heap.get?_push_of_some _ q) (zR _) ⟨_,e1⟩;refine I1.laid (a:=s.heap.objs.size+1) (o:=.ins C s.heap.objs.size []) (t':=s.toks) (fun b u q=>Heap.get?_push_of_some _ q) (CC (Heap.size_push _ _)) ?_;have ne:s.heap.objs.size≠s.heap.objs.size+1:=Aa (Bo _);refine⟨by rw[ai ne,ac],AF _,ne,e2,fun _=>none,(Heap.Ns1.of_empty e3).at fun o q=>Heap.get?_push_of_some _ q,fun _=>True.intro,fun y hy=>absurd rfl hy⟩
theorem wK {prog:Program}{w:World}{env:Env}{e:Expr}{f:Str}{pos:Pos}{s:Shared}{Q:Value→Shared→Prop}(hb:attributeBase e f env (eval e env)=eval e env)
   (h:wpAny (model prog w) A (eval e env) (fun o s₁=>wpAny (model prog w) A (getAttr o f true) Q E s₁) E s):wpAny (model prog w) A (eval (.Attribute e f pos) env) Q E s :=
 Attribute_any_ h (by rw[arm_eval_Attribute,hb])
end
def xb (K:PySem.W.Frag)(ta:TE) (f:Str):TE:=fun σ H Q=>ta σ H fun x H1=>∃ a C dx fs v,x=.ref a∧H1 a=some (.ins C dx fs)∧Cls K C∧NoAttr K C f∧fs.lookup f=some v∧Q v H1
def yB (K:PySem.W.Frag)(ta tv:TE) (f:Str):TS:=fun D σ H=>tv σ H fun y H1=>ta σ H1 fun x H2=>∃ a C dx fs,x=.ref a∧H2 a=some (.ins C dx fs)∧Cls K C∧NoAttr K C f∧fs.length < 1000 ∧
 D.nx σ (upd H2 a (.ins C dx (cK f y fs)))
section
variable {X:Cx}{o e value:Expr}{f:Str}{pos pos' tpos:Pos}{ta tv:TE}
theorem bB (he:PE X e ta)(hb:attributeBase e f X.env (eval e X.env)=eval e X.env):PE X (.Attribute e f pos) (xb X.K ta f):=by
 intro pins s σ H Q I h;refine wK hb (thn (he s σ H _ I h) fun u s1 ⟨x,H1,I1,rx,a,C,dx,fs,v,ex,ea,c,n,l,q⟩=>?_);subst ex;obtain rfl:u=Value.ref a:=rx;exact qM I1 ea c n l fun u' s2 I2 ru=>⟨v,H1,I2,ru,q⟩
theorem eD (ha:PE X o ta)(hv:PE X value tv)(hs:swapsWith value (some (.Attribute o f pos')) pos.line X.env=pure false):PS X (.Assign [.Attribute o f pos'] value pos) (yB X.K ta tv f):=by
 intro pins s σ H D I h;refine plainObj_wpAny_Assign_Attribute (thn (hv s σ H _ I h) fun u s1 ⟨y,H1,I1,ry,q⟩=>thn (ha s1 σ H1 _ I1 q) fun ov s2 ⟨x,H2,I2,rx,a,C,dx,fs,ex,ea,c,n,l,q2⟩=>?_) hs;subst ex;obtain rfl:ov=Value.ref a:=rx;exact qH I2 ea c n l ry fun s3 I3=>⟨σ,_,I3,q2⟩
theorem xp {pl:Sem Bool}{m:Str}{apos:Pos}{args:List Expr}{pins:List (Addr×Obj)}{s:Shared}{σ:St}{H:Hp}{Q:Value→Shared→Prop}{te:TE}(he:PE X e te)(I:Inv X pins σ H s)
   (h:te σ H fun x H1=>∃ a C dx fs g,x=.ref a∧H1 a=some (.ins C dx fs)∧Cls X.K C∧Meth X.K C m g∧fs.lookup m=none ∧
     ∀ s1,Inv X pins σ H1 s1→wpAny (model X.prog X.w) X.A (callWith pos (.ref g) [.ref a] (backTo pos (starEach args X.env)) (backToKw pos (keywordEach [] X.env))) Q X.xe s1)
   (ht:eval (.Call (.Attribute e m apos) args [] pos) X.env=(do
     let ov ←eval e X.env
     standAt apos.atName
     let (f,first) ←holding [ov] (getMethod ov m pl)
     callWith pos f first (backTo pos (starEach args X.env)) (backToKw pos (keywordEach [] X.env)))) :
   wpAny (model X.prog X.w) X.A (eval (.Call (.Attribute e m apos) args [] pos) X.env) Q X.xe s:=by
 refine BQ (pl:=pl) (thn (he s σ H _ I h) fun u s1 ⟨x,H1,I1,rx,a,C,dx,fs,g,ex,ea,c,k,l,q⟩=>?_) ht;subst ex;obtain rfl:u=Value.ref a:=rx;exact gC I1 ea c k l (q s1 I1)
end
section
variable {X:Cx}{pins:List (Addr×Obj)}{σ:St}{H:Hp}{s:Shared}{A:Around}{E:Value→Shared→Prop}{Q:Value→Shared→Prop}{c:Value}{b:Bool}
inductive cx (K:PySem.W.Frag)(H:Hp):V→Value→Prop where
 | non:cx K H .non (.type "NoneType")
 | bl (x:Bool):cx K H (.bl x) (.type "bool")
 | int (i:Int):cx K H (.int i) (.type "int")
 | str (x:Str):cx K H (.str x) (.type "str")
 | flt (x:UInt64):cx K H (.flt x) (.type "float")
 | lst {a:Addr}{xs:List V}(e:H a=some (.lst xs)):cx K H (.ref a) (.type "list")
 | frz {a:Addr}{o:Obj}{xs:List V}(e:H a=some (.frz o (.lst xs))):cx K H (.ref a) (.type "list")
 | tup {a:Addr}{xs:List V}(e:H a=some (.tup xs)):cx K H (.ref a) (.type "tuple")
 | dK {a:Addr}{kvs:List (Key×V)}(e:H a=some (.dK kvs)):cx K H (.ref a) (.type "dict")
 | dT {a:Addr}{kvs:List (List Key×V)}(e:H a=some (.dT kvs)):cx K H (.ref a) (.type "dict")
 | ins {a C dx:Addr}{fs:List (Str×V)}(e:H a=some (.ins C dx fs))(cl:Cls K C)(ha:AV K (.ref C) "__class__"=some (some (.builtin "object.__class__")))
     (hn:PySem.W.specialIn K (.builtin "object.__class__") "__get__"=some (some (.builtin "getset_descriptor.__get__")))(htk:PySem.W.takesIn K (.builtin "object.__class__")=some true)
     (hm:PySem.W.mroIn K C (.type "object")=some true):cx K H (.ref a) (.ref C)
theorem lH {x:V}{u t:Value}(I:Inv X pins σ H s)(rx:ba x u)(ty:cx X.K H x t)(e:Ag X.K t c=some b)(h:∀ tk,Q (.bool b) { s with toks:=tk }) :
   wpAny (model X.prog X.w) A (call (.builtin "isinstance") [u,c]) Q E s:=by
 cases ty with
 | non=>cases (show u=Value.none from rx);exact AN PySem.W.kitx_none I.kIn True.intro e (fun z=>nomatch z) h
 | bl y=>cases (show u=Value.bool y from rx);exact AN PySem.W.kitx_bool I.kIn True.intro e (fun z=>nomatch z) h
 | int i=>obtain⟨t,q⟩:=(show ∃ t,u=Value.int i t from rx);cases q;exact AN PySem.W.kitx_int I.kIn True.intro e (fun z=>nomatch z) h
 | str y=>obtain⟨t,q⟩:=(show ∃ t,u=Value.str y t from rx);cases q;exact AN PySem.W.kitx_str I.kIn True.intro e (fun z=>nomatch z) h
 | flt y=>obtain⟨t,q⟩:=(show ∃ t,u=Value.float y t from rx);cases q;exact AN PySem.W.kitx_float I.kIn True.intro e (fun z=>nomatch z) h
 | @lst a xs ea =>
   cases (show u=Value.ref a from rx);obtain⟨_,_,n,_,h1⟩:=(show bP X.prog X.w H s.heap a (.lst xs) from I.hok a _ ea);exact AN PySem.W.kitx_list I.kIn ⟨_,h1,rfl⟩ e (fun z=>nomatch z) h
 | @frz a ob xs ea =>
   cases (show u=Value.ref a from rx);obtain⟨_,_,_,n,_,h1⟩:=(show bP X.prog X.w H s.heap a (.frz ob (.lst xs)) from I.hok a _ ea);exact AN PySem.W.kitx_list I.kIn ⟨_,h1,rfl⟩ e (fun z=>nomatch z) h
 | @tup a xs ea =>
   cases (show u=Value.ref a from rx);obtain⟨_,_,_,p⟩:=(show bP X.prog X.w H s.heap a (.tup xs) from I.hok a _ ea);obtain⟨o,h1,h2,_⟩:=p;exact AN PySem.W.kitx_tuple I.kIn ⟨o,h1,h2⟩ e (fun z=>nomatch z) h
 | @dK a kvs ea =>
   cases (show u=Value.ref a from rx);obtain⟨_,_,vs,_,p⟩:=(show bP X.prog X.w H s.heap a (.dK kvs) from I.hok a _ ea);obtain⟨o,es,ep,h1,h2,_⟩:=p;exact AN PySem.W.kitx_dict I.kIn ⟨o,h1,h2.1⟩ e (fun z=>nomatch z) h
 | @dT a kvs ea =>
   cases (show u=Value.ref a from rx);obtain⟨_,_,xs,_,o,es,ep,h1,h2,_⟩:=(show bP X.prog X.w H s.heap a (.dT kvs) from I.hok a _ ea);exact AN PySem.W.kitx_dict I.kIn ⟨o,h1,h2.1⟩ e (fun z=>nomatch z) h
 | @ins a C dx fs ea cl ha hn htk hm =>
   cases (show u=Value.ref a from rx);obtain⟨mA,O,_⟩:=jv I.hok ea;obtain⟨od,J,_⟩:=O.look;exact AN (PySem.W.kitx_own (cl.get _) cl.hd ha hn htk hm) I.kIn J e (fun z=>nomatch z) h
end
structure cL (k:Nat)(A:Around):Prop where
 hd:A.handled=none
 dp:A.depth+3*k+5 < recursionLimit
 un:A.units+16*k+200 < cLine
theorem cL.mono {j k:Nat}{A:Around}(r:cL k A)(h:j≤k):cL j A:=⟨r.hd,by have:=r.dp;omega,by have:=r.un;omega⟩
theorem cL.deeper {k:Nat}{A:Around}(r:cL (k+1) A)(env:Env):cL k (A.deeper env) :=
 ⟨r.hd,by have:=r.dp;show A.depth+1+3*k+5 < _;omega,by have:=r.un;show A.units+3+16*k+200 < _;omega⟩
theorem pB {A:Around}{C:Addr}{us:List Value}{kw:List (Str×Value)}:(A.under (.builtin "type.__call__" ⟨.ref C::us,kw⟩)).depth=A.depth+1:=by
 first | rfl | simp[Around.under,Code.weight,Code.isCreation,Code.isGuard,Code.isCaller,Code.frames,Code.isFrame,guardIds]
theorem qr {A:Around}{C:Addr}{us:List Value}{kw:List (Str×Value)}:(A.under (.builtin "type.__call__" ⟨.ref C::us,kw⟩)).units=A.units+1:=by
 first | rfl | simp[Around.under,Code.cUnits,Code.frames,Code.isFrame]
theorem cL.make {k:Nat}{A:Around}(r:cL (k+1) A)(C:Addr)(us:List Value)(kw:List (Str×Value)):cL k (A.under (.builtin "type.__call__" ⟨.ref C::us,kw⟩)) :=
 ⟨r.hd,by have:=r.dp;rw[pB];omega,by have:=r.un;rw[qr];omega⟩
theorem cL.depth {k:Nat}{A:Around}(r:cL k A):A.depth < recursionLimit:=by have:=r.dp;omega
theorem cL.units {k:Nat}{A:Around}(r:cL k A):A.units+64 < cLine:=by have:=r.un;omega
def tm:TA:=fun _ H Q=>Q [] H
def fY (ta:TE)(tr:TA):TA:=fun σ H Q=>ta σ H fun x H1=>tr σ H1 fun xs H2=>Q (x::xs) H2
section
variable {X:Cx}{e:Expr}{es:List Expr}{te:TE}{t:TA}{pos:Pos}
theorem ae:PA X [] tm:=fun _ _ _ _ H Q I h=>Calls.spliced_nil ⟨[],H,I,.nil,h⟩
theorem aa (ha:PE X e te)(hr:PA X es t)(hs:starEach (e::es) X.env=(false,eval e X.env)::starEach es X.env:=by rfl):PA X (e::es) (fY te t):=by
 intro pins pos s σ H Q I h;rw[hs];show wpAny _ _ (spliced ((false,eval e X.env)::backTo pos (starEach es X.env))) _ _ s;refine Calls.spliced_cons (thn (ha s σ H _ I h) fun u s1 ⟨x,H1,I1,r1,q1⟩=>?_);exact thn (hr pos s1 σ H1 _ I1 q1) fun us s2 ⟨xs,H2,I2,r2,q2⟩=>⟨x::xs,H2,I2,.cons r1 r2,q2⟩
def vz (t:TA):TE:=fun σ H Q=>t σ H fun xs H1=>xs.length≤sizeLine∧∀ p,H1 p=none→Q (.ref p) (upd H1 p (.tup xs))
def yo (t:TA):TE:=fun σ H Q=>t σ H fun xs H1=>xs.length≤sizeLine∧∀ p,H1 p=none→Q (.ref p) (upd H1 p (.lst xs))
theorem bQ {x1}(h:PA X es t):PE X (.Tuple es x1 pos) (vz t):=by
 intro pins s σ H Q I hq;refine wpAny_Tuple_spliced (thn (h pos s σ H _ I hq) fun us s1 ⟨xs,H1,I1,r,z,q⟩=>⟨by rw[←r.length];exact z,?_⟩);have hf:H1 s1.heap.objs.size=none:=I1.hok.fresh (zR _);refine⟨.ref s1.heap.objs.size,upd H1 s1.heap.objs.size (.tup xs),I1.laid (t':=s1.toks) (fun b u e=>Heap.get?_push_of_some _ e) (zR _) ?_,rfl,q _ hf⟩;exact⟨z,us,r,⟨_,Heap.get?_push_size _ rfl,rfl,_,rfl⟩⟩
theorem bo (h:PA X es t):PE X (.List es pos) (yo t):=by
 intro pins s σ H Q I hq;refine wpAny_List_spliced (thn (h pos s σ H _ I hq) fun us s1 ⟨xs,H1,I1,r,z,q⟩=>⟨by rw[←r.length];exact z,?_⟩);have hf:H1 s1.heap.objs.size=none:=I1.hok.fresh (zR _);refine⟨.ref s1.heap.objs.size,upd H1 s1.heap.objs.size (.lst xs),I1.laid (t':=s1.toks) (fun b u e=>Heap.get?_push_of_some _ e) (zR _) ?_,rfl,q _ hf⟩;exact⟨z,us,0,r,Heap.get?_push_size _ rfl⟩
end
abbrev Sp:=List V→Hp→VK→XK→Prop
abbrev CXT:=List Env→Hp→Shared→XK→Value→Shared→Prop
structure qv (P:Program)(w:World)(K:PySem.W.Frag)(mg:Str→Option Value)(base:Heap)(A:Around)(outer:List Env)(s:Shared)(H:Hp):Prop where
 frames:A.frames=some outer
 mod:Mod K mg base
 bs:∀ b o,base.get? b=some o→s.heap.get? b=some o∧H b=none
 bsz:base.objs.size≤s.heap.objs.size
 funs:s.heap.FunFrames base outer
 frf:∀ b∈frs outer,H b=none
 hok:HOk P w H s.heap
 bare:AllBare s.gens
def CE (outer:List Env)(P:Program)(w:World)(H:Hp)(s:Shared)(Q:VK) (u:Value)(s':Shared):Prop :=
 ∃ v H',s'.os=s.os∧AllBare s'.gens∧Un (frs outer) [] H H' s.heap s'.heap∧HOk P w H' s'.heap∧ba v u∧Q v H'
def CR (CX:CXT)(outer:List Env)(P:Program)(w:World)(H:Hp)(s:Shared)(Q:VK)(E:XK)(r:Result)(s':Shared):Prop :=
 match r with
 | .ok (.ret u)=>CE outer P w H s Q u s'
 | .ok _=>False
 | .error e=>CX outer H s E e s'
structure aU (P:Program)(w:World)(K:PySem.W.Frag)(mg:Str→Option Value)(base:Heap)(CX:CXT) (k:Nat)(f:Addr)(fd:FuncData)(ps:List Str)(sp:Sp):Prop where
 len:∀ vs H Q E,sp vs H Q E→vs.length=ps.length
 run:∀ (A:Around)(outer:List Env)(s:Shared)(H:Hp)(args:Args)(us:List Value)(vs:List V)(Q:VK)(E:XK),cL k A→qv P w K mg base A outer s H→BindsTo s fd args (ps.zip us)→Vals vs us→sp vs H Q E →
   codeAny (model P w) A (.call (.ref f) args) (CR CX outer P w H s Q E) s
theorem qv.make {P:Program}{w:World}{K:PySem.W.Frag}{mg:Str→Option Value}{base:Heap}{A:Around}{outer:List Env}{s:Shared}{H:Hp}(e:qv P w K mg base A outer s H)(C:Addr)(us:List Value)(kw:List (Str×Value)) :
 qv P w K mg base (A.under (.builtin "type.__call__" ⟨.ref C::us,kw⟩)) outer s H:=⟨by first | exact e.frames | (simpa [Around.under,Code.envs,Code.isFrame,pushEnvs] using e.frames),e.mod,e.bs,e.bsz,e.funs,e.frf,e.hok,e.bare⟩
section
variable {X:Cx}{pins:List (Addr×Obj)}{σ:St}{H:Hp}{s s':Shared}
theorem Inv.env0 (I:Inv X pins σ H s):qv X.prog X.w X.K X.mg X.base X.A X.stack s H :=
 ⟨I.ok.frames,I.ok.mod,I.bs,AG I.ok.bsz I.sz,I.stack,I.stkFree,I.hok,I.bare⟩
theorem Inv.after {Q:VK}{u:Value}(I:Inv X pins σ H s)(h:CE X.stack X.prog X.w H s Q u s'):EP X pins σ Q u s':=by
 obtain⟨v,H',os,bare,un,hok,r,q⟩:=h;obtain⟨hh,g,d,t,os'⟩:=s';obtain rfl:os'=s.os:=os;exact⟨v,H',I.call (h':=hh) (g':=g) (d':=d) (t':=t) (ch:=[]) un hok bare (fun b z=>absurd z (by simp)),r,q⟩
end
def rh (sp:Sp)(dvs:List V)(E:XK)(t:TA):TE:=fun σ H Q=>t σ H fun vs H1=>sp (vs++dvs) H1 Q E
def lL (C:Addr) (m:Str)(sp:Sp)(dvs:List V)(E:XK)(ta:TE)(t:TA):TE:=fun σ H Q=>ta σ H fun x H1=>∃ a dx fs,x=.ref a∧H1 a=some (.ins C dx fs)∧fs.lookup m=none ∧
 t σ H1 fun vs H2=>sp (x::(vs++dvs)) H2 Q E
def uR (C:Addr)(sp:Sp)(dvs:List V)(E:XK)(t:TA):TE:=fun σ H Q=>t σ H fun vs H1=>∀ x dx,H1 x=none→H1 dx=none→dx≠x →
 sp (.ref x::(vs++dvs)) (upd (upd H1 dx (.own x)) x (.ins C dx [])) (fun v H2=>v=.non∧Q (.ref x) H2) E
def em (K:PySem.W.Frag)(fd:FuncData)(ps:List Str)(ds:List Value):Prop :=
 ∀ (s:Shared)(us:List Value),K.In s.heap→(us++ds).length=ps.length→BindsTo s fd ⟨us,[]⟩ (ps.zip (us++ds))
theorem em.all {K:PySem.W.Frag}{fd:FuncData}{ps:List Str}(h:∀ us:List Value,us.length=ps.length→bindArgs fd ⟨us,[]⟩=pure (ps.zip us)):em K fd ps []:=fun s us _ hl=>by
 rw[AO] at hl ⊢;exact .of_eq (h us hl)
def dq (CX:CXT)(X:Cx)(E:XK):Prop:=∀ (pins:List (Addr×Obj)) (σ:St)(H:Hp)(s:Shared) (e:Value)(s':Shared),Inv X pins σ H s→CX X.stack H s E e s'→X.xe e s'
section
variable {X:Cx}{CX:CXT}{k:Nat}{f C:Addr}{fd:FuncData}{ps:List Str}{sp:Sp}{dvs:List V}{ds:List Value}{E:XK}{x m:Str}{p pos apos:Pos}{e o:Expr}{es:List Expr}{ta:TE}{t:TA}
theorem qA {pins:List (Addr×Obj)}{σ:St}{H:Hp}{s:Shared}{Q:VK}{us:List Value}{vs:List V}(F:aU X.prog X.w X.K X.mg X.base CX k f fd ps sp)(hr:cL k X.A)(hb:em X.K fd ps ds)(hd:Vals dvs ds)(hx:dq CX X E)
   (I:Inv X pins σ H s)(r:Vals vs us)(h:sp (vs++dvs) H Q E):wpAny (model X.prog X.w) X.A (call (.ref f) us) (EP X pins σ Q) X.xe s:=by
 have r2:Vals (vs++dvs) (us++ds):=r.append hd
 have hl:(us++ds).length=ps.length:=by rw[←r2.length];exact F.len _ _ _ _ h
 refine wpAny_call (codeAny_mono (F.run X.A X.stack s H ⟨us,[]⟩ (us++ds) (vs++dvs) Q E hr I.env0 (hb s us I.kIn hl) r2 h) fun r s' hq=>?_)
 cases r with
 | error e=>exact hx pins σ H s e s' I hq
 | ok fl =>
   cases fl with
   | ret u=>exact I.after hq
   | next=>exact False.elim hq
   | brk=>exact False.elim hq
   | cont=>exact False.elim hq
theorem wO (F:aU X.prog X.w X.K X.mg X.base CX k f fd ps sp)(hr:cL k X.A)(hg:Gl X x)(hm:X.mg x=some (.ref f))(hk:Bc X.K (.ref f)=true)(hb:em X.K fd ps ds)(hd:Vals dvs ds)(hx:dq CX X E)
   (ha:PA X (e::es) t)(hdb:(x==("__debug__":Str))=false:=by decide)(he:starEach (e::es) X.env=(false,eval e X.env)::starEach es X.env:=by rfl)(hpl:(backTo pos (starEach es X.env)).any (·.1)=false:=by rfl) :
   PE X (.Call (.Name x p) (e::es) [] pos) (rh sp dvs E t):=by
 intro pins s σ H Q I h;refine wpAny_Call_Name_kw (g0 I hg hm ?_ hdb);refine B8 (h₀:=X.base) I.ok.mod.kin hk (thn (ha pos s σ H _ I h) fun us s1 ⟨vs,H1,I1,r,q⟩=>⟨I1.kIn,?_⟩) he hpl;exact qA F hr hb hd hx I1 r q
theorem ig {pl:Sem Bool}(he:PE X o ta)(c:Cls X.K C)(hm:Meth X.K C m f)(F:aU X.prog X.w X.K X.mg X.base CX k f fd ps sp)(hr:cL k X.A)(hb:em X.K fd ps ds)(hd:Vals dvs ds)(hx:dq CX X E)(ha:PA X (e::es) t)
   (hst:starEach (e::es) X.env=(false,eval e X.env)::starEach es X.env:=by rfl)(hpl:(backTo pos (starEach es X.env)).any (·.1)=false:=by rfl)
   (ht:eval (.Call (.Attribute o m apos) (e::es) [] pos) X.env=(do
     let ov ←eval o X.env
     standAt apos.atName
     let (f,first) ←holding [ov] (getMethod ov m pl)
     callWith pos f first (backTo pos (starEach (e::es) X.env)) (backToKw pos (keywordEach [] X.env))):=by rfl) :
   PE X (.Call (.Attribute o m apos) (e::es) [] pos) (lL C m sp dvs E ta t):=by
 intro pins s σ H Q I h;refine BQ (pl:=pl) (thn (he s σ H _ I h) fun u s1 ⟨x,H1,I1,rx,a,dx,fs,ex,ea,l,q⟩=>?_) ht;subst ex;obtain rfl:u=Value.ref a:=rx;refine gC I1 ea c hm l ?_;refine B8 (first:=[.ref a]) (h₀:=X.base) I.ok.mod.kin hm.kp (thn (ha pos s1 σ H1 _ I1 q) fun us s2 ⟨vs,H2,I2,r,q2⟩=>⟨I2.kIn,?_⟩) hst hpl;exact qA (us:=.ref a::us) (vs:=.ref a::vs) F hr hb hd hx I2 (.cons rfl r) q2
theorem vK {pl:Sem Bool}(he:PE X o ta)(c:Cls X.K C)(hm:Meth X.K C m f)(F:aU X.prog X.w X.K X.mg X.base CX k f fd ps sp)(hr:cL k X.A)(hb:em X.K fd ps ds)(hd:Vals dvs ds)(hx:dq CX X E)
   (ht:eval (.Call (.Attribute o m apos) [] [] pos) X.env=(do
     let ov ←eval o X.env
     standAt apos.atName
     let (f,first) ←holding [ov] (getMethod ov m pl)
     callWith pos f first (backTo pos (starEach [] X.env)) (backToKw pos (keywordEach [] X.env))):=by rfl) :
   PE X (.Call (.Attribute o m apos) [] [] pos) (lL C m sp dvs E ta tm):=by
 intro pins s σ H Q I h;refine BQ (pl:=pl) (thn (he s σ H _ I h) fun u s1 ⟨x,H1,I1,rx,a,dx,fs,ex,ea,l,q⟩=>?_) ht;subst ex;obtain rfl:u=Value.ref a:=rx;refine gC I1 ea c hm l ?_;exact PySem.W.callWith_K0 (first:=[.ref a]) I1.kIn hm.kp (qA (us:=[.ref a]) (vs:=[.ref a]) F hr hb hd hx I1 (.cons rfl .nil) q)
structure Mk (K:PySem.W.Frag)(C f:Addr):Prop where
 makes:BW K C=true
 init:AV K (.ref C) "__init__"=some (some (.ref f))
 fn:CA K (.ref f)=true
 kp:Bc K (.ref C)=true
theorem wc {pins:List (Addr×Obj)}{σ:St}{H:Hp}{s:Shared}{Q:VK}{us:List Value}{vs:List V}(M:Mk X.K C f)(F:aU X.prog X.w X.K X.mg X.base CX k f fd ps sp)(hr:cL (k+1) X.A)(hb:em X.K fd ps ds)(hd:Vals dvs ds)
   (hx:dq CX X E)(I:Inv X pins σ H s)(r:Vals vs us)
   (h:∀ x dx,H x=none→H dx=none→dx≠x→sp (.ref x::(vs++dvs)) (upd (upd H dx (.own x)) x (.ins C dx [])) (fun v H2=>v=.non∧Q (.ref x) H2) E) :
   wpAny (model X.prog X.w) X.A (call (.ref C) us) (EP X pins σ Q) X.xe s:=by
 have hq:=h (s.heap.objs.size+1) s.heap.objs.size (I.hok.fresh (Cu _)) (I.hok.fresh (zR _)) (Aa (Bo _));have I2:=Inv.made (C:=C) I;have r2:Vals (V.ref (s.heap.objs.size+1)::(vs++dvs)) (Value.ref (s.heap.objs.size+1)::(us++ds)):=.cons rfl (r.append hd)
 have hl:(Value.ref (s.heap.objs.size+1)::us++ds).length=ps.length:=by
   have e:=r2.length;rw[F.len _ _ _ _ hq] at e;exact e.symm
 refine wpAny_call (uM (f:=f) I.kIn M.makes M.init (beq_iff_eq.mp M.fn) (codeAny_mono (F.run _ X.stack _ _ ⟨Value.ref (s.heap.objs.size+1)::us,[]⟩ (Value.ref (s.heap.objs.size+1)::(us++ds)) _ _ E (hr.make C us [])
   (I2.env0.make C us []) (hb _ (Value.ref (s.heap.objs.size+1)::us) I2.kIn hl) r2 hq) fun r s' hq'=>?_))
 cases r with
 | error e=>exact hx pins σ _ _ e s' I2 hq'
 | ok fl =>
   cases fl with
   | ret u =>
     obtain⟨v,H',I3,rv,ev,q3⟩:=I2.after hq';subst ev;exact⟨rv,⟨V.ref (s.heap.objs.size+1),H',I3,rfl,q3⟩⟩
   | next=>exact False.elim hq'
   | brk=>exact False.elim hq'
   | cont=>exact False.elim hq'
theorem ni (M:Mk X.K C f)(F:aU X.prog X.w X.K X.mg X.base CX k f fd ps sp)(hr:cL (k+1) X.A)(hg:Gl X x)(hm:X.mg x=some (.ref C))(hb:em X.K fd ps ds)(hd:Vals dvs ds)(hx:dq CX X E)
   (ha:PA X (e::es) t)(hdb:(x==("__debug__":Str))=false:=by decide)(he:starEach (e::es) X.env=(false,eval e X.env)::starEach es X.env:=by rfl)(hpl:(backTo pos (starEach es X.env)).any (·.1)=false:=by rfl) :
   PE X (.Call (.Name x p) (e::es) [] pos) (uR C sp dvs E t):=by
 intro pins s σ H Q I h;refine wpAny_Call_Name_kw (g0 I hg hm ?_ hdb);refine B8 (h₀:=X.base) I.ok.mod.kin M.kp (thn (ha pos s σ H _ I h) fun us s1 ⟨vs,H1,I1,r,q⟩=>⟨I1.kIn,?_⟩) he hpl;exact wc M F hr hb hd hx I1 r q
end
section
variable {X:Cx}{CX:CXT}{k:Nat}{f C:Addr}{fd:FuncData}{ps ks:List Str}{sp:Sp}{E:XK}{x m:Str}{p pos apos kpos:Pos}{e o:Expr}{es:List Expr}{kws:List Keyword}{te ta:TE}{t tk:TA}{nm:Option Str}
variable {g:List Value→List Value→List Value}{gV:List V→List V→List V}
end
structure aw (N P:List Str)(sc:Scope):Prop where
 kind:sc.kind=.function
 co:sc.isCoroutine=false
 gen:sc.isGenerator=false
 nd:N.Nodup
 pre:N.take P.length=P
 par:∀ x∈P,sc.names.lookup x=some .local∨sc.names.lookup x=some .cell
 nofree:∀ y∈sc.names,y.2≠.free
theorem lf {kindOf:Str→Option NameKind}{x:Str}:∀ {binds:List (Str×Value)}{m:Str→Option Value},(∀ v,(x,v)∉binds)→bindL kindOf binds m x=m x
 | [],_,_=>rfl
 | (n,v)::r,m,h=>by
   unfold bindL;rw[lf fun w hw=>h w (z7 _ hw)]
   split
   . have:x≠n:=by rintro rfl;exact h v zZ
     simp[this]
   . rfl
theorem lV {kindOf:Str→Option NameKind}{x:Str}:∀ {binds:List (Str×Value)}{m:Str→Option Value},(∀ v,(x,v)∉binds)→bindC kindOf binds m x=m x
 | [],_,_=>rfl
 | (n,v)::r,m,h=>by
   unfold bindC;rw[lV fun w hw=>h w (z7 _ hw)]
   split
   . rfl
   . have:x≠n:=by rintro rfl;exact h v zZ
     simp[this]
theorem lp {kindOf:Str→Option NameKind}{x:Str}{v:Value}:∀ {P:List Str}{vs:List Value}{i:Nat}{m:Str→Option Value},P.Nodup→P[i]?=some x→vs[i]?=some v→kindOf x=some .local →
   bindL kindOf (P.zip vs) m x=some v
 | [],_,_,_,_,h,_,_=>by simp at h
 | _::_,[],_,_,_,_,h,_=>by simp at h
 | p::P,w::vs,0,m,nd,h1,h2,hk=>by
   simp at h1 h2;subst h1;subst h2;show bindL kindOf ((p,w)::P.zip vs) m p=_;unfold bindL;rw[lf fun v hv=>(List.nodup_cons.mp nd).1 (Cs hv).1,if_pos hk];simp
 | p::P,w::vs,i+1,m,nd,h1,h2,hk=>by
   show bindL kindOf ((p,w)::P.zip vs) m x=_;unfold bindL;exact lp (i:=i) (List.nodup_cons.mp nd).2 (by simpa using h1) (by simpa using h2) hk
theorem lm {kindOf:Str→Option NameKind}{x:Str}{v:Value}:∀ {P:List Str}{vs:List Value}{i:Nat}{m:Str→Option Value},P.Nodup→P[i]?=some x→vs[i]?=some v→kindOf x≠some .local →
   bindC kindOf (P.zip vs) m x=some v
 | [],_,_,_,_,h,_,_=>by simp at h
 | _::_,[],_,_,_,_,h,_=>by simp at h
 | p::P,w::vs,0,m,nd,h1,h2,hk=>by
   simp at h1 h2;subst h1;subst h2;show bindC kindOf ((p,w)::P.zip vs) m p=_;unfold bindC;rw[lV fun v hv=>(List.nodup_cons.mp nd).1 (Cs hv).1,if_neg hk];simp
 | p::P,w::vs,i+1,m,nd,h1,h2,hk=>by
   show bindC kindOf ((p,w)::P.zip vs) m x=_;unfold bindC;exact lm (i:=i) (List.nodup_cons.mp nd).2 (by simpa using h1) (by simpa using h2) hk
def start (N:List Str)(vs:List V):St:=vs.map some++z8 (N.length - vs.length) none
def eO (CX:CXT)(P:Program)(w:World)(K:PySem.W.Frag)(mg:Str→Option Value)(base:Heap)(N:List Str) (qual:Str)(scope:Scope)(f:Addr) (cd:Value)(A:Around)(outer:List Env)(s:Shared)(H:Hp)(E:XK):Cx where
 prog:=P
 w:=w
 K:=K
 mg:=mg
 base:=base
 A:=A.deeper (envOfC qual scope s.heap.objs.size f cd)
 N:=N
 s₀:=s
 H₀:=H
 env:=envOfC qual scope s.heap.objs.size f cd
 outer:=outer
 stack:=envOfC qual scope s.heap.objs.size f cd::outer
 ex:=[]
 calm:=true
 fn:=fun _=>true
 pn:=[]
 xe:=fun e s'=>wpAny (model P w) (A.deeper (envOfC qual scope s.heap.objs.size f cd)) (leaving (envOfC qual scope s.heap.objs.size f cd) e) (fun _ s''=>CX outer H s E e s'') (fun e' s''=>CX outer H s E e' s'') s'
theorem oW {sc:Scope}{n:Nat}{x:Str}(h:sc.names.lookup x=some .cell):∃ c,(cellsFrom n sc.names []).lookup x=some c:=by
 have q:=PySem.W.cellsFrom_some sc.names n [] (.inl h);exact Option.isSome_iff_exists.mp q
theorem sG {CX:CXT}{P:Program}{w:World}{K:PySem.W.Frag}{mg:Str→Option Value}{base:Heap}{N ps:List Str}{qual:Str}{scope:Scope}{f:Addr}{cd:Value}{A:Around}{outer:List Env}{s s1:Shared}{H:Hp}{E:XK}{us:List Value}{vs:List V}
   (S:aw N ps scope)(hd:A.handled=none)(e0:qv P w K mg base A outer s H)(hl:vs.length=ps.length)(r:Vals vs us)
   (x:InCallC s s.heap.objs.size (bindL (envOfC qual scope s.heap.objs.size f cd).kindOf (ps.zip us) fun _=>none) (cellsFrom (s.heap.objs.size+1) scope.names []) (bindC (envOfC qual scope s.heap.objs.size f cd).kindOf (ps.zip us) fun _=>none) s1) :
   Inv (eO CX P w K mg base N qual scope f cd A outer s H E) [] (start N vs) H s1:=by
 have hpl:ps.length≤N.length:=by have:=congrArg Cf S.pre;rw[Af] at this;omega
 obtain⟨h1,tk,rfl,hk⟩:=x.done;have noA:∀ b:Addr,b∉(eO CX P w K mg base N qual scope f cd A outer s H E).ex:=fun b z=>absurd (show b∈([]:List Addr) from z) (by simp)
 refine⟨⟨e0.mod,S.kind,rfl,rfl,zR _,fun y z c h1 h2=>?_,fun y hy=>?_,fun y c _ h=>?_,fun _=>hd,Around.frames_deeper e0.frames,.inr ⟨rfl,rfl⟩,fun b z=>absurd z (noA b),e0.bs,e0.bsz,fun b _ _=>noA b,fun b z=>absurd z (noA b),e0.funs,e0.frf⟩,
   rfl,e0.bare,Un.kept hk,⟨_,x.toInCall.ns,fun i y v h1 h2 h3=>?_⟩,fun y c h=>⟨_,x.cell y c h⟩,e0.hok.fresh (zR _),fun y c h=>?_,fun p hp=>absurd (show p∈([]:List (Addr×Obj)) from hp) (by simp),e0.hok.kept hk,?_⟩
 . exact name_of_addr x.apart (A2 h1) (A2 h2)
 . have hy:scope.names.lookup y=some .cell∨scope.names.lookup y=some .free:=hy
   rcases hy with hy | hy
   . exact oW hy
   . exact absurd rfl (S.nofree _ (A2 hy))
 . exact Cp (x.above y c (A2 h))
 . have hi:i < vs.length:=by
     unfold start at h2;by_cases hi:i < vs.length
     . exact hi
     . rw[zT (by simpa using hi)] at h2;rw[List.getElem?_replicate] at h2
       split at h2<;>cases h2
   have ha:vs[i]?=some v:=by
     unfold start at h2;rw[zY (by simpa using hi),zO] at h2
     cases e:vs[i]? with
     | none=>rw[e] at h2;cases h2
     | some a=>rw[e] at h2;cases h2;rfl
   obtain⟨u,hu,rv⟩:=r.get ha
   have hp:ps[i]?=some y:=by
     rw[←S.pre,List.getElem?_take_of_lt (by omega)];exact h1
   have ndP:ps.Nodup:=by rw[←S.pre];exact S.nd.sublist (Bv _ _)
   refine⟨u,rv,?_⟩
   rcases S.par y (zS hp) with k | k
   . exact .inl ⟨k,lp ndP hp hu k⟩
   . obtain⟨c,e⟩:=oW (n:=s.heap.objs.size+1) k;refine .inr ⟨.inl k,c,e,?_⟩;have q:=x.cell y c e;rw[lm ndP hp hu (by show scope.names.lookup y≠_;rw[k];decide)] at q;exact q
 . exact e0.hok.fresh (Cp (x.above y c (A2 h)))
 . unfold start;show _=N.length;rw[zP,be,List.length_replicate];omega
theorem xr {CX:CXT}{P:Program}{w:World}{K:PySem.W.Frag}{mg:Str→Option Value}{base:Heap}{k:Nat}{f:Addr}{name qual:Str}{params:Arguments}{body:List Stmt}{scope:Scope}{dV kV doc pm cdv ct oc:Value}{an od:Option Addr}
   {osl:Array (Option Value)}{N ps:List Str}{sp:Sp}(lk:K.lookup f=some ⟨oc,od,.func (Bs name qual params body scope dV kV doc pm an cdv ct),osl⟩)(hcd:Cv K cdv qual=true)(S:aw N ps scope)
   (len:∀ vs H Q E,sp vs H Q E→vs.length=ps.length)
   (hbody:∀ (A:Around)(outer:List Env)(s:Shared)(H:Hp)(vs:List V)(Q:VK)(E:XK),cL k (A.deeper (envOfC qual scope s.heap.objs.size f cdv))→sp vs H Q E →
     ∃ t,PSs (eO CX P w K mg base N qual scope f cdv A outer s H E) body t∧t { nx:=fun _ H'=>Q .non H',rt:=Q } (start N vs) H) :
   aU P w K mg base CX (k+1) f (Bs name qual params body scope dV kV doc pm an cdv ct) ps sp:=by
 refine⟨len,fun A outer s H args us vs Q E hr e0 hb r hsp=>?_⟩;have hl:=len _ _ _ _ hsp;have KX:K.In s.heap:=e0.mod.kin.keeps fun b o e=>(e0.bs b o e).1;have lim:s.heap.NoLimit:=e0.mod.nolimit.keeps fun b o e=>(e0.bs b o e).1
 have hkind:∀ y∈ps.zip us,scope.names.lookup y.1=some .local∨(scope.names.lookup y.1=some .cell∧((cellsFrom (s.heap.objs.size+1) scope.names []).lookup y.1).isSome=true):=fun⟨n,v⟩ hy=>by
   rcases S.par n (Cs hy).1 with q | q
   . exact .inl q
   . exact .inr ⟨q,PySem.W.cellsFrom_some _ _ _ (.inl q)⟩
 refine codeAny_call_function hr.depth (KX _ _ lk) rfl S.co S.gen rfl (PySem.W.codeRec_of KX hcd) (hb _ _ _ _ ?_);refine wpAny_newFunctionEnv_cells S.kind hkind fun env he s1 x=>?_;subst he;refine⟨lim.keeps x.toInCall.keep,codeAny_func ?_⟩;obtain⟨t,ht,hq⟩:=hbody A outer s H vs Q E (hr.deeper _) hsp;have I:Inv (eO CX P w K mg base N qual scope f cdv A outer s H E) [] (start N vs) H s1:=sG S hr.hd e0 hl r x;refine wpAny_mono (ht s1 (start N vs) H _ I hq) (fun fl s' hs=>?_) fun e s' hs=>hs
 have fin:∀ {σ':St}{H':Hp}{v:V}{u:Value},Inv (eO CX P w K mg base N qual scope f cdv A outer s H E) [] σ' H' s'→ba v u→Q v H'→CE outer P w H s Q u s' :=
   fun {σ' H' v u} J rv q=>⟨v,H',J.os,J.bare,J.base,J.hok,rv,q⟩
 cases fl with
 | ret u =>
   obtain⟨v,σ',H',J,rv,q⟩:=hs;exact fin J rv q
 | next =>
   obtain⟨σ',H',J,q⟩:=hs;exact fin (v:=V.non) (u:=Value.none) J rfl q
 | brk =>
   obtain⟨_,_,_,q⟩:=hs;exact False.elim q
 | cont =>
   obtain⟨_,_,_,q⟩:=hs;exact False.elim q
section
variable {X:Cx}{x:Str}{p pos:Pos}{e:Expr}{es:List Expr}{t:TA}{id T:String}{r:List V→Hp→VK→Prop}
def tCB (r:List V→Hp→VK→Prop)(t:TA):TE:=fun σ H Q=>t σ H fun vs H1=>r vs H1 Q
theorem al (hc:cq X (.builtin id) r)(hg:Gl X x)(hm:X.mg x=none)(hv:bootBuiltins x=some (.builtin id))(ha:PA X (e::es) t)(hn:x≠"__name__":=by decide)(hdb:(x==("__debug__":Str))=false:=by decide)
   (he:starEach (e::es) X.env=(false,eval e X.env)::starEach es X.env:=by rfl)(hpl:(backTo pos (starEach es X.env)).any (·.1)=false:=by rfl):PE X (.Call (.Name x p) (e::es) [] pos) (tCB r t):=by
 intro pins s σ H Q I h;refine wpAny_Call_Name_kw (iU I hg hm hv ?_ hn hdb);exact PyProof.Rows.callWith_builtin1 (thn (ha pos s σ H _ I h) fun us s1 ⟨vs,H1,I1,r1,q1⟩=>hc pins s1 σ H1 vs us Q I1 r1 q1) he hpl
theorem cu (hc:cq X (.type T) r)(hg:Gl X x)(hm:X.mg x=none)(hv:bootBuiltins x=some (.type T))(ha:PA X (e::es) t)(hn:x≠"__name__":=by decide)(hdb:(x==("__debug__":Str))=false:=by decide)
   (he:starEach (e::es) X.env=(false,eval e X.env)::starEach es X.env:=by rfl)(hpl:(backTo pos (starEach es X.env)).any (·.1)=false:=by rfl):PE X (.Call (.Name x p) (e::es) [] pos) (tCB r t):=by
 intro pins s σ H Q I h;refine wpAny_Call_Name_kw (iU I hg hm hv ?_ hn hdb);exact Ba (thn (ha pos s σ H _ I h) fun us s1 ⟨vs,H1,I1,r1,q1⟩=>hc pins s1 σ H1 vs us Q I1 r1 q1) he hpl
end
end L2
namespace HT
open PySem PyProof.Rows
section
open PySem.SeqAt
open PySem.AutoSeq1 (wpAny_loadPart')
open PySem.MeetsSeq PySem.MeetsSeq2 PySem.MeetsSeq3
end
section
variable {prog:Program}{w:World}{A:Around}{E:Value→Shared→Prop}{s:Shared}
def sIx (n d:Nat):Option Int→Nat
 | none=>d
 | some v=>if v < 0 then(v+(n:Int)).toNat else min v.toNat n
theorem sIx_none (n d:Nat):sIx n d none=d:=rfl
theorem sIx_nat (n d k:Nat):sIx n d (some (k:Int))=min k n:=by
 show(if(k:Int) < 0 then((k:Int)+(n:Int)).toNat else min (k:Int).toNat n)=min k n;rw[if_neg (by omega),Au]
end
end HT
namespace L2
open PySem PySem.Spec PyProof.Rows
abbrev TO:=St→Hp→(Option Int→Hp→Prop)→Prop
def PO (X:Cx)(e:Option Expr)(t:TO):Prop :=
 ∀ ⦃pins:List (Addr×Obj)⦄ (s:Shared) (σ:St)(H:Hp)(Q:Option Int→Hp→Prop),Inv X pins σ H s→t σ H Q →
   wpAny (model X.prog X.w) X.A (evalPart e X.env) (fun u s'=>∃ o H',Inv X pins σ H' s'∧IsPart u o∧Q o H') X.xe s
def mR:TO:=fun _ H Q=>Q none H
def uD (t:TE):TO:=fun σ H Q=>t σ H fun x H1=>∃ i,x=.int i∧Q (some i) H1
section
variable {X:Cx}{e:Expr}{te:TE}{lo hi:Option Expr}{tl th:TO}{pos p2:Pos}
theorem ic:PO X none mR:=by
 intro pins s σ H Q I h;rw[evalPart_none];exact wpAny_pure ⟨none,H,I,.none,h⟩
theorem eY (h:PE X e te):PO X (some e) (uD te):=by
 intro pins s σ H Q I hw;rw[evalPart_some];refine thn (h s σ H _ I hw) fun u s1 ⟨x,H1,I1,r1,q1⟩=>?_;obtain⟨i,rfl,q⟩:=q1;obtain⟨t,rfl⟩:=r1;exact⟨some i,H1,I1,.int i t,q⟩
def SlR (X:Cx)(r:V→Option Int→Option Int→Hp→VK→Prop):Prop :=
 ∀ (pins:List (Addr×Obj))(s:Shared) (σ:St)(H:Hp) (x:V) (v vl vu:Value)(lo hi:Option Int)(sl:Addr)(Q:VK),Inv X pins σ H s→ba x v→s.heap.IsSliceOf sl vl vu .none→IsPart vl lo→IsPart vu hi→r x lo hi H Q →
   ∃ T id,typeLookup (.type T) "__getitem__"=pure (some (.builtin id))∧s.TypeIs v T∧wpAny (model X.prog X.w) X.A (getItem v (.ref sl)) (EP X pins σ Q) X.xe s
def tSl (r:V→Option Int→Option Int→Hp→VK→Prop)(te:TE)(tl th:TO):TE:=fun σ H Q=>te σ H fun x H1=>tl σ H1 fun l H2=>th σ H2 fun u H3=>r x l u H3 Q
theorem eI {r:V→Option Int→Option Int→Hp→VK→Prop}(hr:SlR X r)(he:PE X e te)(hl:PO X lo tl)(hu:PO X hi th):PE X (.Subscript e (.Slice lo hi none p2) pos) (tSl r te tl th):=by
 intro pins s σ H Q I h;refine Subscript_ (thn (he s σ H _ I h) fun v s1 ⟨x,H1,I1,r1,q1⟩=>?_);refine wpAny_Slice (thn (hl s1 σ H1 _ I1 q1) fun vl s2 ⟨l,H2,I2,pl,q2⟩=>thn (hu s2 σ H2 _ I2 q2) fun vu s3 ⟨u,H3,I3,pu,q3⟩=>?_);rw[evalPart_none];refine wpAny_pure ?_;have I4:Inv X pins σ H3 { s3 with heap:=s3.heap.push { cls:=.type "slice",data:=.fields #[vl,vu,.none] } }:=I3.kept (t':=s3.toks) fun b ob q=>Heap.get?_push_of_some _ q;obtain⟨T,id,hT,ht,hg⟩:=hr pins { s3 with heap:=s3.heap.push { cls:=.type "slice",data:=.fields #[vl,vu,.none] } } σ H3 x v vl vu l u s3.heap.objs.size Q I4 r1 (Heap.IsSliceOf.new ..) pl pu q3;show wpAny (model X.prog X.w) X.A (subscriptTail e (.Slice lo hi none p2) v (.ref s3.heap.objs.size)) (EP X pins σ Q) X.xe { s3 with heap:=s3.heap.push { cls:=.type "slice",data:=.fields #[vl,vu,.none] } };exact tail_any (ops:=[.ref s3.heap.objs.size,v]) ht hT hg (by with_unfolding_all rfl)
def ix (xs:List V)(lo hi:Option Int):List V:=(xs.drop (HT.sIx xs.length 0 lo)).take (HT.sIx xs.length xs.length hi - HT.sIx xs.length 0 lo)
theorem oU (xs:List V)(lo hi:Option Int):(ix xs lo hi).length≤xs.length:=by
 unfold ix;rw[Af,AY];omega
end
def ixN (n:Nat) (i:Int):Option Nat:=if 0≤i then(if i < n then some i.toNat else none) else if -(n:Int)≤i then some (i+n).toNat else none
def atI {α:Type}(xs:List α) (i:Int):Option α:=(ixN xs.length i).bind fun j=>xs[j]?
theorem rO {n:Nat}{i:Int}{j:Nat}(h:ixN n i=some j):seqIndex? i n=some j∧j < n∧-(n:Int)≤i∧i < n:=by
 unfold ixN at h;by_cases h0:0≤i
 . rw[if_pos h0] at h;by_cases h1:i < n
   . rw[if_pos h1] at h;have e:i.toNat=j:=Option.some.inj h;exact⟨by rw[seqIndex_of h0 h1,e],by omega,by omega,h1⟩
   . rw[if_neg h1] at h;cases h
 . rw[if_neg h0] at h;by_cases h1:-(n:Int)≤i
   . rw[if_pos h1] at h;have e:(i+n).toNat=j:=Option.some.inj h;exact⟨by rw[seqIndex_neg (by omega) h1,e],by omega,h1,by omega⟩
   . rw[if_neg h1] at h;cases h
theorem mj {α:Type}{xs:List α}{i:Int}{v:α}(h:atI xs i=some v):∃ j,seqIndex? i xs.length=some j∧xs[j]?=some v∧j < xs.length∧-(xs.length:Int)≤i∧i < xs.length:=by
 unfold atI at h
 cases e:ixN xs.length i with
 | none=>rw[e] at h;cases h
 | some j =>
   rw[e] at h;obtain⟨h1,h2,h3,h4⟩:=rO e;exact⟨j,h1,h,h2,h3,h4⟩
theorem bT {α:Type}{xs:List α}{j:Nat}{v:α}(h:xs[j]?=some v):atI xs (j:Int)=some v:=by
 have hj:j < xs.length:=(List.getElem?_eq_some_iff.mp h).1
 have e:ixN xs.length (j:Int)=some j:=by
   unfold ixN;rw[if_pos (by omega),if_pos (by omega)];simp
 unfold atI;rw[e];exact h
theorem eX {α:Type}(xs:List α)(v:α):atI (xs++[v]) (-1)=some v:=by
 have hl:(xs++[v]).length=xs.length+1:=by simp
 have e:ixN (xs++[v]).length (-1)=some xs.length:=by
   unfold ixN;rw[hl,if_neg (by decide),if_pos (by omega)]
   congr 1
   omega
 unfold atI;rw[e];show(xs++[v])[xs.length]?=some v;simp
def rG (b:Expr):Prop:=∀ o i,subscripted b false o i=operate [o,i] (getItem o i)
def IxR (X:Cx)(r:R2):Prop :=
 ∀ (value slice:Expr)(pins:List (Addr×Obj))(s:Shared) (σ:St)(H:Hp) (x y:V) (v u:Value)(Q:VK),Inv X pins σ H s→ba x v→ba y u→r x y H Q →
   subscripted slice false v u=operate [v,u] (getItem v u)→wpAny (model X.prog X.w) X.A (subscriptTail value slice v u) (EP X pins σ Q) X.xe s
def MtR (X:Cx)(id:String)(r:V→List V→Hp→VK→Prop):Prop :=
 ∀ (pins:List (Addr×Obj))(s:Shared) (σ:St)(H:Hp) (x:V)(xs:List V) (v:Value)(us:List Value)(Q:VK),Inv X pins σ H s→ba x v→Vals xs us→r x xs H Q →
   wpAny (model X.prog X.w) X.A (call (.builtin id) (v::us)) (EP X pins σ Q) X.xe s
section
variable {X:Cx}{a b:Expr}{ta tb:TE}{pos:Pos}
theorem IxR.or {r r':R2}(h:IxR X r)(h':IxR X r'):IxR X (fun x y H Q=>r x y H Q∨r' x y H Q):=by
 intro value slice pins s σ H x y v u Q I rx ry q hs
 rcases q with q | q
 . exact h value slice pins s σ H x y v u Q I rx ry q hs
 . exact h' value slice pins s σ H x y v u Q I rx ry q hs
theorem yZ {r:R2}(hr:IxR X r)(ha:PE X a ta)(hb:PE X b tb)(hs:rG b):PE X (.Subscript a b pos) (tOp r ta tb):=by
 intro pins s σ H Q I h;exact Subscript_ (xH ha hb I h fun v u s2 x y H2 I2 rx ry q=>hr a b pins s2 σ H2 x y v u Q I2 rx ry q (hs _ _))
def hV (K:PySem.W.Frag):R2:=fun x y H Q=>nI x fun p=>∃ xs,isInt y fun i=>∃ v,SqL K H p xs∧atI xs i=some v∧Q v H
def px (K:PySem.W.Frag):R2:=fun x y H Q=>nI x fun p=>∃ xs,isInt y fun i=>∃ v,SqT K H p xs∧atI xs i=some v∧Q v H
def wz:R2:=fun x y H Q=>∃ z i c,x=.str z∧y=.int i∧z.length≤sizeLine∧atI z.cps.toList i=some c∧Q (.str ⟨#[c]⟩) H
theorem ak:IxR X (hV X.K):=by
 intro value slice pins s σ H x y v u Q I rx ry h hs;rw[hV,km] at h;obtain⟨p,rfl,xs,h⟩:=h;rw[cU] at h;obtain⟨i,rfl,z,hq,he,q⟩:=h;cases rx;obtain⟨t,rfl⟩:=ry;obtain⟨its,r,pl,hz⟩:=I.list hq;obtain⟨j,h1,h2,h3,h4,h5⟩:=mj he;obtain⟨w,ew,rw'⟩:=r.get h2;have hl:=r.length;have hn:=iz;have fin:EP X pins σ Q w s:=⟨z,H,I,rw',q⟩;by_cases h0:0≤i
 . have hj:i.toNat=j:=by
     rw[seqIndex_of h0 h5] at h1;exact Option.some.inj h1
   exact item_listR pl.isList h0 (by omega) (by rw[hj];simpa using ew) fin hs
 . have hj:(i+(its.toArray.size:Int)).toNat=j:=by
     rw[seqIndex_neg (by omega) h4] at h1;rw[z6,←hl];exact Option.some.inj h1
   exact subscriptTail_builtinR (x:=w) pl.isList.typeIs slot_list_getitem.lookup
     (wpAny_getItem_list_neg (Q:=fun r s'=>r=w∧EP X pins σ Q r s') pl.isList (by omega) (by rw[z6]<;>omega) (by omega) (by rw[hj];simpa using ew) ⟨rfl,fin⟩) hs
theorem aJ:IxR X (px X.K):=by
 intro value slice pins s σ H x y v u Q I rx ry h hs;rw[px,km] at h;obtain⟨p,rfl,xs,h⟩:=h;rw[cU] at h;obtain⟨i,rfl,z,hq,he,q⟩:=h;cases rx;obtain⟨t,rfl⟩:=ry;obtain⟨its,r,pl,hz⟩:=I.tuple hq;obtain⟨j,h1,h2,h3,h4,h5⟩:=mj he;obtain⟨w,ew,rw'⟩:=r.get h2;have hl:=r.length;have hn:=iz;have fin:EP X pins σ Q w s:=⟨z,H,I,rw',q⟩
 exact subscriptTail_builtinR (x:=w) pl.typeIs slot_tuple_getitem.lookup
   (getItem_tuple (j:=j) (Q:=fun r s'=>r=w∧EP X pins σ Q r s') pl (by omega) (by omega) (by rw[z6,←hl];exact h1) (by simpa using ew) ⟨rfl,fin⟩) hs
theorem ms:IxR X wz:=by
 intro value slice pins s σ H x y v u Q I rx ry h hs;obtain⟨z,i,c,rfl,rfl,hz,he,q⟩:=h;obtain⟨t,rfl⟩:=rx;obtain⟨t',rfl⟩:=ry;obtain⟨j,h1,h2,h3,h4,h5⟩:=mj he
 have hl:z.cps.toList.length=z.length:=by simp[Str.length]
 rw[hl] at h1 h4 h5;have hn:=iz
 exact tail_any (typeIs_str s z t) slot_str_getitem.lookup (getItem_str (c:=c) (by
   have e1:decide (i < -(2 ^ 63:Int))=false:=decide_eq_false (by omega);have e2:decide (i≥2 ^ 63)=false:=decide_eq_false (by omega)
   rw[e1,e2,Bool.or_false]) (by rw[h1];simpa using h2) ⟨.str ⟨#[c]⟩,H,I.tok _,⟨_,rfl⟩,q⟩) hs
def rIx (K:PySem.W.Frag):R2:=fun x y H Q=>hV K x y H Q∨px K x y H Q∨wz x y H Q
theorem v3:IxR X (rIx X.K):=ak.or (aJ.or ms)
theorem pE (its:List Value) (n j:Nat) (u:Value):Obj.mapSeq (·.setIfInBounds j u) { cls:=.type "list",data:=.seq its.toArray n }={ cls:=.type "list",data:=.seq (its.set j u).toArray n }:=by
 simp[Obj.mapSeq]
theorem Inv.lst {pins:List (Addr×Obj)}{σ:St}{H:Hp}{s:Shared}{p:Addr}{xs:List V}(I:Inv X pins σ H s)(h:H p=some (.lst xs)) :
   ∃ (its:List Value) (n:Nat),Vals xs its∧s.heap.get? p=some { cls:=.type "list",data:=.seq its.toArray n }∧xs.length≤sizeLine:=by
 obtain⟨z,its,n,r,e⟩:=I.hok p _ h;exact⟨its,n,r,e,z⟩
theorem Inv.lstUpd {pins:List (Addr×Obj)}{σ:St}{H:Hp}{s:Shared}{p:Addr}{xs ys:List V}{its its':List Value}{n n':Nat}{f:Obj→Obj}(I:Inv X pins σ H s)(h:H p=some (.lst xs))
   (ho:s.heap.get? p=some { cls:=.type "list",data:=.seq its.toArray n })(hf:f { cls:=.type "list",data:=.seq its.toArray n }={ cls:=.type "list",data:=.seq its'.toArray n' })(r:Vals ys its')(hz:ys.length≤sizeLine) (t:Nat) :
   Inv X pins σ (upd H p (.lst ys)) { s with heap:=s.heap.update p f,toks:=t }:=by
 have e:(s.heap.update p f).get? p=some { cls:=.type "list",data:=.seq its'.toArray n' }:=by
   rw[Heap.get?_update_self f ho (by rw[hf]<;>rfl),hf]
 refine I.write (x:=p) (e:=p) (by rw[h];trivial) (.inl rfl) (fun b u hb q=>(Heap.get?_update_other _ _ (Ne.symm hb)).trans q) ⟨_,e⟩ ?_;exact⟨hz,its',n',r,e⟩
def vd:V→V→V→Hp→(Hp→Prop)→Prop:=fun o i v H Q=>∃ p xs k j,o=.ref p∧i=.int k∧H p=some (.lst xs)∧ixN xs.length k=some j∧Q (upd H p (.lst (xs.set j v)))
theorem kq:yK X vd:=by
 intro pins s σ H o i v ov iv u Q I ro ri rv h;obtain⟨p,xs,k,j,rfl,rfl,hp,hj,q⟩:=h;cases ro;obtain⟨t,rfl⟩:=ri;obtain⟨its,n,r,ho,hz⟩:=I.lst hp;obtain⟨h1,h2,h3,h4⟩:=rO hj;have hl:=r.length;have hn:=iz
 have I':Inv X pins σ (upd H p (.lst (xs.set j v))) { s with heap:=s.heap.update p (Obj.mapSeq (·.setIfInBounds j u)) } :=
   I.lstUpd hp ho (pE its n j u) (r.set rv j) (by rw[Ct];exact hz) s.toks
 by_cases h0:0≤k
 . have hk:k.toNat=j:=by
     rw[seqIndex_of h0 h4] at h1;exact Option.some.inj h1
   exact PySem.W.ki_setAt ho h0 (by omega) (by rw[z6,←hl];exact h4) (by rw[hk];exact⟨_,I',q⟩)
 . have hk:(k+(its.toArray.size:Int)).toNat=j:=by
     rw[seqIndex_neg (by omega) h3] at h1;rw[z6,←hl];exact Option.some.inj h1
   exact PySem.W.ki_setBack ho (by omega) (by rw[z6,←hl];exact h3) (by omega) (by rw[hk];exact⟨_,I',q⟩)
theorem mi (lo hi:Option Int) (n:Nat):(sliceBounds lo hi none n).1=((HT.sIx n 0 lo:Nat):Int)∧(sliceBounds lo hi none n).2.1=((HT.sIx n n hi:Nat):Int)∧(sliceBounds lo hi none n).2.2=1:=by
 refine⟨?_,?_,rfl⟩
 . cases lo with
   | none=>simp[sliceBounds,HT.sIx]
   | some i =>
     simp only[sliceBounds,HT.sIx,Ck,show(1:Int) > 0 by decide,if_true];by_cases h:i < 0
     . simp only[h,if_true]<;>omega
     . simp only[h,if_false]<;>omega
 . cases hi with
   | none=>simp[sliceBounds,HT.sIx]
   | some i =>
     simp only[sliceBounds,HT.sIx,Ck,show(1:Int) > 0 by decide,if_true];by_cases h:i < 0
     . simp only[h,if_true]<;>omega
     . simp only[h,if_false]<;>omega
theorem kX (its:List Value)(lo hi:Option Int):slicePick its.toArray lo hi none=((its.drop (HT.sIx its.length 0 lo)).take (HT.sIx its.length its.length hi - HT.sIx its.length 0 lo)).toArray:=by
 obtain⟨h1,h2,h3⟩:=mi lo hi its.toArray.size;unfold slicePick;rw[h1,h2,h3];simp only[sliceRange_one,pick_run,z6]<;>rfl
def xZ (K:PySem.W.Frag):V→Option Int→Option Int→Hp→VK→Prop:=fun x lo hi H Q=>∃ a xs,x=.ref a∧SqL K H a xs∧∀ p,H p=none→Q (.ref p) (upd H p (.lst (ix xs lo hi)))
theorem gU:SlR X (xZ X.K):=by
 intro pins s σ H x v vl vu lo hi sl Q I rx hs pl pu h;obtain⟨a,xs,rfl,hx,q⟩:=h;cases rx;obtain⟨its,r,ht,hz⟩:=I.list hx;have hlen:=r.length;refine⟨"list",_,slot_list_getitem.lookup,ht.isList.typeIs,?_⟩;refine wpAny_getItem_list_slice ht.isList hs pl pu .none (by simp) ?_ (by rw[z6]<;>omega);rw[kX,←hlen];refine⟨.ref s.heap.objs.size,_,I.laid (t':=s.toks) (o:=.lst (ix xs lo hi)) (fun b ob q=>Heap.get?_push_of_some _ q) (zR _) ?_,rfl,q _ (I.hok.fresh (zR _))⟩;exact⟨AG (oU xs lo hi) hz,_,0,(r.drop (HT.sIx xs.length 0 lo)).take (HT.sIx xs.length xs.length hi - HT.sIx xs.length 0 lo),Heap.get?_push_size _ rfl⟩
def dG:V→Bool
 | .non=>true
 | .bl _=>true
 | .int _=>true
 | .str _=>true
 | _=>false
def eqV:V→V→Bool
 | .non,.non=>true
 | .bl a,.bl b=>a==b
 | .bl a,.int b=>(if a then 1 else 0)==b
 | .int a,.bl b=>a==(if b then 1 else 0)
 | .int a,.int b=>a==b
 | .str a,.str b=>a==b
 | _,_=>false
theorem vq {A:Around}{s:Shared}{y x:V}{u v:Value}(ry:ba y u)(rx:ba x v)(fy:dG y=true)(fx:dG x=true):SeqAt.EqAt A s u v (eqV y x):=by
 cases y with
 | non =>
   cases ry
   cases x with
   | non=>cases rx;exact SeqAt.EqAt.same _
   | bl b=>cases rx;exact SeqAt.EqAt.none_bool b
   | int b=>obtain⟨t,rfl⟩:=rx;exact SeqAt.EqAt.none_int b t
   | str b=>obtain⟨t,rfl⟩:=rx;exact SeqAt.EqAt.none_str b t
   | _=>exact absurd (show false=true from fx) Bool.false_ne_true
 | bl a =>
   cases ry
   cases x with
   | non=>cases rx;exact SeqAt.EqAt.bool_none a
   | bl b=>cases rx;exact SeqAt.EqAt.bool_bool a b
   | int b=>obtain⟨t,rfl⟩:=rx;exact SeqAt.EqAt.bool_int a b t
   | str b=>obtain⟨t,rfl⟩:=rx;exact SeqAt.EqAt.bool_str a b t
   | _=>exact absurd (show false=true from fx) Bool.false_ne_true
 | int a =>
   obtain⟨t',rfl⟩:=ry
   cases x with
   | non=>cases rx;exact SeqAt.EqAt.int_none a t'
   | bl b=>cases rx;exact SeqAt.EqAt.int_bool a t' b
   | int b=>obtain⟨t,rfl⟩:=rx;exact SeqAt.EqAt.int_int a t' b t
   | str b=>obtain⟨t,rfl⟩:=rx;exact SeqAt.EqAt.int_str a t' b t
   | _=>exact absurd (show false=true from fx) Bool.false_ne_true
 | str a =>
   obtain⟨t',rfl⟩:=ry
   cases x with
   | non=>cases rx;exact SeqAt.EqAt.str_none a t'
   | bl b=>cases rx;exact SeqAt.EqAt.str_bool a t' b
   | int b=>obtain⟨t,rfl⟩:=rx;exact SeqAt.EqAt.str_int a t' b t
   | str b=>obtain⟨t,rfl⟩:=rx;exact SeqAt.EqAt.str_str a t' b t
   | _=>exact absurd (show false=true from fx) Bool.false_ne_true
 | _=>exact absurd (show false=true from fy) Bool.false_ne_true
def eqU (x:V) (u:Value):Bool:=match u with
 | .none=>eqV .non x
 | .bool b=>eqV (.bl b) x
 | .int i _=>eqV (.int i) x
 | .str z _=>eqV (.str z) x
 | _=>false
theorem u7 {x y:V}{u:Value}(r:ba y u)(f:dG y=true):eqU x u=eqV y x:=by
 cases y with
 | non=>cases r;rfl
 | bl b=>cases r;rfl
 | int i=>obtain⟨t,rfl⟩:=r;rfl
 | str z=>obtain⟨t,rfl⟩:=r;rfl
 | _=>exact absurd (show false=true from f) Bool.false_ne_true
theorem hU {x:V}:∀ {xs:List V}{us:List Value},Vals xs us→xs.all dG=true→us.any (eqU x)=xs.any fun y=>eqV y x
 | _,_,.nil,_=>rfl
 | y::xs,u::us,.cons r t,f=>by
   rw[Cj,Bool.and_eq_true] at f;rw[Bm,Bm,u7 r f.1,hU t f.2]
theorem fP {A:Around}{s:Shared}{x:V}{v:Value}(rx:ba x v)(fx:dG x=true):∀ {xs:List V}{us:List Value},Vals xs us→xs.all dG=true→∀ u∈us,SeqAt.EqAt A s u v (eqU x u)
 | _,_,.nil,_=>fun u hu=>by cases hu
 | y::xs,u::us,.cons r t,f=>fun u' hu=>by
   rw[Cj,Bool.and_eq_true] at f
   rcases List.mem_cons.mp hu with rfl | hu
   . rw[u7 r f.1];exact vq r rx f.1 fx
   . exact fP rx fx t f.2 u' hu
def inV (x:V)(xs:List V):Bool:=xs.any fun y=>eqV y x
def rIn (K:PySem.W.Frag)(neg:Bool):R2:=fun x y H Q=>∃ p xs,y=.ref p∧(SqL K H p xs∨SqT K H p xs)∧dG x=true∧xs.all dG=true∧Q (.bl (if neg then !inV x xs else inV x xs)) H
theorem lY:OpR X (compareOp .In) (rIn X.K false):=by
 intro pins s σ H x y v u Q I rx ry h;obtain⟨p,xs,rfl,hq,fx,fs,q⟩:=h;cases ry
 rcases hq with hq | hq
 . obtain⟨its,r,pl,hz⟩:=I.list hq;refine SeqAt.in_listAt (eqU x) pl.isList (fun w hw=>fP rx fx r fs w (by simpa using hw)) ⟨.bl _,H,I,rfl,?_⟩;rw[show its.toArray.any (eqU x)=its.any (eqU x) by simp,hU r fs];exact q
 . obtain⟨its,r,pl,hz⟩:=I.tuple hq;refine SeqAt.in_tupleAt (eqU x) pl (fun w hw=>fP rx fx r fs w (by simpa using hw)) ⟨.bl _,H,I,rfl,?_⟩;rw[show its.toArray.any (eqU x)=its.any (eqU x) by simp,hU r fs];exact q
theorem cD:OpR X (compareOp .NotIn) (rIn X.K true):=by
 intro pins s σ H x y v u Q I rx ry h;obtain⟨p,xs,rfl,hq,fx,fs,q⟩:=h;cases ry
 rcases hq with hq | hq
 . obtain⟨its,r,pl,hz⟩:=I.list hq;refine SeqAt.notIn_listAt (eqU x) pl.isList (fun w hw=>fP rx fx r fs w (by simpa using hw)) ⟨.bl _,H,I,rfl,?_⟩;rw[show its.toArray.any (eqU x)=its.any (eqU x) by simp,hU r fs];exact q
 . obtain⟨its,r,pl,hz⟩:=I.tuple hq;refine SeqAt.notIn_tupleAt (eqU x) pl (fun w hw=>fP rx fx r fs w (by simpa using hw)) ⟨.bl _,H,I,rfl,?_⟩;rw[show its.toArray.any (eqU x)=its.any (eqU x) by simp,hU r fs];exact q
theorem ml:OpR X (compareOp .NotIn) (fun x y H Q=>∃ i j,x=.str i∧y=.str j∧Q (.bl (!(!(Builtin.Str.occurrences j i 0 j.length 1).isEmpty))) H):=by
 intro pins s σ H x y v u Q I rx ry h;obtain⟨i,j,rfl,rfl,q⟩:=h;obtain⟨t,rfl⟩:=rx;obtain⟨t',rfl⟩:=ry;exact notIn_str ⟨.bl _,H,I,rfl,q⟩
theorem av:cq X (.builtin "len") (fun xs H Q=>∃ p ys,xs=[.ref p]∧(SqL X.K H p ys∨SqT X.K H p ys)∧Q (.int ys.length) H):=by
 intro pins s σ H xs us Q I r h;obtain⟨p,ys,rfl,hq,q⟩:=h;obtain⟨u,rfl,rx⟩:=ej r;cases rx;have hn:=iz
 rcases hq with hq | hq
 . obtain⟨its,r',pl,hz⟩:=I.list hq;have hlen:=r'.length;exact Calls.call_len_list pl.isList (by simp only[z6]<;>omega) ⟨.int ys.length,H,I.tok _,⟨s.toks+1,by rw[z6,hlen]⟩,q⟩
 . obtain⟨its,r',pl,hz⟩:=I.tuple hq;have hlen:=r'.length;exact len_tuple pl (by simp only[z6]<;>omega) ⟨.int ys.length,H,I.tok _,⟨s.toks+1,by rw[z6,hlen]⟩,q⟩
theorem dW:cq X (.builtin "len") (fun xs H Q=>∃ z,xs=[.str z]∧z.length≤sizeLine∧Q (.int z.length) H):=by
 intro pins s σ H xs us Q I r h;obtain⟨z,rfl,hz,q⟩:=h;obtain⟨u,rfl,t,rfl⟩:=ej r;have hn:=iz;exact len_str (by omega) ⟨.int z.length,H,I.tok _,⟨_,rfl⟩,q⟩
theorem dU:cq X (.type "list") (fun xs H Q=>∃ p ys,xs=[.ref p]∧(SqL X.K H p ys∨SqT X.K H p ys)∧∀ l,H l=none→Q (.ref l) (upd H l (.lst ys))):=by
 intro pins s σ H xs us Q I r h;obtain⟨p,ys,rfl,hq,q⟩:=h;obtain⟨u,rfl,rx⟩:=ej r;cases rx
 have fin:∀ (its:List Value),Vals ys its→ys.length≤sizeLine→∀ (h':Heap) (c':Nat),(∀ b o',s.heap.get? b=some o'→h'.get? b=some o') →
     h'.get? s.heap.objs.size=some { cls:=.type "list",dict:=none,data:=.seq its.toArray c',slots:=#[] }→EP X pins σ Q (.ref s.heap.objs.size) { s with heap:=h' }:=fun its r' hz h' c' kp e =>
   ⟨.ref s.heap.objs.size,_,I.laid (t':=s.toks) kp (zR _) (show bP X.prog X.w _ h' _ (.lst ys) from⟨hz,its,c',r',e⟩),rfl,q _ (I.hok.fresh (zR _))⟩
 rcases hq with hq | hq
 . obtain⟨its,r',pl,hz⟩:=I.list hq;have hlen:=r'.length;obtain⟨o,ho,hc,n,hd⟩:=pl.isList;exact call_list_seq p (.inl rfl) ho hc hd (fun h' c' kp e=>fin its r' hz h' c' kp e) (by simp only[z6]<;>omega)
 . obtain⟨its,r',pl,hz⟩:=I.tuple hq;have hlen:=r'.length;obtain⟨o,ho,hc,n,hd⟩:=pl;exact call_list_seq p (.inr rfl) ho hc hd (fun h' c' kp e=>fin its r' hz h' c' kp e) (by simp only[z6]<;>omega)
theorem gu:cq X (.type "tuple") (fun xs H Q=>∃ p ys,xs=[.ref p]∧((SqL X.K H p ys∧∀ l,H l=none→Q (.ref l) (upd H l (.tup ys)))∨(SqT X.K H p ys∧Q (.ref p) H))):=by
 intro pins s σ H xs us Q I r h;obtain⟨p,ys,rfl,h⟩:=h;obtain⟨u,rfl,rx⟩:=ej r;cases rx
 rcases h with ⟨hq,q⟩ | ⟨hq,q⟩
 . obtain⟨its,r',pl,hz⟩:=I.list hq;have hlen:=r'.length;refine call_tuple_list pl.isList (fun h' kp=>?_) (by simp only[z6]<;>omega);have I1:Inv X pins σ H { s with heap:=h' }:=I.kept (t':=s.toks) kp
   have I2:Inv X pins σ (upd H h'.objs.size (.tup ys)) { s with heap:=h'.push { cls:=.type "tuple",data:=.seq its.toArray } } :=
     I1.laid (t':=s.toks) (fun b o e=>Heap.get?_push_of_some _ e) (zR _) (show bP X.prog X.w _ _ _ (.tup ys) from⟨hz,its,r',IsTup.new _ _⟩)
   exact⟨.ref h'.objs.size,_,I2,rfl,q _ (I1.hok.fresh (zR _))⟩
 . obtain⟨its,r',pl,hz⟩:=I.tuple hq;exact call_tuple_same pl ⟨.ref p,H,I,rfl,q⟩
def tyV (K:PySem.W.Frag)(T:String) (x:V)(H:Hp):Prop:=match x with
 | .str _=>T="str"
 | .int _=>T="int"
 | .ref p=>(T="list"∧∃ xs,SqL K H p xs)∨(T="tuple"∧∃ o,K.lookup p=some o∧o.cls=.type "tuple"∧o.dict=none) ∨
     (T="dict"∧((∃ kvs,H p=some (.dK kvs))∨∃ kvs,H p=some (.dT kvs)))∨(T="set"∧∃ S n,H p=some (.set S n))
 | _=>False
theorem vp {pins:List (Addr×Obj)}{σ:St}{H:Hp}{s:Shared}{T:String}{x:V}{v:Value}(I:Inv X pins σ H s)(r:ba x v)(ty:tyV X.K T x H) :
   s.TypeIs v T∧∀ a,v=.ref a→∃ ob,s.heap.get? a=some ob∧ob.dict=none:=by
 cases x with
 | str z =>
   obtain⟨t,rfl⟩:=r;cases (show T="str" from ty);exact⟨typeIs_str s z t,fun _ e=>nomatch e⟩
 | int i =>
   obtain⟨t,rfl⟩:=r;cases (show T="int" from ty);exact⟨typeIs_int s i t,fun _ e=>nomatch e⟩
 | ref p =>
   cases r
   rcases ty with ⟨rfl,xs,hq⟩ | ⟨rfl,o,hk,hc,hd⟩ | ⟨rfl,hk⟩ | ⟨rfl,S,n,hk⟩
   . obtain⟨its,_,pl,_⟩:=I.list hq;refine⟨pl.isList.typeIs,fun a e=>?_⟩;cases e;obtain⟨o,n,e,c,hd,_⟩:=pl;exact⟨o,e,hd⟩
   . refine⟨⟨o,I.kIn p o hk,hc⟩,fun a e=>?_⟩;cases e;exact⟨o,I.kIn _ o hk,hd⟩
   . have z:∃ o,s.heap.get? p=some o∧o.ExactDict:=by
       rcases hk with ⟨kvs,hk⟩ | ⟨kvs,hk⟩
       . obtain⟨_,_,_,_,o,_,_,e,ex,_⟩:=I.hok p _ hk;exact⟨o,e,ex⟩
       . obtain⟨_,_,_,_,o,_,_,e,ex,_⟩:=I.hok p _ hk;exact⟨o,e,ex⟩
     obtain⟨o,e,ex⟩:=z;refine⟨⟨o,e,ex.1⟩,fun a e2=>?_⟩;cases e2;exact⟨o,e,ex.2.1⟩
   . obtain⟨o,_,_,_,e,ex,_⟩:=I.hok p _ hk;refine⟨⟨o,e,ex.1⟩,fun a e2=>?_⟩;cases e2;exact⟨o,e,ex.2.1⟩
 | _=>exact False.elim ty
def yI (K:PySem.W.Frag)(T:String)(r:V→List V→Hp→VK→Prop)(to:TE):TE:=fun σ H Q=>to σ H fun x H1=>tyV K T x H1∧r x [] H1 Q
def tBM (K:PySem.W.Frag)(T:String)(r:V→List V→Hp→VK→Prop)(to:TE)(t:TA):TE:=fun σ H Q=>to σ H fun x H1=>tyV K T x H1∧t σ H1 fun xs H2=>r x xs H2 Q
variable {o e:Expr}{es:List Expr}{to:TE}{t:TA}{name:Str}{apos cpos:Pos}{T id:String}{r:V→List V→Hp→VK→Prop}
theorem ya (pa:PlainAttrs T)(slot:Slot T name id)(hty:typeOf (.builtin id)=pure (.type "method_descriptor"))(hm:MtR X id r)(ho:PE X o to)
   (hbase:attributeBase o name X.env (eval o X.env)=eval o X.env:=by rfl)(hline:(apos.endLine==cpos.line)=true:=by rfl):PE X (.Call (.Attribute o name apos) [] [] cpos) (yI X.K T r to):=by
 intro pins s σ H Q I h;refine wpAny_Call_method0_late hbase hline (thn (ho s σ H _ I h) fun v s1 ⟨x,H1,I1,r1,ty,q1⟩=>?_);obtain⟨h1,h2⟩:=vp I1 r1 ty;exact⟨T,id,pa,slot,hty,h1,h2,Calls.callWith_builtin rfl (PySem.evalArgs_none (hm pins s1 σ H1 x [] v [] Q I1 r1 .nil q1))⟩
theorem eW (pa:PlainAttrs T)(slot:Slot T name id)(hty:typeOf (.builtin id)=pure (.type "method_descriptor"))(hm:MtR X id r)(ho:PE X o to)(ha:PA X (e::es) t)
   (hbase:attributeBase o name X.env (eval o X.env)=eval o X.env:=by rfl)
   (hfew:((backTo cpos (starEach (e::es) X.env)).all (fun x=>!x.1)&&(backToKw cpos (keywordEach [] X.env)).all (fun x=>x.1.isSome)
     && decide ((e::es).length+([]:List Keyword).length+(if([]:List Keyword).isEmpty then 0 else 1) < 30))=true:=by rfl)
   (hline:(apos.endLine==cpos.line)=true:=by rfl)(hs:starEach (e::es) X.env=(false,eval e X.env)::starEach es X.env:=by rfl)(hplain:(backTo cpos (starEach es X.env)).any (·.1)=false:=by rfl) :
   PE X (.Call (.Attribute o name apos) (e::es) [] cpos) (tBM X.K T r to t):=by
 intro pins s σ H Q I h;refine wpAny_Call_method_late hbase hfew hline rfl (thn (ho s σ H _ I h) fun v s1 ⟨x,H1,I1,r1,ty,q1⟩=>?_);obtain⟨h1,h2⟩:=vp I1 r1 ty;refine⟨T,id,pa,slot,hty,h1,h2,?_⟩;have hA:=ha cpos s1 σ H1 _ I1 q1;rw[hs] at hA ⊢;refine Calls.callWith_builtin (by show(false||(backTo cpos (starEach es X.env)).any (·.1))=false;rw[hplain]<;>rfl) (Calls.evalArgs_plain ?_);exact thn hA fun us s2 ⟨vs,H2,I2,r2,q2⟩=>hm pins s2 σ H2 x vs v us Q I2 r1 r2 q2
end
def MtM (X:Cx)(id:String)(r:V→List V→Hp→VK→Prop):Prop :=
 ∀ (pins:List (Addr×Obj))(s:Shared) (σ:St)(H:Hp) (x:V)(xs:List V) (v:Value)(us:List Value)(Q:VK),Inv X pins σ H s→ba x v→Vals xs us→r x xs H Q →
   wpAny (model X.prog X.w) X.A (call (.builtin id) (v::us)) (EP X pins σ Q) X.xe s
theorem Vals.one:∀ {x:V}{us:List Value},Vals [x] us→∃ u,us=[u]∧ba x u
 | _,_,.cons r .nil=>⟨_,rfl,r⟩
theorem Vals.two:∀ {x y:V}{us:List Value},Vals [x,y] us→∃ u v,us=[u,v]∧ba x u∧ba y v
 | _,_,_,.cons r (.cons q .nil)=>⟨_,_,rfl,r,q⟩
theorem Vals.zero:∀ {us:List Value},Vals [] us→us=[]
 | _,.nil=>rfl
theorem Vals.dropLast {xs:List V}{us:List Value}(h:Vals xs us):Vals xs.dropLast us.dropLast:=by
 induction h with
 | nil=>exact .nil
 | cons r t ih =>
   cases t with
   | nil=>exact .nil
   | cons q t'=>exact .cons r ih
theorem Vals.eraseIdx:∀ {xs:List V}{us:List Value} (i:Nat),Vals xs us→Vals (xs.eraseIdx i) (us.eraseIdx i)
 | _,_,_,.nil=>.nil
 | _,_,0,.cons _ t=>t
 | _,_,i+1,.cons r t=>.cons r (Vals.eraseIdx i t)
theorem Vals.rep {xs:List V}{us:List Value}(h:Vals xs us):∀ k:Nat,Vals (z8 k xs).flatten (z8 k us).flatten
 | 0=>.nil
 | k+1=>by
   rw[Bn,Bn,BM,BM];exact Vals.append h (Vals.rep h k)
theorem qY {α:Type}(l:List α):l.eraseIdx (l.length - 1)=l.dropLast:=by
 induction l with
 | nil=>rfl
 | cons a r ih =>
   cases r with
   | nil=>rfl
   | cons b r =>
     have e:(a::b::r).length - 1=((b::r).length - 1)+1:=by
       have h1:(a::b::r).length=r.length+2:=rfl;have h2:(b::r).length=r.length+1:=rfl;omega
     rw[e,List.eraseIdx_cons_succ,ih]
     all_goals rfl
theorem lc {α:Type}:∀ (l:List α) (i:Nat),(l.eraseIdx i).length≤l.length
 | [],_=>zR _
 | _::_,0=>Cu _
 | _::r,i+1=>Nat.succ_le_succ (lc r i)
theorem lG (its:List Value):∀ (k:Nat)(acc:List Value),
   CJ (fun x1 x2=>x1++x2) acc.toArray (z8 k its.toArray)=(acc++(z8 k its).flatten).toArray
 | 0,acc=>by simp
 | k+1,acc=>by
   have e:acc.toArray++its.toArray=(acc++its).toArray:=by simp
   have e2:(acc++its)++(z8 k its).flatten=acc++(z8 (k+1) its).flatten:=by
     rw[Bn,BM,Bj]
   rw[←e2,←lG its k (acc++its),←e,Bn,BF]
section
variable {X:Cx}{pins:List (Addr×Obj)}{σ:St}{H:Hp}{s:Shared}{l b:Addr}{xs ys zs:List V}
theorem Inv.lset {its its':List Value}{n:Nat}{f:Array Value→Array Value}{t':Nat}(I:Inv X pins σ H s)(hH:H l=some (.lst xs))
   (e:s.heap.get? l=some { cls:=.type "list",data:=.seq its.toArray n })(hf:f its.toArray=its'.toArray)(hv:Vals ys its')(hz:ys.length≤sizeLine) :
   Inv X pins σ (upd H l (.lst ys)) { s with heap:=s.heap.update l (Obj.mapSeq f),toks:=t' }:=by
 have q:=PySem.IsL.update e f;rw[hf] at q;refine I.write (x:=l) (e:=l) (by rw[hH];exact trivial) (.inl rfl) (fun b' u hb hu=>(Heap.get?_update_other s.heap (Obj.mapSeq f) (Ne.symm hb)).trans hu) ⟨_,q⟩ ?_;exact⟨hz,its',_,hv,q⟩
theorem Inv.lnew {its:List Value}{t':Nat}(I:Inv X pins σ H s)(hv:Vals ys its)(hz:ys.length≤sizeLine) :
   Inv X pins σ (upd H s.heap.objs.size (.lst ys)) { s with heap:=s.heap.push { cls:=.type "list",data:=.seq its.toArray },toks:=t' } :=
 I.laid (fun _ _ q=>Heap.get?_push_of_some _ q) (zR _) ⟨hz,its,0,hv,Heap.get?_push_size _ rfl⟩
theorem Inv.fresh (I:Inv X pins σ H s):H s.heap.objs.size=none:=I.hok.fresh (zR _)
theorem Inv.lstM (I:Inv X pins σ H s)(hH:H l=some (.lst xs)):xs.length≤sizeLine∧∃ (its:List Value) (n:Nat),Vals xs its∧xs.length=its.length∧s.heap.get? l=some { cls:=.type "list",data:=.seq its.toArray n }:=by
 obtain⟨z,its,n,r,e⟩:=I.hok l _ hH;exact⟨z,its,n,r,r.length,e⟩
theorem nF {n:Nat}(h:n≤sizeLine):Builtin.List.listTooLong n=false:=by
 unfold Builtin.List.listTooLong;exact decide_eq_false (by omega)
end
section
variable {X:Cx}
def ny:V→List V→Hp→VK→Prop:=fun x vs H Q=>∃ l xs y,x=.ref l∧vs=[y]∧H l=some (.lst xs)∧xs.length < sizeLine∧Q .non (upd H l (.lst (xs++[y])))
theorem bR:MtM X "list.append" ny:=by
 intro pins s σ H x vs v us Q I rx rv h;obtain⟨l,xs,y,rfl,rfl,hH,hz,q⟩:=h;cases rx;obtain⟨u,rfl,ru⟩:=rv.one;obtain⟨z,its,n,r,hl,e⟩:=I.lstM hH;refine call_meets F.slot_list_append ⟨_,e,rfl⟩ F.entry_list_append (F.args_list_append_2 _ _) (PySem.list_append l its.toArray n u (by rw[z6];omega)) ⟨e,?_⟩;refine⟨.non,_,I.lset (its':=its++[u]) hH e (by simp) (r.append (.cons ru .nil)) ?_,rfl,q⟩;rw[zP,zV];omega
def mZ:V→List V→Hp→VK→Prop:=fun x vs H Q=>∃ l b xs zs,x=.ref l∧vs=[.ref b]∧H l=some (.lst xs)∧H b=some (.lst zs)∧xs.length+zs.length≤sizeLine∧Q .non (upd H l (.lst (xs++zs)))
theorem yJ:MtM X "list.extend" mZ:=by
 intro pins s σ H x vs v us Q I rx rv h;obtain⟨l,b,xs,zs,rfl,rfl,hH,hB,hz,q⟩:=h;cases rx;obtain⟨u,rfl,ru⟩:=rv.one;cases ru;obtain⟨z,its,n,r,hl,e⟩:=I.lstM hH;obtain⟨z2,its2,n2,r2,hl2,e2⟩:=I.lstM hB
 have hsz:its.toArray.size+its2.toArray.size≤sizeLine:=by rw[z6,z6];omega
 have hlong:¬(!its.toArray.isEmpty&&Builtin.List.listTooLong (its.toArray.size+its2.toArray.size))=true:=by
   rw[nF hsz,Bool.and_false];exact Bool.false_ne_true
 refine call_meets F.slot_list_extend ⟨_,e,rfl⟩ F.entry_list_extend (F.args_list_extend_2 _ _)
   (AutoSeq1.list_extend_list_list_0 l its.toArray n b its2.toArray n2 hlong (by rw[z6];omega) (by omega)) ⟨e,e2,?_⟩
 refine⟨.non,_,I.lset (its':=its++its2) hH e (by simp) (r.append r2) ?_,rfl,q⟩;rw[zP];omega
def zJ:V→List V→Hp→VK→Prop:=fun x vs H Q=>∃ l xs y,x=.ref l∧vs=[]∧H l=some (.lst xs)∧xs[xs.length - 1]?=some y∧Q y (upd H l (.lst xs.dropLast))
theorem xV:MtM X "list.pop" zJ:=by
 intro pins s σ H x vs v us Q I rx rv h;obtain⟨l,xs,y,rfl,rfl,hH,hy,q⟩:=h;cases rx;have hus:=rv.zero;subst hus;obtain⟨z,its,n,r,hl,e⟩:=I.lstM hH;obtain⟨u,hu,ru⟩:=r.get hy
 have hy':its.toArray[its.toArray.size - 1]?=some u:=by
   show its.toArray[its.length - 1]?=some u;rw[←A3,←hl];exact hu
 refine call_meets F.slot_list_pop ⟨_,e,rfl⟩ F.entry_list_pop (F.args_list_pop_1 _) (MeetsSeq.list_pop_last l its.toArray n u hy' (by rw[z6];omega)) ⟨e,?_⟩;refine⟨y,_,I.lset (its':=its.dropLast) hH e ?_ r.dropLast ?_,ru,q⟩
 . show its.toArray.eraseIdxIfInBounds (its.toArray.size - 1)=its.dropLast.toArray;rw[z6,List.eraseIdxIfInBounds_toArray,qY]
 . rw[AM];omega
def qq:V→List V→Hp→VK→Prop:=fun x vs H Q=>∃ l xs i k y,x=.ref l∧vs=[.int i]∧H l=some (.lst xs)∧-(2 ^ 63)≤i∧i < 2 ^ 63∧seqIndex? i xs.length=some k∧xs[k]?=some y∧Q y (upd H l (.lst (xs.eraseIdx k)))
theorem uW:MtM X "list.pop" qq:=by
 intro pins s σ H x vs v us Q I rx rv h;obtain⟨l,xs,i,k,y,rfl,rfl,hH,h1,h2,hk,hy,q⟩:=h;cases rx;obtain⟨u,rfl,ru⟩:=rv.one;obtain⟨t,rfl⟩:=ru;obtain⟨z,its,n,r,hl,e⟩:=I.lstM hH;obtain⟨w,hw,rw'⟩:=r.get hy
 refine call_meets F.slot_list_pop ⟨_,e,rfl⟩ F.entry_list_pop (F.args_list_pop_2 _ _)
   (MeetsSeq.list_pop_at l its.toArray n i t k w (fitsIndex_both h1 h2) (by rw[z6,←hl];exact hk) (by rw[←A3];exact hw) (by rw[z6];omega)) ⟨e,?_⟩
 refine⟨y,_,I.lset (its':=its.eraseIdx k) hH e ?_ (r.eraseIdx k) ?_,rw',q⟩
 . show its.toArray.eraseIdxIfInBounds k=(its.eraseIdx k).toArray;rw[List.eraseIdxIfInBounds_toArray]
 . have:=lc xs k;omega
def zt:R2:=fun x y H Q=>∃ l b xs zs,x=.ref l∧y=.ref b∧H l=some (.lst xs)∧H b=some (.lst zs)∧xs.length+zs.length≤sizeLine∧∀ p,H p=none→Q (.ref p) (upd H p (.lst (xs++zs)))
theorem gA:OpR X (binaryOp .Add) zt:=by
 intro pins s σ H x y v u Q I rx ry h;obtain⟨l,b,xs,zs,rfl,rfl,hH,hB,hz,q⟩:=h;cases rx;cases ry;obtain⟨z,its,n,r,hl,e⟩:=I.lstM hH;obtain⟨z2,its2,n2,r2,hl2,e2⟩:=I.lstM hB;refine PySem.P.add_list e e2 ?_ (by rw[z6,z6];omega)
 have ea:its.toArray++its2.toArray=(its++its2).toArray:=by simp
 rw[ea];exact⟨.ref _,_,I.lnew (t':=s.toks) (r.append r2) (by rw[zP];omega),rfl,q _ I.fresh⟩
def yw:R2:=fun x y H Q=>∃ l k xs,x=.ref l∧y=.int k∧H l=some (.lst xs)∧-(2 ^ 63)≤k∧k < 2 ^ 63∧xs.length*k.toNat≤sizeLine ∧
 ∀ p,H p=none→Q (.ref p) (upd H p (.lst (z8 k.toNat xs).flatten))
theorem mn {α:Type}(xs:List α) (k:Nat):(z8 k xs).flatten.length=k*xs.length:=by
 induction k with
 | zero=>simp
 | succ k ih=>rw[Bn,BM,zP,ih,Nat.succ_mul,Nat.add_comm]
theorem vO:OpR X (binaryOp .Mult) yw:=by
 intro pins s σ H x y v u Q I rx ry h;obtain⟨l,k,xs,rfl,rfl,hH,h1,h2,hz,q⟩:=h;cases rx;obtain⟨t,rfl⟩:=ry;obtain⟨z,its,n,r,hl,e⟩:=I.lstM hH
 have hlen:its.toArray.size*k.toNat≤sizeLine:=by rw[z6,←hl];exact hz
 have hcap:¬its.toArray.size*k.toNat > (2 ^ 63 - 1) / 8:=by
   have:(sizeLine:Nat)≤(2 ^ 63 - 1) / 8:=by decide
   omega
 have hfit:¬(!Builtin.List.listFitsIndex k)=true:=by
   rw[fitsIndex_both h1 h2];exact Bool.false_ne_true
 have hlong:¬Builtin.List.listTooLong (its.toArray.size*k.toNat)=true:=by
   rw[nF hlen];exact Bool.false_ne_true
 have hnew:CJ (fun x1 x2=>x1++x2) #[] (z8 (if its.toArray.isEmpty=true then 0 else k.toNat) its.toArray)=(z8 k.toNat its).flatten.toArray:=by
   have f0:∀ m:Nat,CJ (fun x1 x2=>x1++x2) #[] (z8 m its.toArray)=(z8 m its).flatten.toArray:=fun m=>by
     have:=lG its m [];rw[List.nil_append] at this;exact this
   rw[f0]
   cases its with
   | nil=>simp
   | cons a r'=>rw[if_neg (by simp)]
 refine wpAny_binaryOp_repeat_ref (T:="list") (U:="int") (by decide) ⟨_,e,rfl⟩ (fun s'=>typeIs_int s' k t) noFill_list_mul F.fills_int_mul F.slot_int_rmul repeat_list F.slot_int_index.lookup
   (call_meets F.slot_int_rmul (typeIs_int s k t) F.entry_int_rmul (F.args_int_rmul_2 _ _) (int___rmul___int_list k t l its.toArray n)
     ⟨e,rfl,⟨_,e,rfl⟩,call_meets F.slot_list_mul ⟨_,e,rfl⟩ F.entry_list_mul (F.args_list_mul_2 _ _) (AutoListH.list___mul___list_int_3 l its.toArray n k t hfit hcap hlong) ⟨e,?_⟩⟩)
 rw[hnew];exact⟨.ref _,_,I.lnew (t':=s.toks) (r.rep k.toNat) (by rw[mn,Nat.mul_comm];exact hz),rfl,q _ I.fresh⟩
end
section
variable {prog:Program}{w:World}{A:Around}{E:Value→Shared→Prop}{s:Shared}
set_option maxRecDepth 100000 in
end
section
variable {X:Cx}
end
section
variable {κ:Type} [DecidableEq κ]
def bG (kvs:List (κ×V))(k:κ):Option V:=(kvs.find? fun kv=>decide (kv.1=k)).map (·.2)
def dt (kvs:List (κ×V))(k:κ) (v:V):List (κ×V) :=
 if(kvs.any fun kv=>decide (kv.1=k))=true then kvs.map (fun kv=>if kv.1=k then(kv.1,v) else kv) else kvs++[(k,v)]
theorem cr {p:κ×V}{r:List (κ×V)}{k:κ}(e:p.1=k):bG (p::r) k=some p.2:=by simp[bG,A9,e]
theorem cb {p:κ×V}{r:List (κ×V)}{k:κ}(e:¬p.1=k):bG (p::r) k=bG r k:=by simp[bG,A9,e]
theorem ef (k:κ):∀ kvs:List (κ×V),(kvs.any fun kv=>decide (kv.1=k))=(bG kvs k).isSome
 | []=>rfl
 | p::r=>by
   rw[Bm];by_cases e:p.1=k
   . simp only[cr e,decide_eq_true e,Bool.true_or,Option.isSome_some]
   . rw[cb e,decide_eq_false e,Bool.false_or];exact ef k r
theorem nV (k j:κ) (y:V):∀ kvs:List (κ×V),bG (kvs.map fun kv=>if kv.1=k then(kv.1,y) else kv) j=(bG kvs j).map fun x=>if j=k then y else x
 | []=>rfl
 | p::r=>by
   have ih:=nV k j y r;rw[Ac];by_cases h:p.1=k
   . rw[if_pos h];by_cases e:p.1=j
     . rw[cr (p:=(p.1,y)) e,cr e,BG,if_pos (e.symm.trans h)]
     . rw[cb (p:=(p.1,y)) e,cb e,ih]
   . rw[if_neg h];by_cases e:p.1=j
     . rw[cr (p:=p) e,cr e,BG,if_neg (fun z=>h (e.trans z))]
     . rw[cb (p:=p) e,cb e,ih]
theorem iH (k j:κ) (y:V):∀ kvs:List (κ×V),bG kvs k=none→bG (kvs++[(k,y)]) j=if j=k then some y else bG kvs j
 | [],_=>by
   by_cases e:k=j
   . rw[if_pos e.symm];exact cr (p:=(k,y)) e
   . rw[if_neg (fun z=>e z.symm)];exact cb (p:=(k,y)) e
 | p::r,hn=>by
   rw[List.cons_append]
   have hk:¬p.1=k:=fun z=>by rw[cr z] at hn;cases hn
   rw[cb hk] at hn;have ih:=iH k j y r hn;by_cases e:p.1=j
   . rw[cr e,cr e,if_neg (fun z=>hk (e.trans z))]
   . rw[cb e,cb e,ih]
theorem jU (kvs:List (κ×V))(k j:κ) (y:V):bG (dt kvs k y) j=if j=k then some y else bG kvs j:=by
 unfold dt;by_cases a:(kvs.any fun kv=>decide (kv.1=k))=true
 . rw[if_pos a,nV];rw[ef] at a;by_cases e:j=k
   . obtain⟨x,hx⟩:=Option.isSome_iff_exists.mp a;rw[if_pos e,e,hx,BG,if_pos rfl]
   . rw[if_neg e]
     cases bG kvs j with
     | none=>rfl
     | some x=>rw[BG,if_neg e]
 . rw[if_neg a];refine iH k j y kvs ?_;rw[ef] at a
   cases q:bG kvs k with
   | none=>rfl
   | some x=>rw[q] at a;exact(a rfl).elim
theorem fZ (kvs:List (κ×V))(k:κ) (v:V):(dt kvs k v).length≤kvs.length+1:=by
 unfold dt
 split
 . rw[be];omega
 . rw[zP,Az,BX];omega
theorem da {kvs:List (κ×V)}{k:κ} (v:V)(h:bG kvs k=none):dt kvs k v=kvs++[(k,v)]:=by
 unfold dt;rw[ef,h];exact if_neg (by decide)
theorem gm.isSome_eq {o:Option V}{u:Option Value}(r:gm o u):o.isSome=u.isSome:=by
 cases o with
 | none=>cases u with
   | none=>rfl
   | some _=>exact(show False from r).elim
 | some _=>cases u with
   | none=>exact(show False from r).elim
   | some _=>rfl
theorem KV.val {kvs:List (κ×V)}{vs:List (κ×Value)}(r:KV kvs vs)(k:κ):gm (bG kvs k) (valueAt vs k):=by
 unfold KV at r
 induction r with
 | nil=>exact True.intro
 | @cons p q ps qs h t ih =>
   obtain⟨h1,h2⟩:=h;by_cases e:p.1=k
   . have e':q.1=k:=h1.symm.trans e
     have b:valueAt (q::qs) k=some q.2:=by simp[valueAt,A9,e']
     rw[cr e,b];exact h2
   . have e':¬q.1=k:=fun z=>e (h1.trans z)
     have b:valueAt (q::qs) k=valueAt qs k:=by simp[valueAt,A9,e']
     rw[cb e,b];exact ih
theorem KV.any {kvs:List (κ×V)}{vs:List (κ×Value)}(r:KV kvs vs)(k:κ):(kvs.any fun kv=>decide (kv.1=k))=vs.any fun kv=>decide (kv.1=k):=by
 unfold KV at r
 induction r with
 | nil=>rfl
 | cons h t ih=>rw[Bm,Bm,ih,h.1]
theorem KV.repl {kvs:List (κ×V)}{vs:List (κ×Value)}(r:KV kvs vs)(k:κ){y:V}{u:Value}(ry:ba y u) :
   KV (kvs.map fun kv=>if kv.1=k then(kv.1,y) else kv) (vs.map fun kv=>if kv.1=k then(kv.1,u) else kv):=by
 unfold KV at r ⊢
 induction r with
 | nil=>exact .nil
 | @cons p q ps qs h t ih =>
   rw[Ac,Ac];refine .cons ?_ ih;obtain⟨h1,h2⟩:=h;by_cases e:p.1=k
   . rw[if_pos e,if_pos (h1.symm.trans e)];exact⟨h1,ry⟩
   . rw[if_neg e,if_neg (fun z=>e (h1.trans z))];exact⟨h1,h2⟩
theorem KV.put {kvs:List (κ×V)}{vs:List (κ×Value)}(r:KV kvs vs)(k:κ){y:V}{u:Value}(ry:ba y u):KV (dt kvs k y) (stored vs k u):=by
 unfold dt stored;rw[r.any k];by_cases e:(vs.any fun kv=>decide (kv.1=k))=true
 . rw[if_pos e,if_pos e];exact r.repl k ry
 . rw[if_neg e,if_neg e];exact Paired.snoc r ⟨rfl,ry⟩
theorem KV.keys {kvs:List (κ×V)}{vs:List (κ×Value)}(r:KV kvs vs):kvs.map (·.1)=vs.map (·.1):=by
 unfold KV at r
 induction r with
 | nil=>rfl
 | cons h t ih=>rw[Ac,Ac,ih,h.1]
theorem KV.length {kvs:List (κ×V)}{vs:List (κ×Value)}(r:KV kvs vs):kvs.length=vs.length:=Paired.length r
end
theorem li {P:Program}{w:World}{k:Key}{u:Value}(r:ba (kV k) u):(bJ P w).is k u=true:=by
 cases k with
 | inl i=>obtain⟨t,e⟩:=(show ∃ t,u=Value.int i t from r);subst e;exact nZ P w i t
 | inr x=>obtain⟨t,e⟩:=(show ∃ t,u=Value.str x t from r);subst e;exact je P w x t
theorem lv {P:Program}{w:World}:∀ {ks:List Key}{us:List Value},Vals (ks.map kV) us→ItemsAre (bJ P w) ks us
 | [],_,r=>by rw[Bl] at r;cases r;exact .nil
 | k::ks,_,r=>by
   rw[Ac] at r
   cases r with
   | cons h t=>exact .cons (li h) (lv t)
abbrev KT (H:Hp):List (List Key×V)→List (List Key×Addr×Value)→Prop:=Paired fun p q=>p.1=q.1∧H q.2.1=some (.tup (p.1.map kV))∧ba p.2 q.2.2
theorem KT.val {H:Hp}{kvs:List (List Key×V)}{xs:List (List Key×Addr×Value)}(r:KT H kvs xs)(k:List Key):gm (bG kvs k) ((atKey xs k).map (·.2)):=by
 induction r with
 | nil=>exact True.intro
 | @cons p q ps qs h t ih =>
   obtain⟨h1,_,h2⟩:=h;by_cases e:p.1=k
   . have e':q.1=k:=h1.symm.trans e
     have b:atKey (q::qs) k=some q.2:=by simp[atKey,A9,e']
     rw[cr e,b];exact h2
   . have e':¬q.1=k:=fun z=>e (h1.trans z)
     have b:atKey (q::qs) k=atKey qs k:=by simp[atKey,A9,e']
     rw[cb e,b];exact ih
theorem KT.repl {H:Hp}{kvs:List (List Key×V)}{xs:List (List Key×Addr×Value)}(r:KT H kvs xs)(k:List Key){y:V}{u:Value}(ry:ba y u) :
   KT H (kvs.map fun kv=>if kv.1=k then(kv.1,y) else kv) (xs.map (putAt k u)):=by
 induction r with
 | nil=>exact .nil
 | @cons p q ps qs h t ih =>
   rw[Ac,Ac];refine .cons ?_ ih;obtain⟨h1,h2,h3⟩:=h;unfold putAt;by_cases e:p.1=k
   . rw[if_pos e,if_pos (h1.symm.trans e)];exact⟨h1,h2,ry⟩
   . rw[if_neg e,if_neg (fun z=>e (h1.trans z))];exact⟨h1,h2,h3⟩
theorem KT.put {H:Hp}{kvs:List (List Key×V)}{xs:List (List Key×Addr×Value)}(r:KT H kvs xs)(k:List Key){b:Addr}{y:V}{u:Value}(hb:H b=some (.tup (k.map kV)))(ry:ba y u) :
   KT H (dt kvs k y) (storedH xs k b u):=by
 have e:(kvs.any fun kv=>decide (kv.1=k))=(atKey xs k).isSome:=by
   rw[ef,(r.val k).isSome_eq,Cg]
 unfold dt storedH;rw[e];by_cases q:(atKey xs k).isSome=true
 . rw[if_pos q,if_pos q];exact r.repl k ry
 . rw[if_neg q,if_neg q];exact Paired.snoc r ⟨rfl,hb,ry⟩
theorem KT.keeps {H H':Hp}{kvs:List (List Key×V)}{xs:List (List Key×Addr×Value)}(r:KT H kvs xs)(ht:∀ b ys,H b=some (.tup ys)→H' b=some (.tup ys)):KT H' kvs xs :=
 Paired.mapP r fun _ _ z=>⟨z.1,ht _ _ z.2.1,z.2.2⟩
section
variable {P:Program}{w:World}{H:Hp}{h:Heap}{a:Addr}
theorem xw {u:HO}(ok:HOk P w H h)(e:Rd H a u):bP P w H h a u:=e.ok ok
theorem i0 {kvs:List (Key×V)}(ok:HOk P w H h)(e:Rd H a (.dK kvs)):kvs.length≤sizeLine∧(a==sysModules)=false∧∃ vs,KV kvs vs∧h.DictOf (bJ P w) a vs :=
 show bP P w H h a (.dK kvs) from xw ok e
theorem xy {kvs:List (Key×V)}(ok:HOk P w H h)(e:H a=some (.dK kvs)):kvs.length≤sizeLine∧(a==sysModules)=false∧∃ vs,KV kvs vs∧h.DictOf (bJ P w) a vs:=i0 ok (.inl e)
theorem jE {ks:List Key}(ok:HOk P w H h)(e:H a=some (.tup (ks.map kV))):(tupleKind (bJ P w)).is h ks a:=by
 obtain⟨_,its,r,o,h1,h2,n,h3⟩:=(show bP P w H h a (.tup (ks.map kV)) from ok a _ e);exact⟨o,its.toArray,n,h1,h2,h3,by simpa using lv r⟩
theorem oA {kvs:List (List Key×V)}(ok:HOk P w H h)(e:Rd H a (.dT kvs)):kvs.length≤sizeLine∧(a==sysModules)=false ∧
   ∃ xs,KT H kvs xs∧h.DictOfH (tupleKind (bJ P w)) a xs:=by
 obtain⟨z,y,xs,r,o,es,ep,h1,h2,h3,h4,h5⟩:=(show bP P w H h a (.dT kvs) from xw ok e);refine⟨z,y,xs,r,o,es,ep,h1,h2,h3,h4,fun x hx=>?_,h5⟩
 have all:∀ {l:List (List Key×V)}{m:List (List Key×Addr×Value)},KT H l m→∀ x∈m,(tupleKind (bJ P w)).is h x.1 x.2.1:=by
   intro l m q
   induction q with
   | nil=>intro x hx;exact nomatch hx
   | @cons p q ps qs hq t ih =>
     intro x hx
     rcases List.mem_cons.mp hx with e | hx
     . subst e;exact jE ok (by rw[←hq.1];exact hq.2.1)
     . exact ih x hx
 exact all r x hx
theorem yY {kvs:List (List Key×V)}(ok:HOk P w H h)(e:H a=some (.dT kvs)):kvs.length≤sizeLine∧(a==sysModules)=false ∧
 ∃ xs,KT H kvs xs∧h.DictOfH (tupleKind (bJ P w)) a xs:=oA ok (.inl e)
end
def kY (H:Hp)(a:Addr) (y:V)(r:Option V):Prop :=
 (∃ kvs k,Rd H a (.dK kvs)∧y=kV k∧r=bG kvs k)∨∃ kvs k b,Rd H a (.dT kvs)∧y=.ref b∧H b=some (.tup (k.map kV))∧r=bG kvs k
def zc (H:Hp)(a:Addr) (y v:V)(H':Hp):Prop :=
 (∃ kvs k,H a=some (.dK kvs)∧y=kV k∧kvs.length < sizeLine∧H'=upd H a (.dK (dt kvs k v))) ∨
 ∃ kvs k b,H a=some (.dT kvs)∧y=.ref b∧H b=some (.tup (k.map kV))∧kvs.length < sizeLine∧H'=upd H a (.dT (dt kvs k v))
section
variable {X:Cx}{pins:List (Addr×Obj)}{σ:St}{H:Hp}{s:Shared}{a:Addr}{y v:V}{u r:Value}{o:Option V}{A:Around}{E:Value→Shared→Prop}
theorem Inv.big (I:Inv X pins σ H s):sysModules < s.heap.objs.size:=by
 have h:mainGlobals < s.heap.objs.size:=(I.mod.glob.keeps I.bk).lt;exact Nat.lt_trans (by decide) h
theorem tE {Q:Value→Shared→Prop}(hu:A.units+1 < cLine)(I:Inv X pins σ H s)(g:kY H a y (some v))(ry:ba y u)(h:∀ w' s',Inv X pins σ H s'→ba v w'→Q w' s') :
   wpAny (model X.prog X.w) A (getItem (.ref a) u) Q E s:=by
 rcases g with ⟨kvs,k,e,ey,l⟩ | ⟨kvs,k,b,e,ey,eb,l⟩
 . subst ey;obtain⟨z,hd,vs,rel,dd⟩:=i0 I.hok e;obtain⟨w',hw,rw'⟩:=gm.some_of (v:=v) (o:=valueAt vs k) (by rw[l];exact rel.val k);exact wpAny_getItem_of (li ry) dd.mapOf hw (h w' _ (I.tok _) rw')
 . subst ey;cases (show u=Value.ref b from ry);obtain⟨z,hd,xs,rel,dd⟩:=oA I.hok e;obtain⟨w',hw,rw'⟩:=gm.some_of (v:=v) (o:=(atKey xs k).map (·.2)) (by rw[l];exact rel.val k);obtain⟨p,hp,hp2⟩:=Option.map_eq_some_iff.mp hw;refine wpAny_getItem_heap (tupleKind_room_in1 hu) (jE I.hok eb) dd hp ?_;rw[hp2];exact h w' _ (I.tok _) rw'
theorem zI {Q:Value→Shared→Prop}(hu:A.units+1 < cLine)(I:Inv X pins σ H s)(g:kY H a y o)(ry:ba y u)(h:∀ s',Inv X pins σ H s'→Q (.bool o.isSome) s') :
   wpAny (model X.prog X.w) A (compareOp .In u (.ref a)) Q E s:=by
 rcases g with ⟨kvs,k,e,ey,l⟩ | ⟨kvs,k,b,e,ey,eb,l⟩
 . subst ey;obtain⟨z,hd,vs,rel,dd⟩:=i0 I.hok e;refine wpAny_in_of (li ry) hd dd.mapOf ?_;rw[←(rel.val k).isSome_eq,←l];exact h _ (I.tok _)
 . subst ey;cases (show u=Value.ref b from ry);obtain⟨z,hd,xs,rel,dd⟩:=oA I.hok e;refine wpAny_in_heap (tupleKind_room_in1 hu) (jE I.hok eb) hd dd ?_;have q:=(rel.val k).isSome_eq;rw[Cg] at q;rw[←q,←l];exact h _ (I.tok _)
theorem wR {Q:Value→Shared→Prop}(hu:A.units+1 < cLine)(I:Inv X pins σ H s)(g:kY H a y o)(ry:ba y u)(h:∀ s',Inv X pins σ H s'→Q (.bool (!o.isSome)) s') :
   wpAny (model X.prog X.w) A (compareOp .NotIn u (.ref a)) Q E s:=by
 rcases g with ⟨kvs,k,e,ey,l⟩ | ⟨kvs,k,b,e,ey,eb,l⟩
 . subst ey;obtain⟨z,hd,vs,rel,dd⟩:=i0 I.hok e;refine wpAny_notIn_of (li ry) hd dd.mapOf ?_;rw[←(rel.val k).isSome_eq,←l];exact h _ (I.tok _)
 . subst ey;cases (show u=Value.ref b from ry);obtain⟨z,hd,xs,rel,dd⟩:=oA I.hok e;refine wpAny_notIn_heap (tupleKind_room_in1 hu) (jE I.hok eb) hd dd ?_;have q:=(rel.val k).isSome_eq;rw[Cg] at q;rw[←q,←l];exact h _ (I.tok _)
theorem nc {h':Heap}{t':Nat}{ob:HO}(I:Inv X pins σ H s)(mu:Mut (H a))(hs:Heap.SameBut a s.heap h')(he:∃ q,h'.get? a=some q)(new:bP X.prog X.w (upd H a ob) h' a ob) :
   Inv X pins σ (upd H a ob) { s with heap:=h',toks:=t' } :=
 I.write (x:=a) (e:=a) mu (.inl rfl) (fun b q hb z=>(hs.2 b hb).trans z) he new
theorem mJ {P:Program}{w:World}{H':Hp}{h':Heap}{kvs:List (Key×V)}{vs:List (Key×Value)}(z:kvs.length≤sizeLine)(hd:(a==sysModules)=false)(rel:KV kvs vs)(dd:h'.DictOf (bJ P w) a vs) :
 bP P w H' h' a (.dK kvs):=⟨z,hd,vs,rel,dd⟩
theorem sL {H':Hp}{Q:Unit→Shared→Prop}(hu:A.units+1 < cLine)(I:Inv X pins σ H s)(g:zc H a y v H')(ry:ba y u)(rv:ba v r)(h:∀ s',Inv X pins σ H' s'→Q () s') :
   wpAny (model X.prog X.w) A (setItem (.ref a) u r) Q E s:=by
 rcases g with ⟨kvs,k,e,ey,l,eH⟩ | ⟨kvs,k,b,e,ey,eb,l,eH⟩
 . subst ey eH;obtain⟨z,hd,vs,rel,dd⟩:=xy I.hok e
   have hz:vs.length≤sizeLine:=by rw[←rel.length];exact z
   have hl:(dt kvs k v).length≤sizeLine:=by have:=fZ kvs k v;omega
   refine wpAny_setItem_pairs (hsz:=hz) (li ry) dd fun h' dd' hs=>h _ ?_
   have he:∃ q,h'.get? a=some q:=let ⟨q,_,_,hq,_⟩:=dd';⟨q,hq⟩
   exact nc I (by rw[e];exact True.intro) hs he (mJ hl hd (rel.put k rv) dd')
 . subst ey eH;cases (show u=Value.ref b from ry);obtain⟨z,hd,xs,rel,dd⟩:=yY I.hok e
   have hz:xs.length≤sizeLine:=by rw[←Paired.length rel];exact z
   have hl:(dt kvs k v).length≤sizeLine:=by have:=fZ kvs k v;omega
   refine wpAny_setItem_heap (hsz:=hz) (tupleKind_room_in1 hu) (jE I.hok eb) dd fun h' dd' hs=>h _ ?_;obtain⟨q,es,ep,hq,h2,h3,h4,_,h5⟩:=dd';refine nc I (by rw[e];exact True.intro) hs ⟨q,hq⟩ ⟨hl,hd,_,(rel.put k eb rv).keeps fun c ys ec=>?_,q,es,ep,hq,h2,h3,h4,h5⟩;rw[ai (zw ec e (fun z=>nomatch z))];exact ec
end
section
variable {X:Cx}{pins:List (Addr×Obj)}{σ:St}{H:Hp}{s:Shared}{a:Addr}{kvs:List (Key×V)}{k:Key}{u:Value}{A:Around}{E:Value→Shared→Prop}
theorem za {Q:Value→Shared→Prop}(I:Inv X pins σ H s)(e:Rd H a (.dK kvs))(h:∀ t s',Inv X pins σ H s'→Q (.int kvs.length t) s'):wpAny (model X.prog X.w) A (call (.builtin "len") [.ref a]) Q E s:=by
 obtain⟨z,hd,vs,rel,dd⟩:=i0 I.hok e;refine call_len_dict hd dd (by rw[←rel.length];rw[sizeLine_eq] at z;omega) ?_;rw[←rel.length];exact h _ _ (I.tok _)
end
def zv (i:Expr):Prop:=∀ ov iv,subscripted i false ov iv=operate [ov,iv] (getItem ov iv)
theorem xh {prog:Program}{w:World}{A:Around}{E:Value→Shared→Prop}{s:Shared}{env:Env}{value slice:Expr}{pos:Pos}{T id:String}{Q:Value→Shared→Prop}
   (hl:typeLookup (.type T) "__getitem__"=pure (some (.builtin id)))(hs:zv slice)
   (h:wpAny (model prog w) A (eval value env) (fun o s₁=>wpAny (model prog w) A (eval slice env) (fun i s₂=>s₂.TypeIs o T∧wpAny (model prog w) A (getItem o i) Q E s₂) E s₁) E s) :
   wpAny (model prog w) A (eval (.Subscript value slice pos) env) Q E s:=by
 refine Subscript_ (wpAny_mono h (fun o s₁ h₁=>wpAny_mono h₁ (fun i s₂ h₂=>?_) fun _ _ x=>x) fun _ _ x=>x);obtain⟨hT,h₂⟩:=h₂;unfold subscriptTail;refine wpAny_bind ?_;rw[getitemInPython_of_ne hT.not_modules];refine wpAny_bind (wpAny_specialOf hT hl ?_)
 have fin:wpAny (model prog w) A (subscripted slice false o i) (fun r s₃=>wpAny (model prog w) A (letTemporaryGo value o r >>= fun _=>pure r) Q E s₃) E s₂:=by
   rw[hs o i];exact wpAny_operating (wpAny_mono h₂ (fun r s₃ h₃=>wpAny_bind (wpAny_letTemporaryGo (wpAny_pure h₃))) fun _ _ x=>x)
 first
   | exact wpAny_pure (wpAny_bind fin)
   | exact wpAny_bind (wpAny_pure (wpAny_bind fin))
   | exact wpAny_bind fin
theorem ou {X:Cx}{pins:List (Addr×Obj)}{σ:St}{H:Hp}{s:Shared}{a:Addr}{y:V}{o:Option V}(I:Inv X pins σ H s)(g:kY H a y o):s.TypeIs (.ref a) "dict":=by
 rcases g with ⟨kvs,k,e,_,_⟩ | ⟨kvs,k,b,e,_,_,_⟩
 . obtain⟨_,_,vs,_,dd⟩:=i0 I.hok e;exact dd.typeIs
 . obtain⟨_,_,xs,_,dd⟩:=oA I.hok e;exact dd.typeIs
def va (td ty:TE):TE:=fun σ H Q=>td σ H fun x H1=>ty σ H1 fun y H2=>∃ a v,x=.ref a∧kY H2 a y (some v)∧Q v H2
def yi (ty td:TE):TE:=fun σ H Q=>ty σ H fun y H1=>td σ H1 fun x H2=>∃ a o,x=.ref a∧kY H2 a y o∧Q (.bl o.isSome) H2
def mO (ty td:TE):TE:=fun σ H Q=>ty σ H fun y H1=>td σ H1 fun x H2=>∃ a o,x=.ref a∧kY H2 a y o∧Q (.bl (!o.isSome)) H2
def uY (td ty tv:TE):TS:=fun D σ H=>tv σ H fun v H1=>td σ H1 fun x H2=>ty σ H2 fun y H3=>∃ a H4,x=.ref a∧zc H3 a y v H4∧D.nx σ H4
section
variable {X:Cx}{o i e value:Expr}{pos pos' tpos:Pos}{td ty tv:TE}
theorem cv (hu:X.A.units+1 < cLine)(ho:PE X o td)(hi:PE X i ty)(hs:zv i):PE X (.Subscript o i pos) (va td ty):=by
 intro pins s σ H Q I h;refine xh PySem.F.slot_dict_getitem.lookup hs (thn (ho s σ H _ I h) fun u s1 ⟨x,H1,I1,rx,q1⟩=>thn (hi s1 σ H1 _ I1 q1) fun iv s2 ⟨y,H2,I2,ry,a,v,ex,g,q2⟩=>?_);subst ex;obtain rfl:u=Value.ref a:=rx;exact⟨ou I2 g,tE hu I2 g ry fun w' s3 I3 rw'=>⟨v,H2,I3,rw',q2⟩⟩
theorem uS (hu:X.A.units+1 < cLine)(hi:PE X i ty)(ho:PE X o td):PC X .In i o (yi ty td):=by
 intro pins s σ H Q I h;refine thn (hi s σ H _ I h) fun iv s1 ⟨y,H1,I1,ry,q1⟩=>thn (ho s1 σ H1 _ I1 q1) fun u s2 ⟨x,H2,I2,rx,a,ov,ex,g,q2⟩=>?_;subst ex;obtain rfl:u=Value.ref a:=rx;exact zI hu I2 g ry fun s3 I3=>⟨.bl ov.isSome,H2,I3,rfl,q2⟩
theorem dA (hu:X.A.units+1 < cLine)(hi:PE X i ty)(ho:PE X o td):PC X .NotIn i o (mO ty td):=by
 intro pins s σ H Q I h;refine thn (hi s σ H _ I h) fun iv s1 ⟨y,H1,I1,ry,q1⟩=>thn (ho s1 σ H1 _ I1 q1) fun u s2 ⟨x,H2,I2,rx,a,ov,ex,g,q2⟩=>?_;subst ex;obtain rfl:u=Value.ref a:=rx;exact wR hu I2 g ry fun s3 I3=>⟨.bl (!ov.isSome),H2,I3,rfl,q2⟩
theorem dE (hu:X.A.units+1 < cLine)(ho:PE X o td)(hi:PE X i ty)(hv:PE X value tv)(hs:swapsWith value (some (.Subscript o i pos')) pos.line X.env=pure false) :
   PS X (.Assign [.Subscript o i pos'] value pos) (uY td ty tv):=by
 intro pins s σ H D I h;refine wpAny_Assign_Subscript (thn (hv s σ H _ I h) fun r s1 ⟨v,H1,I1,rv,q1⟩=>thn (ho s1 σ H1 _ I1 q1) fun u s2 ⟨x,H2,I2,rx,q2⟩=>thn (hi s2 σ H2 _ I2 q2) fun iv s3 ⟨y,H3,I3,ry,a,H4,ex,g,q3⟩=>?_) hs;subst ex;obtain rfl:u=Value.ref a:=rx;exact sL hu I3 g ry rv fun s4 I4=>⟨σ,H4,I4,q3⟩
end
theorem nG {P:Program}{w:World}{H:Hp}(h:Heap)(hb:sysModules < h.objs.size):bP P w H (h.push { cls:=.type "dict",data:=.dict #[] }) h.objs.size (.dK []) :=
 ⟨AF _,beq_eq_false_iff_ne.mpr (Ne.symm (Aa hb)),[],.nil,Heap.DictOf.new h⟩
def pZ:TE:=fun _ H Q=>∀ p,H p=none→Q (.ref p) (upd H p (.dK []))
def wb:TE:=fun _ H Q=>∀ p,H p=none→Q (.ref p) (upd H p (.dT []))
section
variable {X:Cx}{pos:Pos}
theorem ed:PE X (.Dict [] [] pos) pZ:=fun pins s σ H Q I h =>
 wpAny_Dict_empty ⟨.ref s.heap.objs.size,_,I.laid (a:=s.heap.objs.size) (o:=.dK []) (t':=s.toks) (fun _ _ q=>Heap.get?_push_of_some _ q) (zR _) (nG s.heap I.big),rfl,h _ (I.hok.fresh (zR _))⟩
end
def kj:List (TE×TE)→St→Hp→(List (V×V)→Hp→Prop)→Prop
 | [],_,H,Q=>Q [] H
 | (tk,tv)::r,σ,H,Q=>tk σ H fun x H1=>tv σ H1 fun y H2=>kj r σ H2 fun ps H3=>Q ((x,y)::ps) H3
abbrev VV:List (V×V)→List (Value×Value)→Prop:=Paired fun p q=>ba p.1 q.1∧ba p.2 q.2
def PPs (X:Cx)(pos:Pos)(keys:List (Option Expr))(values:List Expr)(trs:List (TE×TE)):Prop :=
 ∀ (pins:List (Addr×Obj))(s:Shared) (σ:St)(H:Hp)(Q:List (V×V)→Hp→Prop),Inv X pins σ H s→kj trs σ H Q →
   wpAny (model X.prog X.w) X.A (evalPairs (pairTrees keys values X.env pos)) (fun vs s'=>∃ ps H',Inv X pins σ H' s'∧VV ps vs∧Q ps H') X.xe s
theorem ww {X:Cx}{pos:Pos}:PPs X pos [] [] []:=fun pins s σ H Q I h=>pairTrees_nil_walk ⟨[],H,I,.nil,h⟩
theorem uC {X:Cx}{pos:Pos}{k v:Expr}{ks:List (Option Expr)}{vs:List Expr}{tk tv:TE}{trs:List (TE×TE)}(hk:PE X k tk)(hv:PE X v tv)(hr:PPs X pos ks vs trs) :
   PPs X pos (some k::ks) (v::vs) ((tk,tv)::trs):=fun pins s σ H Q I h =>
 pairTrees_cons_walk (thn (hk s σ H _ I h) fun u s1 ⟨x,H1,I1,rx,q1⟩=>thn (hv s1 σ H1 _ I1 q1) fun w2 s2 ⟨y,H2,I2,ry,q2⟩ =>
   thn (hr pins s2 σ H2 _ I2 q2) fun ws s3 ⟨ps,H3,I3,rel,q3⟩=>⟨(x,y)::ps,H3,I3,.cons ⟨rx,ry⟩ rel,q3⟩)
def cP (kvs more:List (Key×V)):List (Key×V):=more.foldl (fun acc kv=>dt acc kv.1 kv.2) kvs
theorem KV.merge:∀ {more:List (Key×V)}{rs:List (Key×Value)}{kvs:List (Key×V)}{vs:List (Key×Value)},KV more rs→KV kvs vs→KV (cP kvs more) (merged vs rs):=by
 intro more rs kvs vs r;unfold KV at r
 induction r generalizing kvs vs with
 | nil=>intro q;exact q
 | @cons p q ps qs h t ih =>
   intro r0
   have e:KV (dt kvs p.1 p.2) (stored vs q.1 q.2):=by
     have:=r0.put p.1 h.2;rw[←h.1];exact this
   exact ih e
theorem eB:∀ (more kvs:List (Key×V)),(cP kvs more).length≤kvs.length+more.length
 | [],kvs=>by show kvs.length≤kvs.length+0;omega
 | p::r,kvs=>by
   have h1:=eB r (dt kvs p.1 p.2);have h2:=fZ kvs p.1 p.2;show(cP (dt kvs p.1 p.2) r).length≤_;rw[Az];omega
theorem j8 {P:Program}{w:World}:∀ {kvs:List (Key×V)}{ws:List (Value×Value)},VV (kvs.map fun kv=>(kV kv.1,kv.2)) ws→∃ rs,Carries (bJ P w) ws rs∧KV kvs rs
 | [],_,r=>by rw[Bl] at r;cases r;exact⟨[],True.intro,.nil⟩
 | p::kvs,_,r=>by
   rw[Ac] at r
   cases r with
   | @cons a b as bs h t =>
     obtain⟨rs,c,q⟩:=j8 (P:=P) (w:=w) t;obtain⟨b1,b2⟩:=b;exact⟨(p.1,b2)::rs,⟨li h.1,rfl,c⟩,.cons ⟨rfl,h.2⟩ q⟩
def uo (trs:List (TE×TE)):TE:=fun σ H Q=>∀ p,H p=none→kj trs σ (upd H p (.dK [])) fun ps H2=>H2 p=some (.dK [])∧∃ kvs:List (Key×V),ps=kvs.map (fun kv=>(kV kv.1,kv.2))∧kvs.length≤15∧Q (.ref p) (upd H2 p (.dK (cP [] kvs)))
theorem xa {X:Cx}{pos:Pos}{keys:List (Option Expr)}{values:List Expr}{trs:List (TE×TE)}(h:PPs X pos keys values trs)(hall:keys.all (·.isSome)=true)(hl:keys.length=values.length)(h0:keys≠[])
   (h15:keys.length≤15):PE X (.Dict keys values pos) (uo trs):=by
 intro pins s σ H Q I q;have hn:=I.hok.fresh (zR s.heap.objs.size);have I1:=I.laid (a:=s.heap.objs.size) (o:=.dK []) (h':=s.heap.push { cls:=.type "dict",data:=.dict #[] }) (t':=s.toks) (fun _ _ q=>Heap.get?_push_of_some _ q) (zR _) (nG s.heap I.big);refine wpAny_Dict_walk (knd:=bJ X.prog X.w) hall hl h0 h15 (thn (h pins _ σ _ _ I1 (q _ hn)) fun ws s2 ⟨ps,H2,I2,rel,e,kvs,ep,lk,q2⟩=>?_);subst ep;obtain⟨rs,c,rk⟩:=j8 (P:=X.prog) (w:=X.w) rel;obtain⟨z,hd,vs0,r0,dd⟩:=xy I2.hok e;cases r0;refine⟨rs,c,dd,fun h' dd' hs=>⟨.ref s.heap.objs.size,_,?_,rfl,q2⟩⟩
 have hz:(cP [] kvs).length≤sizeLine:=by
   have h1:=eB kvs [];rw[BX] at h1;rw[sizeLine_eq];omega
 have he:∃ q,h'.get? s.heap.objs.size=some q:=let ⟨q,_,_,hq,_⟩:=dd';⟨q,hq⟩
 exact nc I2 (by rw[e];exact True.intro) hs he (mJ hz hd (rk.merge .nil) dd')
section
variable {X:Cx}{pins:List (Addr×Obj)}{σ:St}{H:Hp}{s:Shared}{a:Addr}{y d:V}{u r:Value}{o:Option V}{A:Around}{E:Value→Shared→Prop}
end
section
variable {X:Cx}{o e f:Expr}{apos cpos:Pos}{td ty tx:TE}
end
section
variable {X:Cx}{pins:List (Addr×Obj)}{σ:St}{H:Hp}{s:Shared}{a:Addr}{kvs:List (Key×V)}{A:Around}{E:Value→Shared→Prop}
theorem t3 {Q:Value→Shared→Prop}(I:Inv X pins σ H s)(e:Rd H a (.dK kvs))(h:∀ p s',H p=none→Inv X pins σ (upd H p (.dK kvs)) s'→Q (.ref p) s'):wpAny (model X.prog X.w) A (call (.type "dict") [.ref a]) Q E s:=by
 obtain⟨z,hd,vs,rel,dd⟩:=i0 I.hok e;refine kt_call_dict hd dd (by rw[←rel.length];exact z) fun h' dd' hs=>?_;refine h _ _ (I.hok.fresh (zR _)) (I.laid (a:=s.heap.objs.size) (o:=.dK kvs) (t':=s.toks) (fun b q hq=>?_) (zR _) (mJ z (beq_eq_false_iff_ne.mpr (Ne.symm (Aa I.big))) rel dd'));exact(hs.2 b (Aa (Heap.lt_size hq))).trans (Heap.get?_push_of_some _ hq)
end
section
variable {X:Cx}{pins:List (Addr×Obj)}{σ:St}{H:Hp}{s:Shared}{a:Addr}{y:V}{u:Value}{A:Around}{E:Value→Shared→Prop}
end
end L2
namespace Att
open PySem PySem.W PySem.Calls PyProof.Rows
theorem ji {P:Params}{h:Heap}:∀ (ns:List Int)(vs:List Value),WellAll P h vs (ns.map WData.int)→IntsAre vs ns:=by
 intro ns
 induction ns with
 | nil =>
   intro vs w;rw[Bl] at w;cases w;exact .nil
 | cons n ns ih =>
   intro vs w;rw[Ac] at w
   cases w with
   | cons a b =>
     cases a;exact .cons _ _ (ih _ b)
theorem sO {l:OpenLaw}{n:Nat}(hn:l.most=some n){P:Params}{h:Heap}{args:List WData}{vals:List Value}
   (hpre:l.row.toRowW.claim.pre args=true)(hwl:WellAll P h vals args) :
   ∃ a vs ns,vals=[Value.ref a]∧args=[WData.list (ns.map WData.int)]∧h.get? a=some { cls:=.type "list",data:=.seq vs.toArray }∧IntsAre vs ns∧ns.length≤n:=by
 have hsh:WShape.hasAll [] args [.list .int]=true:=(pre_splitW hpre).1;have hc:l.pre.holds [] { args:=args }=true:=(pre_splitW hpre).2;obtain⟨d,r,rfl,h1,h2⟩:=hasAllW_cons hsh;obtain rfl:=hasAllW_nil h2;obtain⟨xs,rfl,h3⟩:=hasW_list h1;obtain⟨ns,rfl⟩:=items_int h3
 have hlen:ns.length≤n:=by
   unfold OpenLaw.pre at hc
   have h4:(WTm.not (.lt (.lit (.int (n:Int))) (.len (.arg 0)))).holds [] { args:=[.list (ns.map .int)] }=true:=by
     have h4:=(holds_andW hc).1;rw[hn] at h4;exact h4
   have h5:=condW_of h4 (w_not (w_lt w_lit (w_len_list (w_arg rfl))));rw[be] at h5;refine Cn fun q=>?_
   have q':(n:Int) < ((ns.length:Nat):Int):=by omega
   first
     | (rw[decide_eq_true q'] at h5;exact absurd h5 (by decide))
     | (simp at h5;omega)
 cases hwl with
 | cons w1 w2 =>
   cases w2
   cases w1 with
   | list ho hall=>exact⟨_,_,ns,rfl,rfl,ho,ji ns _ hall,hlen⟩
theorem sI (l:OpenLaw)(args:List WData):l.row.toRowW.claim.post args (.bool true) args=true :=
 postW_of (r:=l.row.toRowW) (X:=(true==true))
   (show WShape.has [] (.bool true) .bool=true by first | rfl | decide | simp[WShape.has,WShape.arms,WShape.armsAll])
   (show(WTm.eq .res (.lit (.bool true))).value [] { args:=args,res:=some (.bool true),after:=args }=some (.bool (true==true)) from w_eq_bool (w_res rfl) w_lit) rfl
theorem attach_call {l:OpenLaw}{n:Nat}{q:Program}{loose:List Str}{XP:(Str→Option Value)→Heap→Prop}{YP:World→Heap→Prop}{d:DefRec}
   (hn:l.most=some n)(hdf:d.params.defaults=[])
   (call:∀ (w:World)(s₀ s₁:Shared)(mg mb:Str→Option Value)(fa:Addr)(o:Obj) (pm cd doc:Value)(a:Addr)(vs:List Value)(ns:List Int),
     Ground q loose [] XP w s₀ mg mb s₁.heap→YP w s₁.heap →
     s₁.heap.get? fa=some o→o.data=.func (docDef d.name d.params d.body d.scope pm cd doc)→s₁.heap.CodeRec cd d.name→mg d.name=some (.ref fa) →
     s₁.heap.get? a=some { cls:=.type "list",data:=.seq vs.toArray }→IntsAre vs ns→ns.length≤n→s₁.gens=#[] →
     codeAny (model l.prog w) callerA (.call (.ref fa) ⟨[.ref a],[]⟩) (fun r s'=>r=.ok (.ret (.bool true))∧OldK s₁.heap s'.heap∧s'.os=s₁.os∧AllBare s'.gens) s₁) :
   WalkO q loose XP YP l.row.toRowW d [] (fun f vs=>CK f vs):=by
 intro w s₀ s₁ mg mb G Y fa o pm cd doc dV kV ho hd hcd hD hmg hg args vals as hpre hlay hrd hwl hlo;obtain rfl:dV=.none:=Dflts.none hD hdf;obtain rfl:kV=.none:=Dflts.noKw hD;obtain⟨a,vs,ns,rfl,rfl,hobj,hints,hlen⟩:=sO hn hpre hwl;refine enter_call (codeAny_mono (call w s₀ s₁ mg mb fa o pm cd doc a vs ns G Y ho (fd_plain hd) hcd hmg hobj hints hlen hg) fun r s' hq=>?_);obtain⟨rfl,h2,h3,h4⟩:=hq;exact⟨.inl ⟨.bool true,.bool true,[],rfl,fun _=>rfl,.bool true,sI l _,fun _=>⟨List.Pairwise.nil,fun _ hm=>(nomatch hm)⟩⟩,h2,h3,h4⟩
section
variable {prog:Program}{w:World}{A:Around}{E:Value→Shared→Prop}{s:Shared}{K:Frag}
def ledger (h:Heap)(L d:Addr):List (Addr×Obj):=(zW h.objs.size).filterMap fun a=>if a=L∨a=d then none else(h.get? a).map fun o=>(a,o)
end
end Att
namespace L2
open PySem PySem.Spec PyProof.Rows
theorem iK:∀ {vs:List Value}{ns:List Int},IntsAre vs ns→Vals (ns.map V.int) vs
 | _,_,.nil=>.nil
 | _,_,.cons n t h=>.cons ⟨t,rfl⟩ (iK h)
def xS (H:Hp):Prop:=∀ b,H b=none∨∃ o xs,H b=some (.frz o (.lst xs))
theorem u5 {P:Program}{w:World}{K:PySem.W.Frag}{mg mb:Str→Option Value}{CX:CXT}{k:Nat}{fa a:Addr}{fd:FuncData}{x:Str}{sp:Sp}{s₁:Shared}{vs:List Value}{ns:List Int}
   (KX:K.In s₁.heap)(hns:s₁.heap.Ns mainGlobals mg)(hb:s₁.heap.Ns builtinsNs mb)(hbb:∀ x:Str,x≠"__name__"→mb x=bootBuiltins x)(hlim:s₁.heap.NoLimit)(hg:s₁.gens=#[])
   (ha:s₁.heap.get? a=some { cls:=.type "list",data:=.seq vs.toArray })(hi:IntsAre vs ns)(hl:ns.length≤sizeLine)(hr:cL k callerA)
   (F:∀ base:Heap,K.In base→base.Ns mainGlobals mg→aU P w K mg base CX k fa fd [x] sp)(hbind:∀ (s:Shared) (u:Value),BindsTo s fd ⟨[u],[]⟩ [(x,u)])
   (hsp:∀ H:Hp,xS H→SqL K H a (ns.map V.int)→sp [.ref a] H (fun v _=>v=.bl true) fun _ _ _=>False)
   (hCX:∀ H e s',CX [] H s₁ (fun _ _ _=>False) e s'→False) :
   codeAny (model P w) callerA (.call (.ref fa) ⟨[.ref a],[]⟩) (fun r s'=>r=.ok (.ret (.bool true))∧OldK s₁.heap s'.heap∧s'.os=s₁.os∧AllBare s'.gens) s₁:=by
 have rv:=iK hi;have lenV:=hi.length
 have core:∀ H:Hp,xS H→SqL K H a (ns.map V.int)→HOk P w H s₁.heap→(∀ b,H b≠none→b=a)→(H a≠none→K.lookup a=none) →
     codeAny (model P w) callerA (.call (.ref fa) ⟨[.ref a],[]⟩) (fun r s'=>r=.ok (.ret (.bool true))∧OldK s₁.heap s'.heap∧s'.os=s₁.os∧AllBare s'.gens) s₁:=by
   intro H hO hS hok hA hK;have base_of:∀ {b:Addr}{o:Obj},s₁.heap.get? b=some o→H b=none→(mQ s₁.heap H).get? b=some o:=fun e n=>vV e n
   have noA:∀ {b:Addr}{o:Obj}{es:Array DictEntry}{ep:Nat},s₁.heap.get? b=some o→o.data=.dict es ep→H b=none:=fun {b o es ep} e d=>by
     cases q:H b with
     | none=>rfl
     | some u =>
       have e':b=a:=hA b (by rw[q];simp);subst e';rw[ha] at e;cases e;have d':Data.seq vs.toArray _=Data.dict es ep:=d;cases d'
   have nsK:∀ {b:Addr}{m:Str→Option Value},s₁.heap.Ns b m→(mQ s₁.heap H).Ns b m:=fun {b m} ⟨o,es,ep,e,d,r⟩=>⟨o,es,ep,base_of e (noA e d),d,r⟩
   have hKb:K.In (mQ s₁.heap H):=fun b o e=>base_of (KX b o e) (by
     cases q:H b with
     | none=>rfl
     | some u =>
       have e':b=a:=hA b (by rw[q];simp);subst e'
       rw[hK (by rw[q];simp)] at e;cases e)
   have hM:Mod K mg (mQ s₁.heap H):=⟨hKb,nsK hns,⟨mb,nsK hb,hbb⟩,let ⟨mc,h1,h2⟩:=hlim;⟨mc,nsK h1,h2⟩⟩;have e0:qv P w K mg (mQ s₁.heap H) callerA [] s₁ H:=⟨rfl,hM,fun b o e=>wW e,CC (tX _ _),trivial,fun b hb=>absurd (show b∈([]:List Addr) from hb) (by simp),hok,.of_eq hg⟩;refine codeAny_mono ((F _ hKb (nsK hns)).run callerA [] s₁ H ⟨[.ref a],[]⟩ [.ref a] [.ref a] _ _ hr e0 (hbind s₁ (.ref a)) (.cons rfl .nil) (hsp H hO hS)) fun r s' h=>?_
   cases r with
   | error e=>exact(hCX H e s' h).elim
   | ok fl =>
     cases fl with
     | next=>exact False.elim h
     | brk=>exact False.elim h
     | cont=>exact False.elim h
     | ret u =>
       obtain⟨v,H',os,bare,un,hok',r',q⟩:=h;have q':v=.bl true:=q;subst q';obtain rfl:u=Value.bool true:=r';refine⟨rfl,OldK.of_keep fun b o e=>?_,os,bare⟩
       cases q:H b with
       | none=>exact un.keep b o e q (by intro z;exact absurd (show b∈([]:List Addr) from z) (by simp)) (by simp)
       | some u =>
         rcases hO b with z | ⟨ob,xs,z⟩
         . rw[q] at z;cases z
         . have z2:=un.frzs b ob _ z;obtain⟨e1,_⟩:=hok b _ z;obtain⟨e2,_⟩:=hok' b _ z2;rw[e] at e1;cases e1;exact e2
 cases hk:K.lookup a with
 | some o =>
   have e:=KX a o hk;rw[ha] at e;cases e;refine core (fun _=>none) (fun _=>.inl rfl) (.inr ⟨_,vs.toArray,_,hk,rfl,rfl,rfl,by rw[z6,lenV];exact hl,by simpa using rv⟩) (fun b u z=>by have z':(none:Option HO)=some u:=z;cases z') (fun b z=>absurd rfl z) fun z=>absurd rfl z
 | none =>
   refine core (fun b=>if b=a then some (.frz { cls:=.type "list",data:=.seq vs.toArray } (.lst (ns.map V.int))) else none) (fun b=>?_) (.inl (.inr ⟨{ cls:=.type "list",data:=.seq vs.toArray },if_pos rfl⟩)) (fun b u z=>?_) (fun b z=>?_) fun _=>hk
   . by_cases hb:b=a
     . exact .inr ⟨_,_,if_pos hb⟩
     . exact .inl (if_neg hb)
   . by_cases hb:b=a
     . have z':=(if_pos hb).symm.trans z;cases z';subst hb;exact⟨ha,by rw[be];exact hl,vs,_,rv,ha⟩
     . have z':=(if_neg hb).symm.trans z;cases z'
   . by_cases hb:b=a
     . exact hb
     . exact absurd (if_neg hb) z
theorem walk_of {l:PySem.W.OpenLaw}{n k:Nat}{q:Program}{loose:List Str}{XP:(Str→Option Value)→Heap→Prop}{YP:World→Heap→Prop}{d:DefRec}{K:Params→PySem.W.Frag}{CX:World→CXT}{sp:World→Sp}{x:Str}
   (hn:l.most=some n)(hn2:n≤sizeLine)(hdf:d.params.defaults=[])(hr:cL k callerA)
   (hY:∀ (w:World)(h:Heap),YP w h→(K w.params).In h)
   (F:∀ (w:World)(mg:Str→Option Value)(fa:Addr)(h:Heap),(K w.params).In h→h.Ns mainGlobals mg→mg d.name=some (.ref fa) →
     ∃ fd:FuncData,(∀ (s:Shared) (u:Value),BindsTo s fd ⟨[u],[]⟩ [(x,u)]) ∧
       ∀ base:Heap,(K w.params).In base→base.Ns mainGlobals mg→aU l.prog w (K w.params) mg base (CX w) k fa fd [x] (sp w))
   (hsp:∀ (w:World)(H:Hp)(a:Addr)(ns:List Int),ns.length≤n→xS H→SqL (K w.params) H a (ns.map V.int)→sp w [.ref a] H (fun v _=>v=.bl true) fun _ _ _=>False)
   (hCX:∀ (w:World)(H:Hp)(s:Shared) (e:Value)(s':Shared),CX w [] H s (fun _ _ _=>False) e s'→False) :
   PySem.W.WalkO q loose XP YP l.row.toRowW d [] (fun f vs=>CK f vs):=by
 refine Att.attach_call hn hdf fun w s₀ s₁ mg mb fa o pm cd doc a vs ns G Y ho hd hcd hmg hobj hints hlen hg=>?_;have KX:=hY w _ Y;obtain⟨fd,hb,hF⟩:=F w mg fa _ KX G.T.g hmg;exact u5 KX G.T.g G.T.b G.T.builtins G.T.nolimit hg hobj hints (AG hlen hn2) hr hF hb (fun H hO hS=>hsp w H a ns hlen hO hS) fun H e s'=>hCX w H s₁ e s'
def bw (s:Stmt) (j:Nat):Stmt:=match s with
 | .ClassDef _ _ _ body _ _ _ _ _ _ _=>body.getD j (.Pass ⟨0,0,0,0⟩)
 | _=>.Pass ⟨0,0,0,0⟩
def gh (s:Stmt):Arguments:=match s with
 | .FunctionDef _ a _ _ _ _ _ _ _ _=>a
 | _=>{ posonlyargs:=[],args:=[],vararg:=none,kwonlyargs:=[],kw_defaults:=[],kwarg:=none,defaults:=[] }
def dF (s:Stmt):List Stmt:=match s with
 | .FunctionDef _ _ b _ _ _ _ _ _ _=>b
 | _=>[]
def ao (s:Stmt):Scope:=match s with
 | .FunctionDef _ _ _ _ _ _ sc _ _ _=>sc
 | _=>{ kind:=.function,names:=[],isGenerator:=false,isCoroutine:=false }
abbrev CX0:CXT:=fun _ _ _ _ _ _=>False
abbrev E0:XK:=fun _ _ _=>False
theorem az {X:Cx}:dq CX0 X E0:=fun _ _ _ _ _ _ _ h=>h.elim
structure Fun (K:PySem.W.Frag) (x qual:Str)(st:Stmt)(f:Addr)(fd:FuncData):Prop where
 ex:∃ (oc:Value)(od:Option Addr) (kV doc pm:Value)(an:Option Addr) (cdv ct:Value)(osl:Array (Option Value)),
   fd=Bs x qual (gh st) (dF st) (ao st) .none kV doc pm an cdv ct∧K.lookup f=some ⟨oc,od,.func fd,osl⟩∧Cv K cdv qual=true
 kp:Bc K (.ref f)=true
section
variable {P:Program}{w:World}{K:PySem.W.Frag}{mg:Str→Option Value}{base:Heap}
theorem Fun.ok {x qual:Str}{st:Stmt}{f:Addr}{fd:FuncData}{N ps:List Str}{k:Nat}{sp:Sp}(F:Fun K x qual st f fd)(S:aw N ps (ao st))(len:∀ vs H Q E,sp vs H Q E→vs.length=ps.length)
   (hbody:∀ (cdv:Value)(A:Around)(outer:List Env)(s:Shared)(H:Hp)(vs:List V)(Q:VK)(E:XK),cL k (A.deeper (envOfC qual (ao st) s.heap.objs.size f cdv))→sp vs H Q E →
     ∃ t,PSs (eO CX0 P w K mg base N qual (ao st) f cdv A outer s H E).nox (dF st) t∧t { nx:=fun _ H'=>Q .non H',rt:=Q } (start N vs) H):aU P w K mg base CX0 (k+1) f fd ps sp:=by
 obtain⟨oc,od,kV,doc,pm,an,cdv,ct,osl,rfl,lk,hcd⟩:=F.ex;refine xr lk hcd S len fun A outer s H vs Q E hr hsp=>?_;obtain⟨t,h,q⟩:=hbody cdv A outer s H vs Q E hr hsp;exact⟨t,h.nox,q⟩
theorem Fun.binds {x qual:Str}{st:Stmt}{f:Addr}{fd:FuncData}{ps:List Str}(F:Fun K x qual st f fd)
   (h:∀ (kV doc pm:Value)(an:Option Addr) (cdv ct:Value)(us:List Value),us.length=ps.length→bindArgs (Bs x qual (gh st) (dF st) (ao st) .none kV doc pm an cdv ct) ⟨us,[]⟩=pure (ps.zip us)):em K fd ps []:=by
 obtain⟨oc,od,kV,doc,pm,an,cdv,ct,osl,rfl,lk,hcd⟩:=F.ex;exact .all (h kV doc pm an cdv ct)
theorem fun_mk {x qual:Str}{st:Stmt}{f:Addr}{oc:Value}{od an:Option Addr}{osl:Array (Option Value)}{kV doc pm cdv ct:Value}(l:K.lookup f=some ⟨oc,od,.func (Bs x qual (gh st) (dF st) (ao st) .none kV doc pm an cdv ct),osl⟩)
 (c:Cv K cdv qual=true)(k:Bc K (.ref f)=true):Fun K x qual st f (Bs x qual (gh st) (dF st) (ao st) .none kV doc pm an cdv ct):=⟨⟨oc,od,kV,doc,pm,an,cdv,ct,osl,rfl,l,c⟩,k⟩
end
section
variable {X:Cx}
theorem pv (i:Nat){x:Str}{pos:Pos}(hN:X.N[i]?=some x:=by rfl)(hv:Vis X.env.scope x:=by first | exact Or.inl rfl | exact Or.inr (Or.inl rfl) | exact Or.inr (Or.inr rfl))(hd:(x==("__debug__":Str))=false:=by decide)
 (hcd:(x==("__classdict__":Str))=false:=by decide):PE X (.Name x pos) (kP i):=xC hN hv hd hcd
theorem tD:cq X (.builtin "len") (fun xs H Q=>∃ a kvs,xs=[V.ref a]∧H a=some (.dK kvs)∧Q (.int kvs.length) H):=by
 intro pins s σ H xs us Q I r h;obtain⟨a,kvs,rfl,ha,q⟩:=h;obtain⟨u,rfl,ru⟩:=ej r;cases ru;exact za I (.inl ha) fun t s' I'=>⟨.int kvs.length,H,I',⟨t,rfl⟩,q⟩
end
theorem ay {c A B:Prop} [Decidable c](h1:c→A)(h2:¬c→B):if c then A else B:=by
 by_cases h:c
 . rw[if_pos h];exact h1 h
 . rw[if_neg h];exact h2 h
def af (H H':Hp):Prop:=∀ b o,H b=some o→H' b=some o
theorem af.refl (H:Hp):af H H:=fun _ _ h=>h
theorem af.trans {H H1 H2:Hp}(a:af H H1)(b:af H1 H2):af H H2:=fun c o h=>b c o (a c o h)
theorem af.free {H H':Hp}(e:af H H'){l:Addr}(h:H' l=Option.none):H l=Option.none:=by
 cases q:H l with
 | none=>rfl
 | some o =>
   rw[e l o q] at h;cases h
theorem af.seq {K:PySem.W.Frag}{H H':Hp}{a:Addr}{xs:List V}(e:af H H')(h:SqL K H a xs):SqL K H' a xs:=by
 rcases h with (h | ⟨o,h⟩) | h
 . exact .inl (.inl (e _ _ h))
 . exact .inl (.inr ⟨o,e _ _ h⟩)
 . exact .inr h
section
variable {κ:Type} [DecidableEq κ]
theorem gQ:∀ {l:List κ}{k:κ},l.Nodup→¬k∈l→(l++[k]).Nodup
 | [],k,_,_=>by simp
 | a::r,k,h,hk=>by
   obtain⟨h1,h2⟩:=List.nodup_cons.mp h;show(a::(r++[k])).Nodup;refine List.nodup_cons.mpr ⟨fun m=>?_,gQ h2 fun m=>hk (List.mem_cons.mpr (Or.inr m))⟩
   rcases List.mem_append.mp m with q | q
   . exact h1 q
   . exact hk (List.mem_cons.mpr (Or.inl (List.mem_singleton.mp q).symm))
end
end L2
set_option maxHeartbeats 8000000
namespace L2
open PySem PySem.Spec PyProof.Rows
def jm (cells:List (Str×Addr)):List (Str×NameKind)→List (Str×Addr)→List (Str×Addr)
 | [],acc=>acc
 | (n,k)::r,acc=>jm cells r (if(k==.free)=true then(n,(cells.lookup n).getD 0)::acc else acc)
def jj (scope:Scope)(env:Env):List (Str×Addr):=jm env.cells scope.names []
theorem gz {env:Env}:∀ (names:List (Str×NameKind))(acc:List (Str×Addr)),(∀ y∈names,y.2=.free→∃ c,env.cells.lookup y.1=some c) →
   (forIn names acc (fun(x:Str×NameKind)(r:List (Str×Addr))=>if(x.2==.free)=true then(do let c ←cellOf env x.1;pure (ForInStep.yield ((x.1,c)::r))) else pure (ForInStep.yield r)):Sem (List (Str×Addr)))=pure (jm env.cells names acc)
 | [],acc,_=>by simp[jm]
 | (n,k)::r,acc,h=>by
   have hr:∀ y∈r,y.2=.free→∃ c,env.cells.lookup y.1=some c:=fun y hy=>h y (z7 _ hy);by_cases hk:(k==NameKind.free)=true
   . obtain⟨c,hc⟩:=h (n,k) zZ (by simpa using hk)
     have e:cellOf env n=pure c:=by unfold cellOf;rw[show env.cells.lookup n=some c from hc]
     simp only[BZ,hk,if_true,e,pure_bind,jm,hc,BC];exact gz r _ hr
   . simp only[BZ,hk,Bool.false_eq_true,if_false,pure_bind,jm];exact gz r _ hr
theorem ff {env:Env}{scope:Scope}(h:∀ y∈scope.names,y.2=.free→∃ c,env.cells.lookup y.1=some c):closureFor scope env=pure (jj scope env):=by
 unfold closureFor jj;have:=gz scope.names [] h
 simpa using this
theorem jH {cells:List (Str×Addr)}{n:Str}{c:Addr}:∀ (names:List (Str×NameKind))(acc:List (Str×Addr)),(n,c)∈jm cells names acc→(n,c)∈acc∨((n,NameKind.free)∈names∧c=(cells.lookup n).getD 0)
 | [],acc,h=>.inl h
 | (y,k)::r,acc,h=>by
   have h':(n,c)∈jm cells r (if(k==.free)=true then(y,(cells.lookup y).getD 0)::acc else acc):=h
   rcases jH r _ h' with q | ⟨q1,q2⟩
   . by_cases hk:(k==NameKind.free)=true
     . rw[if_pos hk] at q
       rcases List.mem_cons.mp q with e | q
       . injection e with e1 e2
         subst e1
         have hk':k=.free:=by simpa using hk
         subst hk';exact .inr ⟨zZ,e2⟩
       . exact .inl q
     . rw[if_neg hk] at q;exact .inl q
   . exact .inr ⟨z7 _ q1,q2⟩
theorem ly {cells:List (Str×Addr)}{p:Str×Addr}:∀ (names:List (Str×NameKind))(acc:List (Str×Addr)),p∈acc→p∈jm cells names acc
 | [],acc,h=>h
 | (y,k)::r,acc,h=>by
   show p∈jm cells r (if(k==.free)=true then(y,(cells.lookup y).getD 0)::acc else acc);refine ly r _ ?_
   split
   . exact z7 _ h
   . exact h
theorem pd {cells:List (Str×Addr)}{n:Str}:∀ (names:List (Str×NameKind))(acc:List (Str×Addr)),(n,NameKind.free)∈names→(n,(cells.lookup n).getD 0)∈jm cells names acc
 | (y,k)::r,acc,h=>by
   show _∈jm cells r (if(k==.free)=true then(y,(cells.lookup y).getD 0)::acc else acc)
   rcases List.mem_cons.mp h with e | h
   . injection e with e1 e2
     subst e1 e2;exact ly r _ (by rw[if_pos (by rfl)];exact zZ)
   . exact pd r _ h
theorem er {n:Str}{c:Addr}:∀ {l:List (Str×Addr)},(n,c)∈l→(∀ d,(n,d)∈l→d=c)→l.lookup n=some c
 | (y,d)::r,h,ha=>by
   by_cases e:n=y
   . subst e;have hd:d=c:=ha d zZ;simp[Al,hd]
   . have e':(n==y)=false:=by simpa using e
     rw[Al,e'];refine er ?_ fun d hd=>ha d (z7 _ hd)
     rcases List.mem_cons.mp h with z | z
     . injection z with z1 _
       exact absurd z1 e
     . exact z
theorem ja {env:Env}{scope:Scope}{n:Str}{c:Addr}(h:(n,NameKind.free)∈scope.names)(hc:env.cells.lookup n=some c):(jj scope env).lookup n=some c:=by
 unfold jj;have h1:=pd (cells:=env.cells) scope.names [] h;rw[hc] at h1;refine er h1 fun d hd=>?_
 rcases jH _ _ hd with q | ⟨_,q⟩
 . cases q
 . rw[hc] at q;exact q
theorem wv {env:Env}{scope:Scope}{n:Str}{c:Addr}(hf:∀ y∈scope.names,y.2=.free→∃ c,env.cells.lookup y.1=some c)(h:(jj scope env).lookup n=some c):(n,NameKind.free)∈scope.names∧env.cells.lookup n=some c:=by
 have hm:=A2 h;unfold jj at hm
 rcases jH _ _ hm with q | ⟨q1,q2⟩
 . cases q
 . obtain⟨d,hd⟩:=hf _ q1 rfl;have hd:env.cells.lookup n=some d:=hd;rw[hd] at q2;have e:c=d:=q2;subst e;exact⟨q1,hd⟩
def cxB (X:Cx)(N:List Str)(scope:Scope)(s:Shared)(H:Hp)(ex:List Addr):Cx where
 prog:=X.prog
 w:=X.w
 K:=X.K
 mg:=X.mg
 base:=X.base
 A:=X.A
 N:=N
 s₀:=s
 H₀:=H
 env:=compEnvC scope (jj scope X.env) s.heap.objs.size X.env
 outer:=X.stack
 stack:=X.stack
 ex:=ex
 calm:=X.calm
 fn:=fun _=>false
 pn:=[]
 xe:=fun _ _=>False
def f7 (pk:List (Option Nat)) (σ:St):St:=pk.map fun o=>o.bind fun j=>(σ[j]?).bind id
structure bW (N:List Str)(env:Env)(scope:Scope)(N':List Str)(pk:List (Option Nat)):Prop where
 kind:scope.kind=.function
 nocell:∀ y∈scope.names,y.2≠.cell
 names:∀ y∈scope.names,y.2=.local→scope.names.lookup y.1=some .local
 free:∀ y∈scope.names,y.2=.free→(env.scope.names.lookup y.1=some .cell∨env.scope.names.lookup y.1=some .free)
 len:pk.length=N'.length
 cap:∀ (i:Nat) (x:Str),N'[i]?=some x→∀ (j:Nat),pk[i]?=some (some j)→N[j]?=some x∧scope.names.lookup x=some .free
theorem iY {env:Env}{x:Str}{k:NameKind}:∀ {names:List (Str×NameKind)},(names.map fun(n,k)=>if(k==NameKind.free&&env.scope.kind==.function&&env.kindOf n==some .cell) then(n,NameKind.cell) else(n,k)).lookup x=some k→k=.cell∨k=.free →
   (∀ y∈names,y.2≠.cell)→(x,NameKind.free)∈names
 | [],h,_,_=>by simp at h
 | (n,k')::r,h,hk,hc=>by
   have hc':∀ y∈r,y.2≠.cell:=fun y hy=>hc y (z7 _ hy);have h':Aj x ((if(k'==NameKind.free&&env.scope.kind==.function&&env.kindOf n==some .cell)=true then(n,NameKind.cell) else(n,k'))::(r.map fun(n,k)=>if(k==NameKind.free&&env.scope.kind==.function&&env.kindOf n==some .cell) then(n,NameKind.cell) else(n,k)))=some k:=h;by_cases e:x=n
   . subst e;by_cases hq:(k'==NameKind.free&&env.scope.kind==.function&&env.kindOf x==some .cell)=true
     . have:k'=.free:=by
         rw[Bool.and_eq_true,Bool.and_eq_true] at hq
         simpa using hq.1.1
       rw[←this];exact zZ
     . rw[if_neg hq] at h';simp[Al] at h';subst h'
       rcases hk with hk | hk
       . exact absurd hk (hc _ zZ)
       . rw[←hk];exact zZ
   . have e':(x==n)=false:=by simpa using e
     have h2:Aj x (r.map fun(n,k)=>if(k==NameKind.free&&env.scope.kind==.function&&env.kindOf n==some .cell) then(n,NameKind.cell) else(n,k))=some k:=by
       split at h'<;>(rw[Al,e'] at h';exact h')
     exact z7 _ (iY h2 hk hc')
theorem jR {env:Env}{x:Str}:∀ {names:List (Str×NameKind)},names.lookup x=some .free →
   (names.map fun(n,k)=>if(k==NameKind.free&&env.scope.kind==.function&&env.kindOf n==some .cell) then(n,NameKind.cell) else(n,k)).lookup x=some .cell ∨
   (names.map fun(n,k)=>if(k==NameKind.free&&env.scope.kind==.function&&env.kindOf n==some .cell) then(n,NameKind.cell) else(n,k)).lookup x=some .free
 | [],h=>by simp at h
 | (n,k')::r,h=>by
   show Aj x ((if(k'==NameKind.free&&env.scope.kind==.function&&env.kindOf n==some .cell)=true then(n,NameKind.cell) else(n,k'))::(r.map fun(n,k)=>if(k==NameKind.free&&env.scope.kind==.function&&env.kindOf n==some .cell) then(n,NameKind.cell) else(n,k)))=_ ∨
     Aj x ((if(k'==NameKind.free&&env.scope.kind==.function&&env.kindOf n==some .cell)=true then(n,NameKind.cell) else(n,k'))::(r.map fun(n,k)=>if(k==NameKind.free&&env.scope.kind==.function&&env.kindOf n==some .cell) then(n,NameKind.cell) else(n,k)))=_
   by_cases e:x=n
   . subst e
     have hk:k'=.free:=by simpa [Al] using h
     subst hk
     split
     . left;simp[Al]
     . right;simp[Al]
   . have e':(x==n)=false:=by simpa using e
     rw[Al,e'] at h;have ih:=jR (env:=env) (x:=x) (names:=r) h
     split<;>(simp only[Al,e'];exact ih)
section
variable {X:Cx}{pins:List (Addr×Obj)}{σ:St}{H:Hp}{s:Shared}{scope:Scope}{N':List Str}{pk:List (Option Nat)}{fp:List Addr}
theorem gR (I:Inv X pins σ H s)(B:bW X.N X.env scope N' pk):∀ y∈scope.names,y.2=.free→∃ c,X.env.cells.lookup y.1=some c:=fun y hy hf=>I.ok.has y.1 (B.free y hy hf)
theorem rW {h₁:Heap}{t:Nat}(I:Inv X pins σ H s)(B:bW X.N X.env scope N' pk)(hf:∀ b∈fp,fq X pins H b)(ho:∀ b∈fp,∃ o,s.heap.get? b=some o)
   (hn:h₁.Ns s.heap.objs.size (fun _=>none))(hs:∀ b o,s.heap.get? b=some o→h₁.get? b=some o) :
   Inv (cxB X N' scope s H fp) [] (f7 pk σ) H { s with heap:=h₁,toks:=t }:=by
 have bh:=gR I B;have clx:∀ x c,(jj scope X.env).lookup x=some c→(x,NameKind.free)∈scope.names∧X.env.cells.lookup x=some c:=fun x c h=>wv bh h
 refine⟨⟨I.ok.mod,?_,I.ok.glob,I.ok.blt,zR _,fun x y c h1 h2=>?_,fun x hx=>?_,fun x c h _=>?_,I.ok.hd,I.ok.frames,.inl rfl,fun b hb=>⟨?_,fun x c h=>?_⟩,I.bs,AG I.ok.bsz I.sz,fun b o e hb=>?_,fun b hb hfs=>?_,I.stack,I.stkFree⟩,
   rfl,I.bare,Un.kept hs,⟨_,hn,fun i x v h1 h2 h3=>?_⟩,fun x c h=>?_,I.hok.fresh (zR _),fun x c h=>?_,fun p hp=>absurd (show p∈([]:List (Addr×Obj)) from hp) (by simp),I.hok.kept hs,?_⟩
 . exact B.kind
 . exact I.ok.inj x y c (clx x c h1).2 (clx y c h2).2
 . have hx':(relabel scope X.env).names.lookup x=some .cell∨(relabel scope X.env).names.lookup x=some .free:=hx
   have hm:(x,NameKind.free)∈scope.names:=by
     rcases hx' with z | z
     . exact iY z (.inl rfl) B.nocell
     . exact iY z (.inr rfl) B.nocell
   obtain⟨c,hc⟩:=bh _ hm rfl;exact⟨c,ja hm hc⟩
 . exact absurd (show false=true from h) Bool.false_ne_true
 . obtain⟨o,e⟩:=ho b hb;exact Aa (Heap.lt_size e)
 . exact(hf b hb).2.2.2.2.1 x c (clx x c h).2
 . have:=(hf b hb);obtain⟨_,_,_,h4,_⟩:=this
   rcases h4 with q | q
   . exact I.ok.noex b o e q
   . exact absurd (Ae (Heap.lt_size e) (AG I.ok.bsz q)) (Bb _)
 . obtain⟨_,h2,h3,_⟩:=hf b hb
   rcases List.mem_cons.mp (I.stkSub b hfs) with q | q
   . exact h2 q
   . exact h3 q
 ·
   have h2':(pk.map fun o=>o.bind fun j=>(σ[j]?).bind id)[i]?=some (some v):=h2;rw[zO] at h2'
   cases ep:pk[i]? with
   | none=>rw[ep] at h2';cases h2'
   | some o =>
     rw[ep] at h2';have h2':o.bind (fun j=>(σ[j]?).bind id)=some v:=Option.some.inj h2'
     cases o with
     | none=>cases h2'
     | some j =>
       have h2':(σ[j]?).bind id=some v:=h2'
       have hj:σ[j]?=some (some v):=by
         cases q:σ[j]? with
         | none=>rw[q] at h2';cases h2'
         | some w=>rw[q] at h2';exact congrArg some h2'
       obtain⟨hN,hlk⟩:=B.cap i x h1 j ep;have hm:=A2 hlk;obtain⟨m,_,hl⟩:=I.loc
       have hv:Vis X.env.scope x:=by
         rcases B.free _ hm rfl with z | z
         . exact .inr (.inl z)
         . exact .inr (.inr z)
       obtain⟨u,r,l⟩:=hl j x v hN hj hv;refine⟨u,r,?_⟩
       rcases l with ⟨k,_⟩ | ⟨k,c,hc,hcell⟩
       . have k':X.env.scope.names.lookup x=some .local:=k
         rcases B.free _ hm rfl with z | z
         . rw[show X.env.scope.names.lookup x=some .cell from z] at k';cases k'
         . rw[show X.env.scope.names.lookup x=some .free from z] at k';cases k'
       . refine .inr ⟨?_,c,ja hm hc,?_⟩
         . rcases h3 with z | z
           . have z':(relabel scope X.env).names.lookup x=some .local:=z
             rcases jR (env:=X.env) hlk with y | y
             . have y':(relabel scope X.env).names.lookup x=some .cell:=y;rw[y'] at z';cases z'
             . have y':(relabel scope X.env).names.lookup x=some .free:=y;rw[y'] at z';cases z'
           . exact z
         . obtain⟨o,ho,hd⟩:=hcell;exact⟨o,hs _ _ ho,hd⟩
 . obtain⟨v,o,ho,hd⟩:=I.cell x c (clx x c h).2;exact⟨v,o,hs _ _ ho,hd⟩
 . exact I.freeC x c (clx x c h).2
 . show(f7 pk σ).length=N'.length;unfold f7;rw[be];exact B.len
end
theorem nv {prog:Program}{w:World}{A:Around}{R:Result→Shared→Prop}{s:Shared}{elt target iter:Expr}{scope:Scope}{pos:Pos}{it acc:Value}{env:Env}(I:Nat→Shared→Prop)
   (turn:∀ n s,I n s→∀ E:Value→Shared→Prop,wpAny (model prog w) A (pyNext it) (fun r s₁=>match r with
     | none=>R (.ok .next) s₁
     | some v=>wpAny (model prog w) A (letOwnedTupleGo target it v) (fun _ s₁'=>wpAny (model prog w) A (assign target env v) (fun _ s₂=>wpAny (model prog w) A (eval elt env) (fun x s₃ =>
         wpAny (model prog w) A (call (.builtin "list.append") [acc,x]) (fun _ s₄=>∃ m,m < n∧I m s₄) E s₃) E s₂) E s₁') E s₁) E s)
   (n:Nat)(h:I n s) :
   codeAny (model prog w) A (.compLoop (.ListComp elt [⟨target,iter,[],0⟩] scope pos) 0 it acc env) R s:=by
 refine codeAny_loop rfl I (fun n s hI=>?_) n h;show wpAny _ _ ((compTurn (.ListComp elt [⟨target,iter,[],0⟩] scope pos) 0 it acc env).onRaise (fun x=>do noteFrame x env;theTreesLotGoes x)) _ _ s;refine wpAny_noted ?_;rw[compTurn_list1];refine wpAny_bind (wpAny_standAt (wpAny_bind (wpAny_mono (turn n s hI _) (fun r s₁ h₁=>?_) fun _ _ h'=>h')))
 cases r with
 | none=>exact wpAny_pure h₁
 | some v =>
   refine wpAny_bind (wpAny_mono h₁ (fun _ s₁' h₁=>?_) fun _ _ h'=>h')
   exact wpAny_bind (wpAny_mono h₁ (fun _ s₂ h₂=>wpAny_bind (wpAny_bind (wpAny_mono h₂ (fun x s₃ h₃=>wpAny_bind (wpAny_mono h₃
     (fun _ s₄ h₄=>wpAny_pure (wpAny_pure ⟨rfl,h₄⟩)) fun _ _ h'=>h')) fun _ _ h'=>h'))) fun _ _ h'=>h')
def oM (J:It)(g:TG)(te:TE)(D:Addr)(Q:Hp→Prop) (σ:St)(H:Hp):Prop :=
 ∃ W:Nat→Nat→St→Hp→Prop,(∃ m,W 0 m σ H)∧∀ i m σ' H',W i m σ' H' →
   (J.stop i H'∧Q H')∨(J.go i H'∧∃ N:St→Hp→Prop,(∀ σ'' H'',N σ'' H''→∃ m',m' < m∧W (i+1) m' σ'' H'') ∧
     ∀ x H2,J.yld i H' x H2→g x σ' H2 fun σ2 H3=>te σ2 H3 fun v H4=>∃ xs,H4 D=some (.lst xs)∧xs.length < sizeLine∧N σ2 (upd H4 D (.lst (xs++[v]))))
section
variable {X:Cx}{pins:List (Addr×Obj)}{σ:St}{H:Hp}{s:Shared}{scope:Scope}{N':List Str}{pk:List (Option Nat)}{fp:List Addr}
theorem pi {elt tg iter:Expr}{g:TG}{te:TE}{J:It}{it:Addr}{tn:Nat→Heap→Prop}{pos:Pos}{QD:Addr→Hp→Prop}{E:Value→Shared→Prop}{RR:Value→Addr→Result→Shared→Prop}
   (I:Inv X pins σ H s)(B:bW X.N X.env scope N' pk)(hc:X.calm=true)(T:oj X.prog X.w X.K tg J fp it tn)(st:tn 0 s.heap)(hf:∀ b∈fp,fq X pins H b)
   (hg:∀ s H ex,PG (cxB X N' scope s H ex) tg g)(he:∀ s H ex,PE (cxB X N' scope s H ex) elt te)
   (hW:∀ D,H D=none→oM J g te D (QD D) (f7 pk σ) (upd H D (.lst [])))
   (fin:∀ D C s' H' m,Inv X pins σ H' s'→fq X pins H' C→s'.heap.Ns C m→QD D H'→RR (.ref D) C (.ok .next) s') :
   wpAny (model X.prog X.w) X.A (newList []) (fun acc s₃=>wpAny (model X.prog X.w) X.A (newFunctionEnv scope X.env.globals (jj scope X.env) [] X.env.qual none .none (some X.env)) (fun cenv s₄ =>
     codeAny (model X.prog X.w) X.A (.compStart (.ListComp elt [⟨tg,iter,[],0⟩] scope pos) 0 (.ref it) acc { cenv with scope:=relabel scope X.env }) (RR acc cenv.locals) s₄) E s₃) E s:=by
 have hD0:H s.heap.objs.size=none:=I.hok.fresh (zR _);refine wpAny_newObj_type (wpAny_newFunctionEnv B.nocell (by intro y hy;simp at hy) (fun h₁ hns₁ hsb₁=>?_) B.kind);dsimp only at hns₁ hsb₁ ⊢;have I3:Inv X pins σ (upd H s.heap.objs.size (.lst [])) { s with heap:=s.heap.push { cls:=.type "list",dict:=none,data:=.seq ([]:List Value).toArray } }:=I.lnew (t':=s.toks) .nil (AF _);obtain⟨W,⟨m0,w0⟩,turn⟩:=hW _ hD0;generalize hs3:({ s with heap:=s.heap.push { cls:=.type "list",dict:=none,data:=.seq ([]:List Value).toArray } }:Shared)=s3 at I3
 have eh:s.heap.push { cls:=.type "list",dict:=none,data:=.seq ([]:List Value).toArray }=s3.heap:=by rw[←hs3]
 have hold:∀ b o,s.heap.get? b=some o→s3.heap.get? b=some o:=fun b o e=>by rw[←eh];exact Heap.get?_push_of_some _ e
 rw[eh] at hns₁ hsb₁;have hs:∀ b o,s3.heap.get? b=some o→h₁.get? b=some o:=fun b o e=>hsb₁.extBut b o (Aa (Heap.lt_size e)) (Heap.get?_push_of_some _ e)
 have hf3:∀ b∈fp,fq X pins (upd H s.heap.objs.size (.lst [])) b:=fun b hb=>by
   refine⟨?_,(hf b hb).2⟩;obtain⟨o,e,_⟩:=T.obj 0 _ st b hb;rw[ai (Aa (Heap.lt_size e))];exact(hf b hb).1
 have ho3:∀ b∈fp,∃ o,s3.heap.get? b=some o:=fun b hb=>by
   obtain⟨o,e,_⟩:=T.obj 0 _ st b hb;exact⟨o,hold _ _ e⟩
 have st1:tn 0 h₁:=T.keep 0 _ _ st fun b hb o e=>hs b o (hold b o e)
 have esh:∀ t,({ s with heap:=h₁,toks:=t }:Shared)={ s3 with heap:=h₁,toks:=t }:=fun t=>by rw[←hs3]
 have loop:∀ t,codeAny (model X.prog X.w) X.A (.compLoop (.ListComp elt [⟨tg,iter,[],0⟩] scope pos) 0 (.ref it) (.ref s.heap.objs.size) (compEnvC scope (jj scope X.env) s3.heap.objs.size X.env))
     (RR (.ref s.heap.objs.size) s3.heap.objs.size) { s with heap:=h₁,toks:=t }:=fun t=>by
   rw[esh t];have IB:Inv (cxB X N' scope s3 (upd H s.heap.objs.size (.lst [])) fp) [] (f7 pk σ) (upd H s.heap.objs.size (.lst [])) { s3 with heap:=h₁,toks:=t }:=rW I3 B hf3 ho3 hns₁ hs
   have f2:∀ b∈fp,fq (cxB X N' scope s3 (upd H s.heap.objs.size (.lst [])) fp) [] (upd H s.heap.objs.size (.lst [])) b:=fun b hb =>
     ⟨(hf3 b hb).1,(IB.ok.exf b hb).1,IB.ok.exfs b hb,.inl hb,(IB.ok.exf b hb).2,fun p hp=>absurd (show p∈([]:List (Addr×Obj)) from hp) (by simp)⟩
   have stat:∀ {H':Hp},(∀ b∈fp,H' b=none)→∀ b∈fp,fq (cxB X N' scope s3 (upd H s.heap.objs.size (.lst [])) fp) [] H' b:=fun hn b hb=>⟨hn b hb,(f2 b hb).2⟩;refine nv (fun n s'=>∃ i σ' H',Inv (cxB X N' scope s3 (upd H s.heap.objs.size (.lst [])) fp) [] σ' H' s'∧tn i s'.heap∧(∀ b∈fp,H' b=none)∧W i n σ' H') ?_ m0 ⟨0,_,_,IB,st1,fun b hb=>(f2 b hb).1,w0⟩;rintro n s4 ⟨i,σ4,H4,I4,st4,fr4,w4⟩ E'
   rcases turn i n σ4 H4 w4 with ⟨stop,qn⟩ | ⟨go,N,hN,step⟩
   . refine thn (T.done (cxB X N' scope s3 (upd H s.heap.objs.size (.lst [])) fp) rfl rfl rfl hc i [] s4 σ4 H4 E' I4 (stat fr4) st4 stop) fun r s5 ⟨hr,I5⟩=>?_;subst hr;obtain⟨m5,hn5,_⟩:=I5.loc;have IX:Inv X pins σ H4 s5:=I3.call' (ch:=fp) I5.os I5.base I5.hok I5.bare fun b hb=>⟨(hf3 b hb).2.2.2.1,(hf3 b hb).2.1,(hf3 b hb).2.2.2.2.1,(hf3 b hb).2.2.2.2.2⟩;exact fin _ _ s5 H4 m5 IX (I3.fpOk (zR _) I5.free) hn5 qn
   . refine thn (T.item (cxB X N' scope s3 (upd H s.heap.objs.size (.lst [])) fp) rfl rfl rfl hc i [] s4 σ4 H4 E' I4 (stat fr4) st4 go) fun r s5 ⟨u,hr,h5⟩=>?_;subst hr;refine thn h5 fun _ s6 ⟨x,H6,I6,r6,y6,st6,fr6⟩=>?_;have I6':=I6.pinned (stat fr6) (T.obj _ _ st6);refine wpAny_mono (hg _ _ _ s6 σ4 H6 x u _ I6' r6 (step x H6 y6)) (fun _ s7 ⟨σ7,H7,I7,q7⟩=>?_) fun _ _ z=>False.elim z;refine wpAny_mono (he _ _ _ s7 σ7 H7 _ I7 q7) (fun w s8 ⟨v,H8,I8,r8,xs,hx8,hl8,n8⟩=>?_) fun _ _ z=>False.elim z;refine wpAny_mono (bR (X:=cxB X N' scope s3 (upd H s.heap.objs.size (.lst [])) fp) _ s8 σ7 H8 (.ref s.heap.objs.size) [v] (.ref s.heap.objs.size) [w] (fun _ H9=>N σ7 H9) I8 rfl (.cons r8 .nil) ⟨_,xs,v,rfl,rfl,hx8,hl8,n8⟩) (fun _ s9 ⟨_,H9,I9,_,n9⟩=>?_) fun _ _ z=>False.elim z;obtain⟨m',hm,w9⟩:=hN σ7 H9 n9;refine⟨m',hm,i+1,σ7,H9,I9.unpinned,T.keep _ _ _ st6 fun b hb o e=>(I9.pin (b,o) (Ai _ (Ai _ (dh hb e)))).1,fun b hb=>?_,w9⟩;obtain⟨o,e,d⟩:=T.obj _ _ st6 b hb;exact(I9.pin (b,o) (Ai _ (Ai _ (dh hb e)))).2.1
 rw[←eh] at loop;exact codeAny_compStart_list (loop _) (T.self _ _ _ _ _ st1 (loop _))
theorem Inv.gone {h':Heap}{C:Addr}(I:Inv X pins σ H s)(f:fq X pins H C)(hs:Heap.SameBut C s.heap h'):Inv X pins σ H { s with heap:=h' } :=
 I.turned (t':=s.toks) (it:=C) (fun b o hb e=>hs.extBut b o hb e) f.1 f.2.1 f.2.2.2.1 f.2.2.2.2.1 f.2.2.2.2.2
def sq (pk:List (Option Nat))(wi:TI)(g:TG)(te:TE):TE:=fun σ H Q=>wi σ H fun J H1=>∀ D,H1 D=none→oM J g te D (fun H'=>Q (.ref D) H') (f7 pk σ) (upd H1 D (.lst []))
theorem fk {elt tg iter:Expr}{wi:TI}{g:TG}{te:TE}{pos:Pos}(hc:X.calm=true)(B:bW X.N X.env scope N' pk)(hi:PI X tg iter wi)
   (hg:∀ s H ex,PG (cxB X N' scope s H ex) tg g)(he:∀ s H ex,PE (cxB X N' scope s H ex) elt te)(hs:∀ x,foldedSetIterable iter X.env x=pure x:=by intro _;rfl) :
   PE X (.ListComp elt [⟨tg,iter,[],0⟩] scope pos) (sq pk wi g te):=by
 intro pins s σ H Q I h;rw[eval_ListComp];have hclos:=ff (gR I B);refine wpAny_comprehension_free (use:=none) rfl hs hclos B.kind B.names (thn (hi s σ H _ I h) fun v s1 h1=>thn h1 fun itv s2 h2=>?_);obtain⟨it,fp,tn,J,H2,e,I2,T,st2,f2,hW⟩:=h2;subst e;refine pi (QD:=fun D H'=>Q (.ref D) H') (RR:=fun acc C=>compPost (model X.prog X.w) X.A X.xe none (EP X pins σ Q) acc C) I2 B hc T st2 f2 hg he hW fun D C s' H' m I' f' hn q=>?_;exact⟨m,hn,fun h' hs'=>⟨.ref D,H',I'.gone f' hs',rfl,q⟩⟩
theorem jw {i:Nat}{y:Str}{elt tg iter:Expr}{wi:TI}{g:TG}{te:TE}{pos spos py:Pos}(hN:X.N.Nodup)(hiy:X.N[i]?=some y)(hy:Loc X.env.scope y)(hc:X.calm=true)(B:bW X.N X.env scope N' pk)(hi:PI X tg iter wi)
   (hg:∀ s H ex,PG (cxB X N' scope s H ex) tg g)(he:∀ s H ex,PE (cxB X N' scope s H ex) elt te)
   (hsw:swapsWith (.ListComp elt [⟨tg,iter,[],0⟩] scope pos) (some (.Name y py)) spos.line X.env=pure true:=by rfl)
   (hs:∀ x,foldedSetIterable iter X.env x=pure x:=by intro _;rfl)(hf:X.fn y=true∨X.env.scope.names.lookup y=some .local:=by first | exact .inl rfl | exact .inr rfl | assumption) :
   PS X (.Assign [.Name y py] (.ListComp elt [⟨tg,iter,[],0⟩] scope pos) spos) (qa (sq pk wi g te) (bx i)):=by
 intro pins s σ H D0 I h;rw[exec_Assign_Name_used _ _ _ _ hsw];have hclos:=ff (gR I B);refine wpAny_bind (wpAny_standAt (wpAny_bind ?_));show wpAny _ X.A (do let _ ←comprehension (.ListComp elt [⟨tg,iter,[],0⟩] scope pos) scope X.env _ (newList []) false (eval iter X.env) (some (assign (.Name y py) X.env))) _ _ s
 refine wpAny_bind (wpAny_mono (wpAny_comprehension_free (use:=some (assign (.Name y py) X.env)) (Q:=fun _ s'=>SP X pins D0 .next s') rfl hs hclos B.kind B.names
   (thn (hi s σ H _ I h) fun v s1 h1=>thn h1 fun itv s2 h2=>?_)) (fun _ s' hq=>wpAny_pure (wpAny_pure hq)) fun _ _ e=>e)
 obtain⟨it,fp,tn,J,H2,e,I2,T,st2,f2,hW⟩:=h2;subst e;refine pi (QD:=fun D H'=>D0.nx (σ.set i (some (.ref D))) H') (RR:=fun acc C=>compPost (model X.prog X.w) X.A X.xe (some (assign (.Name y py) X.env)) (fun _ s'=>SP X pins D0 .next s') acc C) I2 B hc T st2 f2 hg he hW fun D C s' H' m I' f' hn q=>?_;show wpAny _ X.A (assign (.Name y py) X.env (.ref D)) _ _ _;refine wpAny_assign_Name (iL (v:=.ref D) I' hN hiy hy rfl (fun s3 I3 ⟨a,hsa,ha⟩=>?_) hf)
 have hCa:C≠a:=by
   rcases ha with z | z
   . rw[z];exact f'.2.1
   . exact fun e=>f'.2.2.2.2.1 _ _ z e.symm
 exact⟨m,hn.sameBut hsa hCa,fun h' hs'=>⟨_,H',I3.gone f' hs',q⟩⟩
end
def Itw (n:Nat)(vs:Nat→V→Prop):It:=⟨fun i _=>i < n,fun i H x H'=>H'=H∧vs i x,fun i _=>i=n⟩
theorem lB {P:Program}{w:World}{K:PySem.W.Frag}{tg:Expr}{it:Addr}{n:Nat}{PV:Nat→Value→Prop}{St:Nat→Heap→Prop}{vs:Nat→V→Prop}
   (W:∀ A':Around,A'.handled=none→Walks P w A' it [it] [it] n PV St)
   (hobj:∀ i h,St i h→∃ o nm fv,h.get? it=some o∧o.cls=.type nm∧o.data=.fields fv∧["enumerate", "zip", "dict_itemiterator", "dict_reverseitemiterator", "odict_iterator", "itertools.zip_longest", "itertools.pairwise"].contains nm=false)
   (hv:∀ i v,PV i v→∃ x,vs i x∧ba x v)(hself:∀ (A:Around) (i:Nat)(s:Shared)(Q:Value→Shared→Prop)(E:Value→Shared→Prop),St i s.heap→Q (.ref it) s→wpAny (model P w) A (pyIter (.ref it)) Q E s):oj P w K tg (Itw n vs) [it] it St where
 mem:=by simp
 obj:=fun i h st b hb=>by
   have e:b=it:=by simpa using hb
   subst e;obtain⟨o,nm,fv,e,_,hd,_⟩:=hobj i h st;exact⟨o,e,fun v z=>by rw[hd] at z;cases z⟩
 keep:=fun i h h' st k=>(W { depth:=0,units:=0,handled:=none,frames:=none } rfl).frame i h h' st k
 item:=by
   intro X hP hw hK hc i pins s σ H E I hf st hg;subst hP hw hK;obtain⟨f0,f1,f2,f3,f4,f5⟩:=hf it (by simp);refine(W X.A (I.ok.hd hc)).item i s _ _ hg st fun v h' tk hv' st' kk=>?_;have I1:Inv X pins σ H { s with heap:=h',toks:=tk }:=I.turned (fun b o hb e=>kk b o (by simpa using hb) e) f0 f1 f3 f4 f5;obtain⟨o,nm,fv,e,hcl,hd,hnm⟩:=hobj _ _ st';obtain⟨x,hx,rx⟩:=hv i v hv';exact⟨_,rfl,oa (s:={ s with heap:=h',toks:=tk }) e hcl hd hnm ⟨x,H,I1,rx,⟨rfl,hx⟩,st',fun b hb=>(hf b hb).1⟩⟩
 done:=by
   intro X hP hw hK hc i pins s σ H E I hf st hg;subst hP hw hK;obtain⟨f0,f1,f2,f3,f4,f5⟩:=hf it (by simp);have e:i=n:=hg;subst e;exact(W X.A (I.ok.hd hc)).done s _ _ st fun h' tk kk=>⟨rfl,I.turned (fun b o hb e=>kk b o (by simpa using hb) e) f0 f1 f3 f4 f5⟩
 self:=hself
def sgn (c:Nat):V:=.str ⟨#[c]⟩
def xP (tl:TE):TI:=fun σ H R=>tl σ H fun x H1=>∃ z:Str,x=.str z∧R (Itw z.cps.size fun i v=>∃ c,z.cps[i]?=some c∧v=sgn c) H1
theorem uU {X:Cx}{tg l:Expr}{tl:TE}(hl:PE X l tl):PI X tg l (xP tl):=by
 intro pins s σ H R I h;refine thn (hl s σ H _ I h) fun v s1 ⟨x,H1,I1,r1,q1⟩=>?_;obtain⟨z,e,q⟩:=q1;subst e;obtain⟨t,rfl⟩:=r1
 have fp:∀ o:Obj,∀ b∈[s1.heap.objs.size],fq X pins H1 b:=fun o b hb=>by
   have e:b=s1.heap.objs.size:=by simpa using hb
   subst e;exact I1.fpOk (zR _) (I1.hok.fresh (zR _))
 cases ha:z.cps.all (· < 128)
 . refine wpAny_pyIter_wide ha ?_;refine⟨s1.heap.objs.size,[s1.heap.objs.size],_,_,H1,rfl,I1.kept (t':=s1.toks) fun b o e=>Heap.get?_push_of_some _ e,lB (fun A' hA=>Walks.strWide hA _ z t) ?_ ?_ ?_,⟨_,Heap.get?_push_size _ rfl,rfl,rfl⟩,fp default,q⟩
   . rintro i h ⟨o,e,hc,hd⟩;exact⟨o,_,_,e,hc,hd,by decide⟩
   . rintro i v ⟨c,u,hc,rfl⟩;exact⟨sgn c,⟨c,hc,rfl⟩,⟨u,rfl⟩⟩
   . exact fun A i s Q E st hq=>wpAny_pyIter_striter_wide st hq
 . refine wpAny_pyIter_ascii ha ?_;refine⟨s1.heap.objs.size,[s1.heap.objs.size],_,_,H1,rfl,I1.kept (t':=s1.toks) fun b o e=>Heap.get?_push_of_some _ e,lB (fun A' hA=>Walks.strAscii hA _ z t) ?_ ?_ ?_,⟨_,Heap.get?_push_size _ rfl,rfl,rfl⟩,fp default,q⟩
   . rintro i h ⟨o,e,hc,hd⟩;exact⟨o,_,_,e,hc,hd,by decide⟩
   . rintro i v ⟨c,u,hc,rfl⟩;exact⟨sgn c,⟨c,hc,rfl⟩,⟨u,rfl⟩⟩
   . exact fun A i s Q E st hq=>wpAny_pyIter_striter_ascii st hq
theorem gG {ss:List Str}:∀ {us:List Value},Vals (ss.map V.str) us→StrsAre us ss:=by
 induction ss with
 | nil=>intro us r;rw[Bl] at r;cases r;exact .nil
 | cons n ns ih =>
   intro us r;rw[Ac] at r
   cases r with
   | cons r1 r2 =>
     obtain⟨t,e⟩:=r1;subst e;exact .cons n t (ih r2)
theorem iq {ss:List Str}{us:List Value}(h:StrsAre us ss):Vals (ss.map V.str) us:=by
 induction h with
 | nil=>exact .nil
 | cons y t r ih=>exact .cons ⟨t,rfl⟩ ih
theorem wk {X:Cx}:MtR X "str.join" (fun x vs H Q=>∃ (z:Str)(a:Addr)(ss:List Str),x=.str z∧vs=[.ref a]∧SqL X.K H a (ss.map V.str)∧(ss.map (·.length)).sum+ss.length*z.length≤16777216∧Q (.str (Txt.join z ss)) H):=by
 intro pins s σ H x xs v us Q I rx rs h;obtain⟨z,a,ss,rfl,rfl,ha,hz,q⟩:=h;obtain⟨t,rfl⟩:=rx;obtain⟨u,rfl,ru⟩:=rs.one;cases ru;obtain⟨its,r,pl,_⟩:=I.list ha;exact join_list pl.isList (by simpa using gG r) hz fun t' k=>⟨.str _,H,I.tok _,⟨t',rfl⟩,q⟩
theorem wj {bs:List Bool}:∀ {us:List Value}{i:Nat}{v:Value},Vals (bs.map V.bl) us→us[i]?=some v→∃ b,bs[i]?=some b∧v=.bool b:=by
 induction bs with
 | nil=>intro us i v r h;rw[Bl] at r;cases r;simp at h
 | cons b bs ih =>
   intro us i v r h;rw[Ac] at r
   cases r with
   | cons r1 r2 =>
     cases i with
     | zero=>simp at h;subst h;exact⟨b,rfl,r1⟩
     | succ i=>obtain⟨c,h1,h2⟩:=ih r2 (by simpa using h);exact⟨c,by simpa using h1,h2⟩
theorem wg {X:Cx}(hc:X.calm=true):cq X (.builtin "all") (fun xs H Q=>∃ (a:Addr)(bs:List Bool),xs=[.ref a]∧SqL X.K H a (bs.map V.bl)∧Q (.bl (bs.all id)) H):=by
 intro pins s σ H xs us Q I r h;obtain⟨a,bs,rfl,ha,q⟩:=h;obtain⟨u,rfl,ru⟩:=ej r;cases ru;obtain⟨its,rv,pl,_⟩:=I.list ha;have hl:=pl.isList
 have hlt:a < s.heap.objs.size:=by obtain⟨_,e,_⟩:=hl;exact Heap.lt_size e
 refine call_all_walk (wpAny_pyIter_list hl ?_)
 refine⟨s.heap.objs.size,[s.heap.objs.size,a],[s.heap.objs.size],its.toArray.size,_,_,fun i=>(bs[i]?).getD true,rfl,Walks.list (A:=X.A.in1) (I.ok.hd hc) _ a (Aa hlt) its.toArray,
   ⟨⟨_,Heap.get?_push_size _ rfl,rfl,rfl⟩,hl.push _⟩,fun i v s' Q' E' hP hQ=>?_,fun h' tk hk=>?_⟩
 . obtain⟨b,e,rfl⟩:=wj rv (by simpa using hP);simp only[e,BC] at hQ;exact wpAny_truthy_bool hQ
 . have hn:=rv.length;rw[be] at hn
   have e:((zW its.toArray.size).all fun i=>(bs[i]?).getD true)=bs.all id:=by
     rw[z6,←hn];exact LSm.range_all bs
   rw[e];exact⟨.bl _,H,I.kept (LSm.kept_iter hk),rfl,q⟩
theorem cp {X:Cx}:cq X (.builtin "isinstance") (fun xs H Q=>∃ x c t b,xs=[x,.ty c]∧cx X.K H x t∧Ag X.K t (.type c)=some b∧Q (.bl b) H):=by
 intro pins s σ H xs us Q I r h;obtain⟨x,c,t,b,rfl,ty,e,q⟩:=h;obtain⟨u,w',rfl,r1,r2⟩:=lE r;cases r2;exact lH I r1 ty e fun tk=>⟨.bl b,H,I.tok _,rfl,q⟩
theorem eR {X:Cx}:OpR X (binaryOp .FloorDiv) (rI (fun _ j=>0 < j∧j < 2 ^ 64) fun i j=>.int (i / j)):=opI fun i j _ _ _ _ _ hc q=>by
 obtain⟨h1,h2⟩:=hc;refine floordiv_int (by omega) (by rw[Int.fdiv_eq_ediv_of_nonneg i (by omega)];exact q) (.inl (PyProof.noPylong_of_log2 ?_))
 have h0:j.natAbs≠0:=by omega
 have:j.natAbs.log2 < 64:=(Nat.log2_lt h0).mpr (by omega);omega
structure d6 (J:It)(H1:Hp) (n:Nat)(vs:Nat→V→Prop):Prop where
 go:∀ i H',i < n→af H1 H'→J.go i H'
 yld:∀ i H' x H2,i < n→af H1 H'→J.yld i H' x H2→H2=H'∧vs i x
 stop:∀ H',af H1 H'→J.stop n H'
theorem jf {H1:Hp}{n:Nat}{vs:Nat→V→Prop}:d6 (Itw n vs) H1 n vs:=⟨fun _ _ h _=>h,fun _ _ _ _ _ _ h=>h,fun _ _=>rfl⟩
theorem br {H1:Hp}{lo:Int}{n:Nat}:d6 (Itr lo n) H1 n (fun i x=>x=.int (lo+i)):=⟨fun _ _ h _=>h,fun _ _ _ _ _ _ h=>h,fun _ _=>zR _⟩
theorem aG {K:PySem.W.Frag}{H1:Hp}{a:Addr}{xs:List V}(h:SqL K H1 a xs):d6 (Itl K a) H1 xs.length (fun i x=>xs[i]?=some x) :=
 ⟨fun i H' hi s=>⟨xs,xs[i],s.seq h,by simp[hi]⟩,fun i H' x H2 hi s y=>⟨y.1,y.2 xs (s.seq h)⟩,fun H' s=>⟨xs,s.seq h,zR _⟩⟩
theorem af.sqT {K:PySem.W.Frag}{H H':Hp}{a:Addr}{xs:List V}(e:af H H')(h:SqT K H a xs):SqT K H' a xs:=by
 rcases h with (h | ⟨o,h⟩) | h
 . exact .inl (.inl (e _ _ h))
 . exact .inl (.inr ⟨o,e _ _ h⟩)
 . exact .inr h
theorem qo {K:PySem.W.Frag}{H1:Hp}{a:Addr}{xs:List V}(h:SqT K H1 a xs):d6 (Itt K a) H1 xs.length (fun i x=>xs[i]?=some x) :=
 ⟨fun i H' hi s=>⟨xs,xs[i],s.sqT h,by simp[hi]⟩,fun i H' x H2 hi s y=>⟨y.1,y.2 xs (s.sqT h)⟩,fun H' s=>⟨xs,s.sqT h,zR _⟩⟩
theorem af.updN {H:Hp}{D:Addr}{o:HO}(h:H D=none):af H (upd H D o):=fun b u e=>by rw[ai (aF e h)];exact e
theorem af.step {H0 H:Hp}{D:Addr}{o:HO}(s:af H0 H)(h:H0 D=none):af H0 (upd H D o):=fun b u e=>by rw[ai (aF e h)];exact s b u e
theorem rq {J:It}{n:Nat}{vs:Nat→V→Prop}{g:TG}{te:TE}{D:Addr}{Q:Hp→Prop}{σ:St}{H0 H:Hp}(S:d6 J H0 n vs)(hn:n≤sizeLine)(Pv:Nat→List V→St→Hp→Prop)
   (h0:Pv 0 [] σ H)(hsame:∀ i xs σ' H',Pv i xs σ' H'→af H0 H'∧xs.length=i)
   (step:∀ i xs σ' H' x,i < n→vs i x→Pv i xs σ' H'→∀ R:V→St→Hp→Prop,(∀ v σ2 H4,H4 D=some (.lst xs)→Pv (i+1) (xs++[v]) σ2 (upd H4 D (.lst (xs++[v])))→R v σ2 H4)→g x σ' H' fun σ2 H3=>te σ2 H3 fun v H4=>R v σ2 H4)
   (fin:∀ xs σ' H',Pv n xs σ' H'→Q H'):oM J g te D Q σ H:=by
 refine⟨fun i m σ' H'=>m=n - i∧i≤n∧∃ xs,Pv i xs σ' H',⟨n,by simp,AF _,[],h0⟩,?_⟩;rintro i m σ' H' ⟨rfl,hi,xs,p⟩;obtain⟨sm,hl⟩:=hsame _ _ _ _ p;by_cases hlt:i < n
 . refine .inr ⟨S.go i H' hlt sm,fun σ2 H2=>∃ ys,Pv (i+1) ys σ2 H2,fun σ2 H2 ⟨ys,p'⟩=>⟨n - (i+1),by omega,rfl,hlt,ys,p'⟩,fun x H2 y=>?_⟩;obtain⟨e,hv⟩:=S.yld i H' x H2 hlt sm y;subst e;exact step i xs σ' _ x hlt hv p (fun v σ2 H4=>∃ xs,H4 D=some (.lst xs)∧xs.length < sizeLine∧∃ ys,Pv (i+1) ys σ2 (upd H4 D (.lst (xs++[v])))) fun v σ2 H4 a b=>⟨xs,a,by omega,_,b⟩
 . have e:i=n:=by omega
   subst e;exact .inl ⟨S.stop H' sm,fin xs σ' H' p⟩
theorem cG {J:It}{n:Nat}{vs:Nat→V→Prop}{g:TG}{te:TE}{D:Addr}{Q:Hp→Prop}{σ:St}{H:Hp}(S:d6 J H n vs)(hn:n≤sizeLine)(hD:H D=none)(Pσ:St→Prop)(out:Nat→V)
   (h0:Pσ σ)(step:∀ i x σ' H',i < n→vs i x→Pσ σ'→af H H'→∀ R:V→St→Hp→Prop,(∀ σ2,Pσ σ2→R (out i) σ2 H')→g x σ' H' fun σ2 H3=>te σ2 H3 fun v H4=>R v σ2 H4)
   (fin:Q (upd H D (.lst ((zW n).map out)))):oM J g te D Q σ (upd H D (.lst [])):=by
 refine⟨fun i m σ' H'=>m=n - i∧i≤n∧Pσ σ'∧H'=upd H D (.lst ((zW i).map out)),⟨n,by simp,AF _,h0,rfl⟩,?_⟩;rintro i m σ' H' ⟨rfl,hi,p,rfl⟩;have sm:af H (upd H D (.lst ((zW i).map out))):=af.updN hD;by_cases hlt:i < n
 . refine .inr ⟨S.go i _ hlt sm,fun σ2 H2=>Pσ σ2∧H2=upd H D (.lst ((zW (i+1)).map out)),fun σ2 H2 ⟨p',e⟩=>⟨n - (i+1),by omega,rfl,hlt,p',e⟩,fun x H2 y=>?_⟩;obtain⟨e,hv⟩:=S.yld i _ x H2 hlt sm y;subst e;refine step i x σ' _ hlt hv p sm (fun v σ2 H4=>∃ xs,H4 D=some (.lst xs)∧xs.length < sizeLine∧Pσ σ2∧upd H4 D (.lst (xs++[v]))=upd H D (.lst ((zW (i+1)).map out))) fun σ2 p2=>?_;refine⟨(zW i).map out,ac,by rw[be,A1];omega,p2,?_⟩;rw[gP,Bg,zU,Bt]
 . have e:i=n:=by omega
   subst e;exact .inl ⟨S.stop _ sm,fin⟩
def vA (J:It)(g:TG)(tb:TS)(D:gk) (σ:St)(H:Hp):Prop :=
 ∃ W:Nat→Nat→St→Hp→Prop,(∃ m,W 0 m σ H)∧∀ i m σ H,W i m σ H →
   (J.stop i H∧D.nx σ H)∨(J.go i H∧∃ N:St→Hp→Prop,(∀ σ' H',N σ' H'→∃ m',m' < m∧W (i+1) m' σ' H')∧∀ x H',J.yld i H x H'→g x σ H' fun σ2 H2=>tb { D with nx:=N,ct:=N,bk:=D.nx } σ2 H2)
theorem sf (wi:TI)(g:TG)(tb:TS)(D:gk) (σ:St)(H:Hp):zl wi g tb D σ H=wi σ H fun J H1=>vA J g tb D σ H1:=rfl
theorem bg {J:It}{H0:Hp}{n:Nat}{vs:Nat→V→Prop}{g:TG}{tb:TS}{D:gk}{σ:St}{H:Hp}(S:d6 J H0 n vs)(Pv:Nat→St→Hp→Prop)(h0:Pv 0 σ H)(hsame:∀ i σ H,i≤n→Pv i σ H→af H0 H)
   (hs:∀ i x σ H,i < n→vs i x→Pv i σ H→g x σ H fun σ2 H2=>tb { D with nx:=Pv (i+1),ct:=Pv (i+1),bk:=D.nx } σ2 H2)(hd:∀ σ H,Pv n σ H→D.nx σ H):vA J g tb D σ H:=by
 refine⟨fun i m σ H=>m=n - i∧i≤n∧Pv i σ H,⟨n,by simp,AF _,h0⟩,?_⟩;rintro i m σ H ⟨rfl,hi,p⟩;have sm:=hsame i σ H hi p;by_cases hlt:i < n
 . refine .inr ⟨S.go i H hlt sm,Pv (i+1),fun σ' H' p'=>⟨n - (i+1),by omega,rfl,hlt,p'⟩,fun x H' y=>?_⟩;obtain⟨e,hv⟩:=S.yld i H x H' hlt sm y;subst e;exact hs i x σ _ hlt hv p
 . have e:i=n:=by omega
   subst e;exact .inl ⟨S.stop H sm,hd σ H p⟩
def xO (t u:TS):TS:=fun D σ H=>∃ Pv:St→Hp→Prop,t { D with nx:=Pv } σ H∧∀ σ' H',Pv σ' H'→u D σ' H'
theorem aj {X:Cx}{st:Stmt}{cE:List Stmt}{t u:TS}(h1:PS X st t)(h2:PSs X cE u):PSs X (st::cE) (xO t u):=by
 intro pins s σ H D I h;obtain⟨Pv,h,k⟩:=h;refine wpAny_execs_cons (thn (h1 s σ H { D with nx:=Pv } I h) fun f s1 q=>?_)
 cases f with
 | next =>
   obtain⟨σ',H',I',q⟩:=q;exact h2 s1 σ' H' D I' (k _ _ q)
 | ret v=>exact q
 | brk=>exact q
 | cont=>exact q
theorem cut {t u:TS}{D:gk}{σ:St}{H:Hp}(Pv:St→Hp→Prop)(h:t { D with nx:=Pv } σ H)(k:∀ σ' H',Pv σ' H'→u D σ' H'):xO t u D σ H:=⟨Pv,h,k⟩
def y8 (N:List Str)(on:List (Str×NameKind))(sc:Scope)(N':List Str)(pk:List (Option Nat)):Bool :=
 (sc.kind==.function)&&(sc.names.all fun y=>!(y.2==.cell))&&(sc.names.all fun y=>!(y.2==.local)||(sc.names.lookup y.1==some .local)) &&
 (sc.names.all fun y=>!(y.2==.free)||(on.lookup y.1==some .cell)||(on.lookup y.1==some .free))&&(pk.length==N'.length) &&
 ((zW pk.length).all fun i=>match pk[i]? with
   | some (some j)=>(match N'[i]? with | some x=>(N[j]?==some x)&&(sc.names.lookup x==some .free) | none=>false)
   | _=>true)
theorem bW.of {N:List Str}{env:Env}{sc:Scope}{N':List Str}{pk:List (Option Nat)}(h:y8 N env.scope.names sc N' pk=true):bW N env sc N' pk:=by
 unfold y8 at h;simp only[Bool.and_eq_true] at h;obtain⟨⟨⟨⟨⟨h1,h2⟩,h3⟩,h4⟩,h5⟩,h6⟩:=h;refine⟨by simpa using h1,fun y hy e=>?_,fun y hy e=>?_,fun y hy e=>?_,by simpa using h5,fun i x hx j hj=>?_⟩
 . have:=List.all_eq_true.mp h2 y hy;rw[e] at this;exact absurd this (by decide)
 . have:=List.all_eq_true.mp h3 y hy;rw[e] at this
   simpa using this
 . have:=List.all_eq_true.mp h4 y hy;rw[e] at this
   simpa [Bool.or_eq_true] using this
 . have hi:i < pk.length:=(List.getElem?_eq_some_iff.mp hj).1;have:=List.all_eq_true.mp h6 i (List.mem_range.mpr hi);rw[hj,hx] at this
   simpa [Bool.and_eq_true] using this
theorem aC {CX:CXT}{P:Program}{w:World}{K:PySem.W.Frag}{mg:Str→Option Value}{base:Heap}{N:List Str}{qual:Str}{scope:Scope}{f:Addr}{cd:Value}{A:Around}{outer:List Env}{s:Shared}{H:Hp}{E:XK}:(eO CX P w K mg base N qual scope f cd A outer s H E).K=K:=rfl
theorem aM {X:Cx}{N:List Str}{scope:Scope}{s:Shared}{H:Hp}{ex:List Addr}:(cxB X N scope s H ex).K=X.K:=rfl
theorem nL (N:List Str)(vs:List V):L2.start N vs=vs.map some++z8 (N.length - vs.length) none:=rfl
theorem u9 (c:Nat):sgn c=.str ⟨#[c]⟩:=rfl
def d7 (acc:List Str) (x:Str):List Str:=if x∈acc then acc else acc++[x]
def dP (l:List Str):List Str:=l.foldl d7 []
theorem lT (l:List Str) (x:Str):dP (l++[x])=d7 (dP l) x:=by unfold dP;rw[Ch];rfl
theorem nW (acc:List Str) (x:Str):(d7 acc x).length≤acc.length+1:=by unfold d7;split<;>simp
theorem gq (l:List Str):∀ i,(dP (l.take i)).length≤i
 | 0=>by simp[dP]
 | i+1=>by
   have ih:=gq l i
   cases h:l[i]? with
   | none =>
     have:l.length≤i:=List.getElem?_eq_none_iff.mp h;rw[AH (by omega)];rw[AH this] at ih;omega
   | some x =>
     rw[Bw,h];show(dP (l.take i++[x])).length≤i+1;rw[lT];have:=nW (dP (l.take i)) x;omega
section
variable {prog:Program}{w:World}
theorem v6 {h:Heap}{S:Addr}{acc:List Str}{x:Str}(hs:h.SetOf (strKind prog w) S (fun k=>decide (k∈acc)||decide (k=x)) (if decide (x∈acc)=true then acc.length else acc.length+1)) :
   h.SetOf (strKind prog w) S (fun k=>decide (k∈d7 acc x)) (d7 acc x).length:=by
 refine SetOf_congr hs (fun k=>?_) ?_
 . unfold d7;by_cases hx:x∈acc
   . rw[if_pos hx];by_cases hk:k=x
     . subst hk;simp[hx]
     . simp[hk]
   . rw[if_neg hx];rw[Bool.eq_iff_iff];simp
 . unfold d7;by_cases hx:x∈acc
   . rw[if_pos hx,if_pos (by simpa using hx)]
   . rw[if_neg hx,if_neg (by simpa using hx),zP];rfl
theorem vk {A:Around}{R:Result→Shared→Prop}{I S l:Addr}{items:Array Value}{ss:List Str}(hh:A.in1.handled=none)(hIl:l≠I)(hSI:S≠I)(hSl:S≠l)(hss:StrsAre items.toList ss)(hb:items.size+1 < scanBound) :
   ∀ (k i:Nat)(s:Shared),items.size - i=k→i≤items.size→s.heap.IsListIter I l i→s.heap.IsList l items→s.heap.SetOf (strKind prog w) S (fun x=>decide (x∈dP (ss.take i))) (dP (ss.take i)).length →
     (∀ h' tk,(∀ b o,b≠S→b≠I→s.heap.get? b=some o→h'.get? b=some o)→h'.SetOf (strKind prog w) S (fun x=>decide (x∈dP ss)) (dP ss).length→R (.ok (.ret .none)) { s with heap:=h',toks:=tk }) →
     codeAny (model prog w) A (.builtin "set.update.loop" ⟨[.ref S,.ref I],[]⟩) R s:=by
 have hlen:items.size=ss.length:=by rw[←hss.length];simp
 intro k
 induction k with
 | zero =>
   intro i s hk hi hit hl hS hR
   have e:i=items.size:=by omega
   subst e;refine codeAny_builtin PyProof.Rows.F.entry_set_update_loop ?_;rw[Around.under_plainId PyProof.Rows.F.plain_set_update_loop _];refine wpAny_bind (wpAny_pyNext_list_end hh hit hl (by simp) fun h' eb=>?_);rw[hlen,AI] at hS;refine wpAny_pure (hR h' s.toks (fun b o _ hb e=>eb b o hb e) ?_);obtain⟨o,es,ep,t,ho,cE⟩:=hS;exact⟨o,es,ep,t,eb S o hSI ho,cE⟩
 | succ k ih =>
   intro i s hk hi hit hl hS hR
   have hlt:i < items.size:=by omega
   obtain⟨x,hx⟩:∃ x,ss[i]?=some x:=⟨ss[i]'(by omega),zN (by omega)⟩
   obtain⟨t,ht⟩:∃ t,items[i]?=some (.str x t):=by
     obtain⟨u,hu,r⟩:=(iq hss).get (i:=i) (x:=V.str x) (by rw[zO,hx];rfl);obtain⟨t,rfl⟩:=r;exact⟨t,by simpa using hu⟩
   refine codeAny_builtin PyProof.Rows.F.entry_set_update_loop ?_;rw[Around.under_plainId PyProof.Rows.F.plain_set_update_loop _];refine wpAny_bind (wpAny_pyNext_list_item hit hl ht fun h' hit' sb=>?_)
   have hS':h'.SetOf (strKind prog w) S (fun x=>decide (x∈dP (ss.take i))) (dP (ss.take i)).length:=by
     obtain⟨o,es,ep,tb,ho,cE⟩:=hS;exact⟨o,es,ep,tb,(sb.2 S hSI).trans ho,cE⟩
   show wpAny _ A.in1 (holding [Value.str x t] (setAdd S (.str x t)) >>= _) _ _ _;refine wpAny_bind (wpAny_holding ?_);unfold setAdd;refine wpAny_holding (wpAny_bind ((strKind prog w).pyHash (k:=x) (strKind_is _ _ _ _) ?_))
   have hroom:(dP (ss.take i)).length+1 < scanBound:=by have:=gq ss i;omega
   refine wpAny_setAddHashed_of (knd:=strKind prog w) (strKind_is _ _ _ _) rfl hS' hroom fun h2 hsb hS2=>?_;have hS3:=v6 hS2
   have et:dP (ss.take (i+1))=d7 (dP (ss.take i)) x:=by rw[Bw,hx];exact lT _ _
   rw[←et] at hS3;refine wpAny_pure ⟨plainId_quiet PyProof.Rows.F.plain_set_update_loop _,ih (i+1) _ (by omega) hlt ?_ ?_ hS3 fun h3 tk kk hS4=>?_⟩
   . exact hit'.at fun o e=>(hsb.2 I (Ne.symm hSI)).trans e
   . exact hl.at fun o e=>(hsb.2 l (Ne.symm hSl)).trans ((sb.2 l hIl).trans e)
   . exact hR h3 tk (fun b o h1 h2' e=>kk b o h1 h2' ((hsb.2 b h1).trans ((sb.2 b h2').trans e))) hS4
end
section
variable {prog:Program}{w:World}{A:Around}{E:Value→Shared→Prop}{s:Shared}
theorem lM {T newId initId:String}{Bi:Builtin}{args:List Value}{Q Q1:Value→Shared→Prop}(ft:TypeCalled T newId initId)(hct:checkTypeCall T ⟨args,[]⟩=pure ())(hI:entryFor table initId=some Bi)
   (hnew:codeAny (model prog w) A.in1 (.call (.builtin newId) ⟨.type T::args,[]⟩) (wants Q1 E) s)
   (hinit:∀ obj s1,Q1 obj s1→s1.TypeIs obj T∧∀ E':Value→Shared→Prop,wpAny (model prog w) A.in1.in1 (checkBuiltinCall initId ⟨obj::args,[]⟩) (fun _ s2=>s2=s1) E' s1)
   (hbody:∀ obj s1,Q1 obj s1→wpAny (model prog w) A.in1.in1 (Bi ⟨obj::args,[]⟩)
       (fun fin s'=>match fin with | .done f=>wants (fun r s2=>r=.none∧Q obj s2) E (.ok f) s' | .again c'=>c'.quiet=true∧codeAny (model prog w) A.in1 c' (wants (fun r s2=>r=.none∧Q obj s2) E) s')
       (fun e s'=>wants (fun r s2=>r=.none∧Q obj s2) E (.error e) s') s1):wpAny (model prog w) A (call (.type T) args) Q E s:=by
 have hmade:=ft.made;have hsub:=ft.sub;obtain⟨c,tl,hmro⟩:=ft.mro;have h1:=ft.notType;have h2:=ft.canCreate;refine wpAny_call (codeAny_of_tree (show wpAny _ _ (callAny (.type T) _) _ _ _ from wpAny_pure ⟨Code.quiet_builtin _ (by decide),codeAny_builtin F.entry_type_call ?_⟩));rw[Around.under_plain (weight_type_call_type T args []) rfl]
 repeat (any_goals (first | assumption | wp_step))
 refine codeAny_mono hnew fun r s1 hr=>?_
 rcases r with e | fl
 . exact hr
 cases fl with
 | ret obj =>
   obtain⟨hT,hck⟩:=hinit _ _ hr;have hli:=ft.init.lookup;have hbi:=ft.init.bind obj
   repeat (any_goals (first | assumption | wp_step))
   refine codeAny_mono (codeAny_call_builtin (R:=wants (fun r s2=>r=.none∧Q obj s2) E) ft.init.plain hI (wpAny_mono (hck _) (fun _ s2 e=>by subst e;exact hbody _ _ hr) fun _ _ h'=>h')) fun r2 s2 hr2=>?_
   rcases r2 with e | f2
   . exact hr2
   cases f2 with
   | ret r =>
     obtain⟨rfl,hq⟩:=hr2
     repeat (any_goals (first | assumption | wp_step))
   | _=>exact hr2.elim
 | _=>exact hr.elim
theorem vJ {l:Addr}{items:Array Value}{ss:List Str}{Q:Value→Shared→Prop}(hh:A.handled=none)(hl:s.heap.IsList l items)(hss:StrsAre items.toList ss)(hb:items.size+1 < scanBound)
   (h:∀ h' tk,(∀ b o,s.heap.get? b=some o→h'.get? b=some o)→h'.SetOf (strKind prog w) s.heap.objs.size (fun x=>decide (x∈dP ss)) (dP ss).length→Q (.ref s.heap.objs.size) { s with heap:=h',toks:=tk }) :
   wpAny (model prog w) A (call (.type "set") [.ref l]) Q E s:=by
 refine lM (Q1:=fun obj s1=>∃ led:Bool,obj=.ref s.heap.objs.size∧s1={ s with heap:=s.heap.push { cls:=.type "set",dict:=none,data:=.set #[] 0 (.fresh 0 0 led) } }) F.called_set (F.typeCall_set_1 _) F.entry_set_init (code_set_new_1 (.ref l) fun led=>⟨led,rfl,rfl⟩) ?_ ?_
 . rintro obj s1 ⟨led,rfl,rfl⟩;have hT:Shared.TypeIs { s with heap:=s.heap.push { cls:=.type "set",dict:=none,data:=.set #[] 0 (.fresh 0 0 led) } } (.ref s.heap.objs.size) "set":=⟨_,Heap.get?_push_size _ rfl,rfl⟩;exact⟨hT,fun E'=>check_set_init_1 hT rfl⟩
 . rintro obj s1 ⟨led,rfl,rfl⟩
   have hlt:l < s.heap.objs.size:=by obtain⟨_,e,_⟩:=hl;exact Heap.lt_size e
   obtain⟨⟨oc,od,odt,osl⟩,hol,hcl,nl,hdl⟩:=id hl;simp only at hcl hdl;subst hcl;subst hdl;have hol':(s.heap.push { cls:=.type "set",dict:=none,data:=.set #[] 0 (.fresh 0 0 led) }).get? l=some { cls:=.type "list",dict:=od,data:=.seq items nl,slots:=osl }:=Heap.get?_push_of_some _ hol;have hS:(s.heap.push { cls:=.type "set",dict:=none,data:=.set #[] 0 (.fresh 0 0 led) }).get? s.heap.objs.size=some { cls:=.type "set",dict:=none,data:=.set #[] 0 (.fresh 0 0 led) }:=Heap.get?_push_size _ rfl;have hl1:(s.heap.push { cls:=.type "set",dict:=none,data:=.set #[] 0 (.fresh 0 0 led) }).IsList l items:=⟨_,hol',rfl,nl,rfl⟩;have hsls:=F.sub_list_set;have hslf:=F.sub_list_frozenset
   have hne:(Value.type "list"==Value.type "dict")=false:=by decide
   unfold Builtin.«set.__init__» noKeywords Builtin.Frozenset.updateFrom;generalize hPI:pyIter=PI
   wp_walk
   subst hPI;refine wpAny_pyIter_list hl1 (wpAny_bind (wpAny_runValue ?_));have hz:(s.heap.push { cls:=.type "set",dict:=none,data:=.set #[] 0 (.fresh 0 0 led) }).objs.size=s.heap.objs.size+1:=Heap.size_push ..;refine vk (l:=l) (items:=items) (ss:=ss) (by simp[hh]) (by rw[hz];exact Aa (A6 hlt)) (by rw[hz];exact Aa (Bo _)) (BL hlt) hss hb (items.size - 0) 0 _ (by omega) (AF _) ⟨_,Heap.get?_push_size _ rfl,rfl,rfl⟩ (hl1.push _) ?_ ?_
   . exact SetOf_congr ((setObjOf_fresh (knd:=strKind prog w) led).setOf (Heap.get?_push_of_some _ hS) (by unfold scanBound;omega)) (fun _=>rfl) rfl
   . intro h' tk kk hS';refine wpAny_pure (wpAny_pure ⟨rfl,h h' tk (fun b o e=>?_) hS'⟩);have hlb:=Heap.lt_size e;exact kk b o (Aa hlb) (by rw[hz];exact Aa (A6 hlb)) (Heap.get?_push_of_some _ (Heap.get?_push_of_some _ e))
end
section
variable {prog:Program}{w:World}{A:Around}{E:Value→Shared→Prop}{s:Shared}
theorem xT {a:Addr}{Q:Option Obj→Shared→Prop}(h:Q (s.heap.get? a) s):wpAny (model prog w) A (loadIfAlive a) Q E s:=fun Γ p _=>by
 show Sem.wp _ _ (.loadIfAlive a .pure) _ _ _ _;rw[Sem.wp_loadIfAlive];exact h
abbrev mL (h:Heap)(z TI TO T0:Addr)(f1:Bool):Prop :=
 h.get? z=some { cls:=.type "zip",dict:=none,data:=.fields #[rawInt T0,.bool f1,.bool false,.ref TI,.ref TO],slots:=#[] }
theorem re {z TI TO T0:Addr}{f1:Bool}{Q:Bool→Shared→Prop}(hz:mL s.heap z TI TO T0 f1)(hT:∃ o,s.heap.get? T0=some o)
   (h:∀ h',mL h' z TI TO T0 true→(∀ b o,b≠z→s.heap.get? b=some o→h'.get? b=some o)→h'.objs.size=s.heap.objs.size→Q false { s with heap:=h' }) :
   wpAny (model prog w) A (Builtin.SmallTypes.ownedTupleIsFree (.ref z)) Q E s:=by
 obtain⟨o,ho⟩:=hT;unfold Builtin.SmallTypes.ownedTupleIsFree;refine wpAny_bind (wpAny_field hz rfl (x:=rawInt T0) rfl ?_);show wpAny _ _ (loadIfAlive ((T0:Int)).toNat >>= _) _ _ _;rw[Au];refine wpAny_bind (xT ?_);rw[ho];show wpAny _ _ (if(false:Bool)=true then _ else _) _ _ _;rw[if_neg Bool.false_ne_true];refine wpAny_bind (wpAny_field hz rfl (x:=.bool f1) rfl ?_)
 cases f1 with
 | true=>exact wpAny_pure (h s.heap hz (fun _ _ _ e=>e) rfl)
 | false =>
   refine wpAny_bind (wpAny_setField_rec hz (by simp) fun h' hz' hs'=>wpAny_pure (h h' hz' (fun b o hb e=>hs'.extBut _ _ hb e) hs'.1))
end
section
variable {prog:Program}{w:World}{A:Around}{E:Value→Shared→Prop}{s:Shared}
theorem sx {z TI TO T0 i1 i2 l1 l2:Addr}{f1:Bool}{k1 k2:Nat}{xs ys:Array Value}{x y:Value}{Q:Value→Shared→Prop}(D:ZipApart z TI TO i1 i2 l1 l2)
   (hz:mL s.heap z TI TO T0 f1)(hT:∃ o,s.heap.get? T0=some o)(hTI:IsPair s.heap TI (.ref i1) (.ref i2))
   (h1:s.heap.IsListIter i1 l1 k1)(h2:s.heap.IsListIter i2 l2 k2)(hl1:s.heap.IsList l1 xs)(hl2:s.heap.IsList l2 ys)(hx:xs[k1]?=some x)(hy:ys[k2]?=some y)
   (hQ:∀ h',mL h' z TI TO T0 true→h'.IsListIter i1 l1 (k1+1)→h'.IsListIter i2 l2 (k2+1)→IsPair h' s.heap.objs.size x y→h'.objs.size=s.heap.objs.size+1 →
     (∀ c o,c≠z→c≠i1→c≠i2→s.heap.get? c=some o→h'.get? c=some o)→Q (.ref s.heap.objs.size) { s with heap:=h' }) :
   wpAny (model prog w) A (Builtin.«zip.__next__» ⟨[.ref z],[]⟩) (fun fin s'=>∃ v,fin=.done (.ret v)∧Q v s') E s:=by
 show wpAny _ _ (field (.ref z) 2 >>= _) _ _ _;refine wpAny_bind (wpAny_field hz rfl (x:=.bool false) rfl (show wpAny _ _ (field (.ref z) 3 >>= _) _ _ _ from wpAny_bind (wpAny_field hz rfl (x:=.ref TI) rfl (wpAny_bind (wpAny_seqItems hTI rfl ?_)))));show wpAny _ _ (Builtin.SmallTypes.ownedTupleIsFree (.ref z) >>= _) _ _ _;refine wpAny_bind (re hz hT fun ha hza ka hsa=>?_);simp only[Bool.false_eq_true,if_false,List.forIn_toArray,BZ,List.forIn_nil];refine wpAny_bind (wpAny_bind (wpAny_bind (wpAny_holding ?_)));have ea:ha.objs.size=s.heap.objs.size:=hsa;show wpAny _ _ (Builtin.SmallTypes.nextOf (.ref i1) >>= _) _ _ _;refine wpAny_bind (wpAny_nextOf_list_item (h1.at fun o e=>ka _ o D.i1z e) (hl1.at fun o e=>ka _ o D.l1z e) hx fun hb hib sb=>wpAny_pure (wpAny_pure ?_));refine wpAny_bind (wpAny_bind (wpAny_holding ?_));show wpAny _ _ (Builtin.SmallTypes.nextOf (.ref i2) >>= _) _ _ _;refine wpAny_bind (wpAny_nextOf_list_item ((h2.at fun o e=>ka _ o D.i2z e).extBut sb.extBut D.i12.symm) ((hl2.at fun o e=>ka _ o D.l2z e).extBut sb.extBut D.l2i1) hy fun hc hic sc=>wpAny_pure (wpAny_pure (wpAny_pure ?_)));refine wpAny_bind (wpAny_newTuple (wpAny_pure ⟨_,rfl,?_⟩) (by show 2≤sizeLine;rw[sizeLine_eq];decide))
 have ec:hc.objs.size=s.heap.objs.size:=by rw[sc.1,sb.1];exact ea
 have kc:∀ c o,c≠z→c≠i1→c≠i2→s.heap.get? c=some o→hc.get? c=some o:=fun c o c1 c2 c3 e=>sc.extBut _ _ c3 (sb.extBut _ _ c2 (ka c o c1 e));show Q (.ref hc.objs.size) { s with heap:=hc.push { cls:=.type "tuple",data:=.seq #[x,y] } };rw[ec];have up:∀ b o,hc.get? b=some o→(hc.push { cls:=.type "tuple",data:=.seq #[x,y] }).get? b=some o:=fun b o e=>Heap.get?_push_of_some _ e;refine hQ _ (up _ _ (sc.extBut _ _ D.i2z.symm (sb.extBut _ _ D.i1z.symm hza))) ((hib.extBut sc.extBut D.i12).at fun o e=>up _ o e) (hic.at fun o e=>up _ o e) ?_ (by rw[Heap.size_push,ec]) fun c o c1 c2 c3 e=>up _ _ (kc c o c1 c2 c3 e);have:=Heap.get?_push_size hc (o:={ cls:=.type "tuple",data:=.seq #[x,y] }) rfl
 rwa [ec] at this
theorem ui {z TI TO T0 i1 i2 l1 l2:Addr}{f1:Bool}{k1 k2:Nat}{xs ys:Array Value}{Q:Fin→Shared→Prop}(hh:A.handled=none)(D:ZipApart z TI TO i1 i2 l1 l2)
   (hz:mL s.heap z TI TO T0 f1)(hT:∃ o,s.heap.get? T0=some o)(hTI:IsPair s.heap TI (.ref i1) (.ref i2))
   (h1:s.heap.IsListIter i1 l1 k1)(hl1:s.heap.IsList l1 xs)(hx:xs[k1]?=none)
   (hE:∀ h' e,(∀ c o,c≠z→c≠i1→s.heap.get? c=some o→h'.get? c=some o)→(∃ o,h'.get? e=some o∧o.cls=.type "StopIteration")→E (.ref e) { s with heap:=h' }) :
   wpAny (model prog w) A (Builtin.«zip.__next__» ⟨[.ref z],[]⟩) Q E s:=by
 show wpAny _ _ (field (.ref z) 2 >>= _) _ _ _;refine wpAny_bind (wpAny_field hz rfl (x:=.bool false) rfl (show wpAny _ _ (field (.ref z) 3 >>= _) _ _ _ from wpAny_bind (wpAny_field hz rfl (x:=.ref TI) rfl (wpAny_bind (wpAny_seqItems hTI rfl ?_)))));show wpAny _ _ (Builtin.SmallTypes.ownedTupleIsFree (.ref z) >>= _) _ _ _;refine wpAny_bind (re hz hT fun ha hza ka hsa=>?_);simp only[Bool.false_eq_true,if_false,List.forIn_toArray,BZ,List.forIn_nil];refine wpAny_bind (wpAny_bind (wpAny_bind (wpAny_holding ?_)));show wpAny _ _ (Builtin.SmallTypes.nextOf (.ref i1) >>= _) _ _ _;refine wpAny_bind (wpAny_nextOf_list_end hh (h1.at fun o e=>ka _ o D.i1z e) (hl1.at fun o e=>ka _ o D.l1z e) hx fun hb e kb he=>?_);exact hE hb e (fun c o c1 c2 x=>kb _ _ c2 (ka c o c1 x)) he
theorem qt {z TI TO T0 i1 i2 l1 l2:Addr}{f1:Bool}{k1 k2:Nat}{xs ys:Array Value}{x y:Value}{Q:Option Value→Shared→Prop}(D:ZipApart z TI TO i1 i2 l1 l2)
   (hz:mL s.heap z TI TO T0 f1)(hT:∃ o,s.heap.get? T0=some o)(hTI:IsPair s.heap TI (.ref i1) (.ref i2))
   (h1:s.heap.IsListIter i1 l1 k1)(h2:s.heap.IsListIter i2 l2 k2)(hl1:s.heap.IsList l1 xs)(hl2:s.heap.IsList l2 ys)(hx:xs[k1]?=some x)(hy:ys[k2]?=some y)
   (hQ:∀ h',mL h' z TI TO T0 true→h'.IsListIter i1 l1 (k1+1)→h'.IsListIter i2 l2 (k2+1)→IsPair h' s.heap.objs.size x y→h'.objs.size=s.heap.objs.size+1 →
     (∀ c o,c≠z→c≠i1→c≠i2→s.heap.get? c=some o→h'.get? c=some o)→Q (some (.ref s.heap.objs.size)) { s with heap:=h' }) :
   wpAny (model prog w) A (pyNext (.ref z)) Q E s:=by
 have hTy:s.TypeIs (.ref z) "zip":=⟨_,hz,rfl⟩;unfold pyNext
 exact wpAny_bind (wpAny_attempt (wpAny_callSpecial?_slot (name:=zM "__next__") hTy F.slot_zip_next (wpAny_call_entry F.slot_zip_next hTy F.entry_zip_next
     (sx D hz hT hTI h1 h2 hl1 hl2 hx hy fun h' a1 a2 a3 a4 a5 a6=>wpAny_pure (hQ h' a1 a2 a3 a4 a5 a6)) (F.args_zip_next_1 _))))
theorem tI {z TI TO T0 i1 i2 l1 l2:Addr}{f1:Bool}{k1:Nat}{xs:Array Value}{Q:Option Value→Shared→Prop}(hh:A.handled=none)(D:ZipApart z TI TO i1 i2 l1 l2)
   (hz:mL s.heap z TI TO T0 f1)(hT:∃ o,s.heap.get? T0=some o)(hTI:IsPair s.heap TI (.ref i1) (.ref i2))(h1:s.heap.IsListIter i1 l1 k1)(hl1:s.heap.IsList l1 xs)(hx:xs[k1]?=none)
   (hQ:∀ h',(∀ c o,c≠z→c≠i1→s.heap.get? c=some o→h'.get? c=some o)→Q none { s with heap:=h' }):wpAny (model prog w) A (pyNext (.ref z)) Q E s:=by
 have hTy:s.TypeIs (.ref z) "zip":=⟨_,hz,rfl⟩;unfold pyNext
 refine wpAny_bind (wpAny_attempt (wpAny_callSpecial?_slot (name:=zM "__next__") hTy F.slot_zip_next (wpAny_call_entry F.slot_zip_next hTy F.entry_zip_next
   (ui (k2:=0) (ys:=#[]) hh D hz hT hTI h1 hl1 hx fun h' e hk he=>?_) (F.args_zip_next_1 _))))
 obtain⟨o,ho,hc⟩:=he;exact wpAny_bind (wpAny_isInstance (T:="StopIteration") (b:=true) ⟨o,ho,hc⟩ isSubtype_stop (wpAny_pure (hQ _ hk)))
end
theorem jk:typeLookup (.type "zip") "__getattr__"=pure none:=by rw[typeLookup_type,builtinLookup_eq_fast];kernel_rfl
theorem mI:typeLookup (.type "zip") "keys"=pure none:=by rw[typeLookup_type,builtinLookup_eq_fast];kernel_rfl
theorem gw:entryFor table "dict.update.loop"=some Builtin.«dict.update.loop»:=entryFor_of_tree (by kernel_rfl)
theorem dC:plainId "dict.update.loop"=true:=by decide
theorem oP:entryFor table "zip.__getattribute__"=some Builtin.«object.__getattribute__»:=entryFor_alias (id':="object.__getattribute__") (by kernel_rfl) (by decide) (by decide) (by kernel_rfl)
section
variable {prog:Program}{w:World}{A:Around}{E:Value→Shared→Prop}{s:Shared}
theorem p9 {z TI TO:Addr}{f0:Value}{Q:Option Value→Shared→Prop}(hh:A.handled=none)(hz:IsZip s.heap z TI TO f0)
   (h:∀ h' tk,(∀ b o,s.heap.get? b=some o→h'.get? b=some o)→Q none { s with heap:=h',toks:=tk }):wpAny (model prog w) A (getAttr? (.ref z) "keys") Q E s:=by
 have f1:=sub_AttributeError;have f3:=F.slot_zip_getattribute.lookup;have f4:=F.slot_zip_getattribute.bind (.ref z);have f5:=jk;have f6:=mI;obtain⟨hp,g,d,tk,os⟩:=s;have hT:Shared.TypeIs ⟨hp,g,d,tk,os⟩ (.ref z) "zip":=⟨_,hz,rfl⟩;unfold getAttr? getAttrBy? getAttrBy
 repeat (any_goals (first | assumption | wp_step))
 refine codeAny_call_builtin F.slot_zip_getattribute.plain oP (F.slot_zip_getattribute.check _ _ _ _ _ _ _ _ ⟨_,hz,rfl⟩ (F.args_zip_getattribute_2 _ _) ?_);unfold Builtin.«object.__getattribute__»
 repeat (any_goals (first | assumption | wp_step))
 refine wpAny_raiseAttrError (by simpa using hh) (fun h' tk' e hx=>?_) (attrMsg_fits (by decide) (by rw[sizeLine_eq];decide));obtain⟨t',u',he⟩:=hx.there;show wpAny _ _ (getattributeRaised _ _ _ _ _ _ _) _ _ _;unfold getattributeRaised
 repeat (any_goals (first | assumption | wp_step))
 exact h h' tk' hx.keeps
theorem qx {T:Addr}{x y:Value}{Q:List Value→Shared→Prop}(hT:IsPair s.heap T x y)(h:Q [x,y] s):wpAny (model prog w) A (Builtin.Dict.pairItems (.ref T)) Q E s:=by
 unfold Builtin.Dict.pairItems;refine wpAny_bind (wpAny_typeOf (T:="tuple") ⟨_,hT,rfl⟩ ?_);rw[if_pos (by decide)];exact wpAny_bind (wpAny_seqItems hT rfl (wpAny_pure h))
def kN (h:Heap)(z TI TO:Addr):Prop:=IsZip h z TI TO .none∨∃ T0 f1,mL h z TI TO T0 f1∧(∃ o,h.get? T0=some o)∧T0≠z
theorem wG {z TI TO i1 i2 l1 l2:Addr}{k1 k2:Nat}{xs ys:Array Value}{x y:Value}{Q:Option Value→Shared→Prop}(D:ZipApart z TI TO i1 i2 l1 l2)
   (hz:kN s.heap z TI TO)(hTI:IsPair s.heap TI (.ref i1) (.ref i2))(hTO:∃ a b,IsPair s.heap TO a b)
   (h1:s.heap.IsListIter i1 l1 k1)(h2:s.heap.IsListIter i2 l2 k2)(hl1:s.heap.IsList l1 xs)(hl2:s.heap.IsList l2 ys)(hx:xs[k1]?=some x)(hy:ys[k2]?=some y)
   (hQ:∀ h' T,kN h' z TI TO→(∃ a b,IsPair h' TO a b)→h'.IsListIter i1 l1 (k1+1)→h'.IsListIter i2 l2 (k2+1)→IsPair h' T x y →
     (∀ c o,c≠z→c≠TO→c≠i1→c≠i2→s.heap.get? c=some o→h'.get? c=some o)→s.heap.objs.size≤T→Q (some (.ref T)) { s with heap:=h' }) :
   wpAny (model prog w) A (pyNext (.ref z)) Q E s:=by
 obtain⟨a,b,hTO⟩:=hTO
 rcases hz with hz | ⟨T0,f1,hz,hT0,hne⟩
 . refine wpAny_pyNext_zip_item D hz hTI hTO h1 h2 hl1 hl2 hx hy fun h' a1 a2 a3 a4 a5 a6 a7=>?_;exact hQ h' _ (.inr ⟨_,_,a1,⟨_,a5⟩,BL (Heap.lt_size hz)⟩) ⟨_,_,a2⟩ a3 a4 a5 a7 (zR _)
 . refine qt D hz hT0 hTI h1 h2 hl1 hl2 hx hy fun h' a1 a2 a3 a4 a5 a6=>?_;have hTO':IsPair h' TO a b:=a6 _ _ D.TOz D.TOi1 D.TOi2 hTO
   have hT0':∃ o,h'.get? T0=some o:=by
     obtain⟨o,ho⟩:=hT0;by_cases e1:T0=i1
     . subst e1;obtain⟨o',e',_⟩:=a2;exact⟨o',e'⟩
     . by_cases e2:T0=i2
       . subst e2;obtain⟨o',e',_⟩:=a3;exact⟨o',e'⟩
       . exact⟨o,a6 _ _ hne e1 e2 ho⟩
   exact hQ h' _ (.inr ⟨_,_,a1,hT0',hne⟩) ⟨_,_,hTO'⟩ a2 a3 a4 (fun c o c1 _ c3 c4 e=>a6 c o c1 c3 c4 e) (zR _)
theorem yg {z TI TO i1 i2 l1 l2:Addr}{k1 k2:Nat}{xs ys:Array Value}{Q:Option Value→Shared→Prop}(hh:A.handled=none)(D:ZipApart z TI TO i1 i2 l1 l2)
   (hz:kN s.heap z TI TO)(hTI:IsPair s.heap TI (.ref i1) (.ref i2))(hTO:∃ a b,IsPair s.heap TO a b)
   (h1:s.heap.IsListIter i1 l1 k1)(h2:s.heap.IsListIter i2 l2 k2)(hl1:s.heap.IsList l1 xs)(hl2:s.heap.IsList l2 ys)(hx:xs[k1]?=none)
   (hQ:∀ h',(∀ c o,c≠z→c≠TO→c≠i1→c≠i2→s.heap.get? c=some o→h'.get? c=some o)→Q none { s with heap:=h' }):wpAny (model prog w) A (pyNext (.ref z)) Q E s:=by
 obtain⟨a,b,hTO⟩:=hTO
 rcases hz with hz | ⟨T0,f1,hz,hT0,hne⟩
 . exact wpAny_pyNext_zip_end hh D hz hTI hTO h1 h2 hl1 hl2 (.inl hx) hQ
 . exact tI hh D hz hT0 hTI h1 hl1 hx fun h' k=>hQ h' fun c o c1 _ c3 _ e=>k c o c1 c3 e
theorem kN.keep {h h':Heap}{z TI TO d:Addr}(hz:kN h z TI TO)(hd:d≠z)(hs:Heap.SameBut d h h')(hde:∃ o,h'.get? d=some o):kN h' z TI TO:=by
 rcases hz with hz | ⟨T0,f1,hz,⟨o,ho⟩,hne⟩
 . exact .inl (hs.extBut _ _ (Ne.symm hd) hz)
 . refine .inr ⟨T0,f1,hs.extBut _ _ (Ne.symm hd) hz,?_,hne⟩;by_cases e:T0=d
   . subst e;exact hde
   . exact⟨o,hs.extBut _ _ e ho⟩
end
section
variable {prog:Program}{w:World}{κ:Type} [DecidableEq κ]{knd:KeyKind prog w κ}
theorem wM {A:Around}{R:Result→Shared→Prop}{d z TI TO i1 i2 l1 l2:Addr}{xs ys:Array Value}{ks:List κ}(hh:A.in1.handled=none)(D:ZipApart z TI TO i1 i2 l1 l2)(hdz:d≠z)(hdTI:d≠TI)(hdTO:d≠TO)(hd1:d≠i1)(hd2:d≠i2)(hdl1:d≠l1)(hdl2:d≠l2)
   (hks:∀ (i:Nat) x,xs[i]?=some x→∃ k,ks[i]?=some k∧knd.is k x=true)(hxy:xs.size=ys.size)(hkl:ks.length=xs.size)(hsz:xs.size≤1000) :
   ∀ (n i:Nat)(s:Shared),xs.size - i=n→i≤xs.size→kN s.heap z TI TO→IsPair s.heap TI (.ref i1) (.ref i2)→(∃ a b,IsPair s.heap TO a b)→s.heap.IsListIter i1 l1 i→s.heap.IsListIter i2 l2 i→s.heap.IsList l1 xs→s.heap.IsList l2 ys →
     (∃ kvs,kvs.length≤i∧s.heap.DictOf knd d kvs∧kvs=merged [] ((ks.zip ys.toList).take i)) →
     (∀ h' tk,(∀ c o,c≠d→c≠z→c≠TO→c≠i1→c≠i2→s.heap.get? c=some o→h'.get? c=some o)→h'.DictOf knd d (merged [] (ks.zip ys.toList))→R (.ok (.ret .none)) { s with heap:=h',toks:=tk }) →
     codeAny (model prog w) A (.builtin "dict.update.loop" ⟨[.ref d,.ref z,rawInt i,.none],[]⟩) R s:=by
 intro n
 induction n with
 | zero =>
   intro i s hn hi hz hTI hTO h1 h2 hl1 hl2 hD hR
   have e:i=xs.size:=by omega
   refine codeAny_builtin gw ?_;rw[Around.under_plainId dC _];show wpAny _ A.in1 (pyNext (.ref z) >>= _) _ _ s;refine wpAny_bind (yg hh D hz hTI hTO h1 h2 hl1 hl2 (by rw[e];simp) fun h' kk=>?_);obtain⟨kvs,hkl',hdd,rfl⟩:=hD;have et:(ks.zip ys.toList).take i=ks.zip ys.toList:=AH (by rw[Bu,hkl,e];exact Nat.min_le_left _ _);rw[et] at hdd;refine wpAny_bind (wpAny_pure (wpAny_pure (hR h' s.toks (fun c o _ c1 c2 c3 c4 e=>kk c o c1 c2 c3 c4 e) ?_)));obtain⟨o,es,ep,ho,cE⟩:=hdd;exact⟨o,es,ep,kk _ _ hdz hdTO hd1 hd2 ho,cE⟩
 | succ n ih =>
   intro i s hn hi hz hTI hTO h1 h2 hl1 hl2 hD hR
   have hlt:i < xs.size:=by omega
   have hlt2:i < ys.size:=by omega
   refine codeAny_builtin gw ?_;rw[Around.under_plainId dC _];show wpAny _ A.in1 (pyNext (.ref z) >>= _) _ _ s;refine wpAny_bind (wG D hz hTI hTO h1 h2 hl1 hl2 (Ab hlt) (Ab hlt2) fun h' T a1 a2 a3 a4 a5 a6 a7=>?_);obtain⟨k,hk,hkis⟩:=hks i _ (Ab hlt);obtain⟨kvs,hkl',hdd,ekv⟩:=hD
   have hdd':h'.DictOf knd d kvs:=by
     obtain⟨o,es,ep,ho,cE⟩:=hdd;exact⟨o,es,ep,a6 _ _ hdz hdTO hd1 hd2 ho,cE⟩
   refine wpAny_bind (wpAny_holding (wpAny_bind (wpAny_tryCatch (qx a5 ?_))));refine wpAny_holding (wpAny_dictSet_pairs hkis hdd' (fun h2' hdd2 sb=>?_) (by rw[sizeLine_eq];omega))
   have hde:∃ o,h2'.get? d=some o:=by obtain⟨o,es,ep,ho,_⟩:=hdd2;exact⟨o,ho⟩
   have up:∀ b o,b≠d→h'.get? b=some o→h2'.get? b=some o:=fun b o hb e=>sb.extBut _ _ hb e
   have es:(ks.zip ys.toList).take (i+1)=(ks.zip ys.toList).take i++[(k,ys[i])]:=by
     have hzi:(ks.zip ys.toList)[i]?=some (k,ys[i]):=List.getElem?_zip_eq_some.mpr ⟨hk,by simp[hlt2]⟩;rw[Bw,hzi];rfl
   have hst:(stored kvs k ys[i]).length≤kvs.length+1:=by
     unfold stored
     split
     . rw[be];omega
     . rw[zP];simp
   refine wpAny_pure ⟨plainId_quiet dC _,?_⟩
   have ei:(i:Int)+1=((i+1:Nat):Int):=by omega
   show codeAny (model prog w) A (.builtin "dict.update.loop" ⟨[.ref d,.ref z,rawInt ((i:Int)+1),.none],[]⟩) R _;rw[ei]
   refine ih (i+1) _ (by omega) hlt (a1.keep hdz sb hde) (up _ _ (Ne.symm hdTI) (a6 _ _ D.TIz D.TITO D.TIi1 D.TIi2 hTI)) ?_ (a3.at fun o e=>up _ o (Ne.symm hd1) e) (a4.at fun o e=>up _ o (Ne.symm hd2) e) (hl1.at fun o e=>up _ o (Ne.symm hdl1) (a6 _ o D.l1z D.l1TO D.l1i1 D.l1i2 e))
     (hl2.at fun o e=>up _ o (Ne.symm hdl2) (a6 _ o D.l2z D.l2TO D.l2i1 D.l2i2 e)) ⟨_,by omega,hdd2,?_⟩ fun h3 tk kk hd3=>?_
   . obtain⟨a,b,e⟩:=a2;exact⟨a,b,up _ _ (Ne.symm hdTO) e⟩
   . rw[es,ekv];unfold merged;rw[Ch];rfl
   . exact hR h3 tk (fun c o c0 c1 c2 c3 c4 e=>kk c o c0 c1 c2 c3 c4 (up _ _ c0 (a6 c o c1 c2 c3 c4 e))) hd3
theorem uc {A:Around}{E:Value→Shared→Prop}{s:Shared}{Q:Value→Shared→Prop}{z TI TO i1 i2 l1 l2:Addr}{xs ys:Array Value}{ks:List κ}(hh:A.handled=none)(D:ZipApart z TI TO i1 i2 l1 l2)(hz:IsZip s.heap z TI TO .none)
   (hTI:IsPair s.heap TI (.ref i1) (.ref i2))(hTO:∃ a b,IsPair s.heap TO a b)(h1:s.heap.IsListIter i1 l1 0)(h2:s.heap.IsListIter i2 l2 0)(hl1:s.heap.IsList l1 xs)(hl2:s.heap.IsList l2 ys)
   (hks:∀ (i:Nat) x,xs[i]?=some x→∃ k,ks[i]?=some k∧knd.is k x=true)(hxy:xs.size=ys.size)(hkl:ks.length=xs.size)(hsz:xs.size≤1000)
   (h:∀ h' tk,(∀ c o,c≠z→c≠TO→c≠i1→c≠i2→s.heap.get? c=some o→h'.get? c=some o)→h'.DictOf knd s.heap.objs.size (merged [] (ks.zip ys.toList))→Q (.ref s.heap.objs.size) { s with heap:=h',toks:=tk }) :
   wpAny (model prog w) A (call (.type "dict") [.ref z]) Q E s:=by
 refine callType_codes (Q₁:=fun obj s₁=>obj=.ref s.heap.objs.size∧s₁={ s with heap:=s.heap.push { cls:=.type "dict",data:=.dict #[] } }) F.kt_called_dict (F.kt_typeCall_dict_1 _) F.entry_dict_init (kt_code_dict_new _ ⟨rfl,rfl⟩) ?_;rintro obj s1 ⟨rfl,rfl⟩;have hnew:(s.heap.push { cls:=.type "dict",data:=.dict #[] }).DictOf knd s.heap.objs.size []:=Heap.DictOf.new s.heap;have up:∀ b o,s.heap.get? b=some o→(s.heap.push { cls:=.type "dict",data:=.dict #[] }).get? b=some o:=fun b o e=>Heap.get?_push_of_some _ e;have lt:∀ {b o},s.heap.get? b=some o→s.heap.objs.size≠b:=fun e=>BL (Heap.lt_size e);refine⟨hnew.typeIs,F.args_dict_init_2 _ _,?_⟩;unfold Builtin.«dict.__init__»;refine wpAny_bind ?_;unfold Builtin.Dict.selfAndRest;refine wpAny_bind (wpAny_notOrdered_dict hnew.typeIs (show wpAny _ _ (pure (s.heap.objs.size,[Value.ref z])) _ _ _ from wpAny_pure ?_));show wpAny _ _ (Builtin.Dict.updateFrom "dict.__init__" s.heap.objs.size (.ref z) [] .none) _ _ _;unfold Builtin.Dict.updateFrom;refine wpAny_bind (wpAny_typeOf (T:="zip") ⟨_,up _ _ hz,rfl⟩ ?_);rw[if_pos (by decide)];refine wpAny_bind (p9 (by simpa using hh) (up _ _ hz) fun h' tk kk=>?_);have kz:IsZip h' z TI TO .none:=kk _ _ (up _ _ hz);rw[if_pos (by rfl)];refine wpAny_bind (wpAny_rule (wpAny_bind (wpAny_pyIter_zip kz (wpAny_pure ⟨plainId_quiet dC _,?_⟩))));obtain⟨a,b,hTO⟩:=hTO;have e1:=h1;have e2:=h2;have e3:=hl1;have e4:=hl2;obtain⟨o1,ho1,_⟩:=e1;obtain⟨o2,ho2,_⟩:=e2;obtain⟨o3,ho3,_⟩:=e3;obtain⟨o4,ho4,_⟩:=e4
 refine wM (A:=A.in1) (knd:=knd) (ks:=ks) (by simpa using hh) D (lt hz) (lt hTI) (lt hTO) (lt ho1) (lt ho2) (lt ho3) (lt ho4) hks hxy hkl hsz (xs.size - 0) 0 _ (by omega) (AF _) (.inl kz) (kk _ _ (up _ _ hTI)) ⟨a,b,kk _ _ (up _ _ hTO)⟩
   (h1.at fun o e=>kk _ o (up _ o e)) (h2.at fun o e=>kk _ o (up _ o e)) (hl1.at fun o e=>kk _ o (up _ o e)) (hl2.at fun o e=>kk _ o (up _ o e)) ⟨[],zR _,?_,rfl⟩ fun h3 tk3 k3 hd3=>?_
 . obtain⟨o,es,ep,ho,cE⟩:=hnew;exact⟨o,es,ep,kk _ _ ho,cE⟩
 . exact⟨rfl,h h3 tk3 (fun c o c1 c2 c3 c4 e=>k3 c o (Ne.symm (lt e)) c1 c2 c3 c4 (kk _ _ (up _ _ e))) hd3⟩
end
def ym (P:Program)(w:World)(p:Addr) (n:Nat):HO:=.ext fun h=>∃ S,h.SetOf (strKind P w) p S n
theorem SetOf.at_ {P:Program}{w:World}{h1 h2:Heap}{p:Addr}{n:Nat}(x:∃ S,h1.SetOf (strKind P w) p S n)(k:∀ o,h1.get? p=some o→h2.get? p=some o):∃ S,h2.SetOf (strKind P w) p S n:=by
 obtain⟨S,o,es,ep,t,ho,r⟩:=x;exact⟨S,o,es,ep,t,k _ ho,r⟩
section
variable {X:Cx}
theorem oK (hc:X.calm=true):cq X (.type "set") (fun xs H Q=>∃ (a:Addr)(ss:List Str),xs=[.ref a]∧SqL X.K H a (ss.map V.str)∧ss.length≤1000∧∀ p,H p=none→Q (.ref p) (upd H p (ym X.prog X.w p (dP ss).length))):=by
 intro pins s σ H xs us Q I r h;obtain⟨a,ss,rfl,ha,hn,q⟩:=h;obtain⟨u,rfl,ru⟩:=ej r;cases ru;obtain⟨its,rv,pl,_⟩:=I.list ha;have hl:=rv.length;rw[be] at hl;refine vJ (I.ok.hd hc) pl.isList (by simpa using gG rv) (by rw[z6];unfold scanBound;omega) fun h' tk kk hS=>?_
 have he:∃ o,h'.get? s.heap.objs.size=some o:=by obtain⟨o,_,_,_,e,_⟩:=hS;exact⟨o,e⟩
 exact⟨.ref s.heap.objs.size,_,I.laid (o:=ym X.prog X.w s.heap.objs.size (dP ss).length) kk (zR _) ⟨⟨_,hS⟩,he,fun h1 h2 x k=>SetOf.at_ x k⟩,rfl,q _ (I.hok.fresh (zR _))⟩
theorem lZ:cq X (.builtin "len") (fun xs H Q=>∃ p n,xs=[V.ref p]∧H p=some (ym X.prog X.w p n)∧Q (.int (n:Nat)) H):=by
 intro pins s σ H xs us Q I r h;obtain⟨p,n,rfl,hp,q⟩:=h;obtain⟨u,rfl,ru⟩:=ej r;cases ru;obtain⟨⟨S,o,es,ep,t,ho,hex,hd,_,_,hb,hf,hn⟩,_⟩:=I.hok p _ hp
 have hfit:(es.size:Int) < 2 ^ 63:=by
   unfold scanBound at hb;omega
 refine call_len_set ho hex hd hf hfit ?_;rw[hn];exact⟨.int n,H,I.tok _,⟨_,rfl⟩,q⟩
def bX (ks:List Str)(vs:List V):List (Key×V):=(ks.map fun k=>(Sum.inr k:Key)).zip vs
theorem uX:∀ {ks:List Key}{vs:List V}{us:List Value},Vals vs us→KV (ks.zip vs) (ks.zip us)
 | [],_,_,_=>by simp;exact .nil
 | _::_,_,_,.nil=>by simp;exact .nil
 | k::ks,_,_,.cons r t=>by
   rw[A5,A5];exact .cons ⟨rfl,r⟩ (uX t)
def kg (K:PySem.W.Frag)(ta:TA):TE:=fun σ H Q=>ta σ H fun xs H1=>∃ (l1 l2:Addr)(ks:List Str)(vs:List V),xs=[.ref l1,.ref l2]∧SqL K H1 l1 (ks.map V.str)∧SqL K H1 l2 vs∧ks.length=vs.length∧ks.length≤1000 ∧
 ∀ p,H1 p=none→Q (.ref p) (upd H1 p (.dK (cP [] (bX ks vs))))
theorem kx {a b:Expr}{ta:TA}{p pos p' pos':Pos}(hc:X.calm=true)(hgd:Gl X "dict")(hmd:X.mg "dict"=none)(hgz:Gl X "zip")(hmz:X.mg "zip"=none)(ha:PA X [a,b] ta)
   (hs:starEach [a,b] X.env=(false,eval a X.env)::starEach [b] X.env:=by rfl)(hpl:(backTo pos' (starEach [b] X.env)).any (·.1)=false:=by rfl)
   (hs2:starEach [.Call (.Name "zip" p') [a,b] [] pos'] X.env=(false,eval (.Call (.Name "zip" p') [a,b] [] pos') X.env)::starEach [] X.env:=by rfl) :
   PE X (.Call (.Name "dict" p) [.Call (.Name "zip" p') [a,b] [] pos'] [] pos) (kg X.K ta):=by
 intro pins s σ H Q I h;refine wpAny_Call_Name_kw (iU I hgd hmd (u:=.type "dict") (by decide) ?_);refine Ba ?_ hs2 rfl;rw[hs2];show wpAny _ _ (spliced ((false,eval (.Call (.Name "zip" p') [a,b] [] pos') X.env)::backTo pos [])) _ _ s;refine Calls.spliced_cons ?_;refine wpAny_Call_Name_kw (iU I hgz hmz (u:=.type "zip") (by decide) ?_);refine Ba (thn (ha pos' s σ H _ I h) fun us s1 ⟨xs,H1,I1,r1,q1⟩=>?_) hs hpl;obtain⟨l1,l2,ks,vs,rfl,h1,h2,hkv,hk,q⟩:=q1;obtain⟨u1,u2,rfl,e1,e2⟩:=r1.two;cases e1;cases e2;obtain⟨i1,v1,p1,z1⟩:=I1.list h1;obtain⟨i2,v2,p2,z2⟩:=I1.list h2;have n1:=v1.length;have n2:=v2.length;rw[be] at n1
 have lt1:l1 < s1.heap.objs.size:=by obtain⟨_,_,e,_⟩:=p1;exact Heap.lt_size e
 have lt2:l2 < s1.heap.objs.size:=by obtain⟨_,_,e,_⟩:=p2;exact Heap.lt_size e
 refine call_zip_2 p1.isList p2.isList fun h' a1 a2 a3 a4 a5 a6 kk=>?_;refine Calls.spliced_nil ?_;have I2:Inv X pins σ H1 { s1 with heap:=h' }:=I1.kept (t':=s1.toks) kk;have hfr:H1 h'.objs.size=none:=I2.hok.fresh (zR _);refine uc (s:={ s1 with heap:=h' }) (knd:=bJ X.prog X.w) (ks:=ks.map fun k=>(Sum.inr k:Key)) (I1.ok.hd hc) (zipApart_new lt1 lt2) a1 a2 ⟨_,_,a3⟩ a4 a5 (p1.isList.at fun o e=>kk _ o e) (p2.isList.at fun o e=>kk _ o e) ?_ (by simp;omega) (by simp;omega) (by simp;omega) fun h3 tk k3 hd3=>?_
 . intro i x hx
   have hx':i1[i]?=some x:=by simpa using hx
   have hi:i < ks.length:=by rw[n1];exact(List.getElem?_eq_some_iff.mp hx').1
   obtain⟨u,hu,ru⟩:=v1.get (i:=i) (x:=V.str ks[i]) (by rw[zO,zN hi];rfl);rw[hx'] at hu;cases hu;obtain⟨t,rfl⟩:=ru;exact⟨Sum.inr ks[i],by rw[zO,zN hi];rfl,je _ _ _ _⟩
 . have he:∃ o,h3.get? h'.objs.size=some o:=by obtain⟨o,_,_,e,_⟩:=hd3;exact⟨o,e⟩
   have big:sysModules < h'.objs.size:=I2.big;have rel:KV (cP [] (bX ks vs)) (merged [] ((ks.map fun k=>(Sum.inr k:Key)).zip i2.toArray.toList)):=KV.merge (uX (by simpa using v2)) .nil
   have hz:(cP [] (bX ks vs)).length≤sizeLine:=by
     have:=eB (bX ks vs) []
     have l:(bX ks vs).length≤ks.length:=by unfold bX;rw[Bu,be];exact Nat.min_le_left _ _
     rw[BX] at this;rw[sizeLine_eq];omega
   have kall:∀ b o,s1.heap.get? b=some o→h3.get? b=some o:=fun b o e=>by
     have hlt:=Heap.lt_size e;exact k3 b o (Aa (Ae hlt (Co _ _))) (Aa (Ae hlt (Co _ _))) (Aa hlt) (Aa (Ae hlt (Co _ _))) (kk b o e)
   have hsz:s1.heap.objs.size≤h'.objs.size:=by rw[a6];omega
   have I3:=I1.laid (a:=h'.objs.size) (o:=.dK (cP [] (bX ks vs))) (h':=h3) (t':=tk) kall hsz (mJ hz (beq_eq_false_iff_ne.mpr (Ne.symm (Aa big))) rel hd3);exact⟨.ref h'.objs.size,_,I3,rfl,q _ hfr⟩
end
def leS (a b:Str):Prop:=ltCps b.cps.toList a.cps.toList=false
theorem rC {a b:Str}:leS a b↔¬b.cps.toList < a.cps.toList:=by unfold leS;rw[ltCps_eq];simp
theorem vc {a b:Str}(h1:leS a b)(h2:leS b a):a=b:=by
 rw[rC] at h1 h2
 have e:a.cps.toList=b.cps.toList:=by
   have h1':a.cps.toList≤b.cps.toList:=h1;have h2':b.cps.toList≤a.cps.toList:=h2;exact List.le_antisymm h1' h2'
 have e2:a.cps=b.cps:=Array.toList_inj.mp e;cases a;cases b;simp only at e2;rw[e2]
theorem sw {a b c:Str}(h1:leS a b)(h2:leS b c):leS a c:=by
 rw[rC] at h1 h2 ⊢;have h1':a.cps.toList≤b.cps.toList:=h1;have h2':b.cps.toList≤c.cps.toList:=h2;exact List.le_trans h1' h2'
theorem gL:∀ (p:Str)(l:List Str),risingS p l=true→(p::l).Pairwise leS
 | p,[],_=>Bp _ _
 | p,x::r,h=>by
   have h':(!ltCps x.cps.toList p.cps.toList&&risingS x r)=true:=h;rw[Bool.and_eq_true] at h';have ih:=gL x r h'.2
   have hpx:leS p x:=by unfold leS;simpa using h'.1
   refine List.pairwise_cons.mpr ⟨fun y hy=>?_,ih⟩
   rcases List.mem_cons.mp hy with e | hy
   . subst e;exact hpx
   . exact sw hpx ((List.pairwise_cons.mp ih).1 y hy)
theorem gW:∀ (l:List Str),sortedS l=true→l.Pairwise leS
 | [],_=>List.Pairwise.nil
 | x::r,h=>gL x r h
theorem cy {a b:List Str}(ha:sortedS a=true)(hb:sortedS b=true)(h:a.Perm b):a=b :=
 List.Perm.eq_of_pairwise (fun x y _ _ h1 h2=>vc h1 h2) (gW a ha) (gW b hb) h
theorem i8:∀ {l:List Value}{ks:List Str},l.length=ks.length→(∀ (i:Nat) v,l[i]?=some v→∃ x t,ks[i]?=some x∧v=.str x t)→StrsAre l ks
 | [],[],_,_=>.nil
 | [],_::_,h,_=>by simp at h
 | _::_,[],h,_=>by simp at h
 | v::l,k::ks,h,hv=>by
   obtain⟨x,t,hx,e⟩:=hv 0 v rfl;simp at hx;subst hx e;exact .cons _ t (i8 (by simpa using h) fun i u hu=>by simpa using hv (i+1) u (by simpa using hu))
section
variable {X:Cx}
theorem fb:cq X (.builtin "sorted") (fun xs H Q=>∃ (a:Addr)(ss:List Str),xs=[.ref a]∧SqL X.K H a (ss.map V.str)∧ss.length < 64∧∀ p ss',H p=none→ss'.Perm ss→sortedS ss'=true→Q (.ref p) (upd H p (.lst (ss'.map V.str)))):=by
 intro pins s σ H xs us Q I r h;obtain⟨a,ss,rfl,ha,hn,q⟩:=h;obtain⟨u,rfl,ru⟩:=ej r;cases ru;obtain⟨its,rv,pl,_⟩:=I.list ha;have hl:=rv.length;rw[be] at hl;refine sorted_strs pl.isList (gG rv) (by omega) fun out ss' a1 a2 a3=>?_;obtain⟨e,he⟩:=sortedAll_at s.heap its out;have hp:=a2.length_eq;refine⟨.ref (s.heap.objs.size+1),_,I.laid (o:=.lst (ss'.map V.str)) (t':=s.toks) (fun b o x=>sortedAll_old x) (Cu _) ⟨by rw[be,sizeLine_eq];omega,out.toList,e,iq a1,he⟩,rfl,q _ ss' (I.hok.fresh (Cu _)) a2 a3⟩
theorem dS (hc:X.calm=true):cq X (.builtin "sorted") (fun xs H Q=>∃ (d:Addr)(ks:List Str)(kvs:List (Key×V)),xs=[.ref d]∧Rd H d (.dK kvs)∧kvs.map (·.1)=ks.map Sum.inr∧ks.length < 64∧∀ p ss',H p=none→ss'.Perm ks→sortedS ss'=true→Q (.ref p) (upd H p (.lst (ss'.map V.str)))):=by
 intro pins s σ H xs us Q I r h;obtain⟨d,ks,kvs,rfl,hd,hk,hn,q⟩:=h;obtain⟨u,rfl,ru⟩:=ej r;cases ru;obtain⟨z,lo,vs,rel,dd⟩:=i0 I.hok hd;obtain⟨ep,hat⟩:=dd.dictAt
 have hlv:vs.length=ks.length:=by
   have:=congrArg Cf hk;rw[be,be] at this;rw[←rel.length];exact this
 refine Calls.call_function_entry kind_sorted plain_sorted entry_sorted (args_sorted1 _) ?_;unfold Builtin.«sorted»;refine wpAny_bind (m:=checkCount "sorted" 1 1 _) (wpAny_pure ?_);refine wpAny_bind (PySem.W.kdu_collect (A:=X.A.in1) (PySem.W.kdl_dict (knd:=bJ X.prog X.w) (kvs:=vs) (ep:=ep) lo) (I.ok.hd hc) hat (by rw[hlv,sizeLine_eq];omega) fun h' tk acc kk hacc=>?_)
 have hal:acc.toList.length=ks.length:=by rw[Aw,hacc.1,hlv]
 have hst:StrsAre acc.toList ks:=by
   refine i8 hal fun i v hv=>?_;obtain⟨k,x,hx,his⟩:=hacc.2 i v (by rw[←A3];exact hv)
   have e1:(vs.map (·.1))[i]?=some k:=by rw[zO,hx];rfl
   rw[←rel.keys,hk,zO] at e1;obtain⟨y,hy,e2⟩:=Option.map_eq_some_iff.mp e1;subst e2
   rcases bF (show jc (Sum.inr y) v=true from his) with ⟨i',t,e,_⟩ | ⟨y',t,e,e'⟩
   . cases e
   . cases e;exact⟨y,t,hy,e'⟩
 refine wpAny_bind (wpAny_newList ?_ (by rw[hal,sizeLine_eq];omega));have hoL:(h'.push (seqObj "list" acc.toList.toArray 0)).get? h'.objs.size=some (seqObj "list" acc.toList.toArray 0):=Heap.get?_push_size _ rfl;refine wpAny_bind (wpAny_holding (wpAny_call_entry slot_list_sort ⟨_,hoL,rfl⟩ entry_list_sort (list_sort_treeK strKind_oneLt hoL hst.keysOf (fun v1 v2 cE e=>keyKind_strs (by rw[←e];exact hst)) (by omega) fun st' a1 a2=>⟨_,rfl,?_⟩) (args_list_sort _)));obtain⟨ss',b1,b2,b3⟩:=sorted_out_str hst a1 a2;have hp:=b2.length_eq;have I1:Inv X pins σ H { s with heap:=h',toks:=tk }:=I.kept kk;obtain⟨e,he⟩:=sortedHeap_at (out:=(arrOf st').map (·.2)) hoL;refine wpAny_pure ⟨_,rfl,?_⟩;refine⟨.ref h'.objs.size,_,I1.laid (o:=.lst (ss'.map V.str)) (t':=tk) (fun b o x=>?_) (zR _) ⟨by rw[be,sizeLine_eq];omega,_,e,iq b1,he⟩,rfl,q _ ss' (I1.hok.fresh (zR _)) b2 b3⟩;have hlt:=Heap.lt_size x;rw[sortedHeap_old (Aa hlt) (by rw[Heap.size_push];exact A6 hlt)];exact Heap.get?_push_of_some _ x
def Itd (d:Addr)(o:Obj)(kvs:List (Key×V)):It:=⟨fun i H=>H d=some (.frz o (.dK kvs))∧i < kvs.length,fun i H x H'=>H'=H∧∃ k v,kvs[i]?=some (k,v)∧x=kV k,fun i H=>H d=some (.frz o (.dK kvs))∧i=kvs.length⟩
theorem kG {X:Cx}{pins:List (Addr×Obj)}{σ:St}{H:Hp}{s:Shared}{d:Addr}{o:Obj}{kvs:List (Key×V)}(I:Inv X pins σ H s)(h:H d=some (.frz o (.dK kvs))) :
   ∃ vs ep,(∃ es,o.data=.dict es ep)∧s.heap.DictAt (bJ X.prog X.w) d vs ep∧KV kvs vs∧(d==sysModules)=false:=by
 obtain⟨e,z,lo,vs,rel,o',es,ep,ho,r1,r2,r3⟩:=(show bP X.prog X.w H s.heap d (.frz o (.dK kvs)) from I.hok d _ h);rw[e] at ho;cases ho;exact⟨vs,ep,⟨es,r2⟩,⟨o,es,e,r1,r2,r3⟩,rel,lo⟩
theorem xM {k:Key}{v:Value}(h:jc k v=true):ba (kV k) v:=by
 rcases bF h with ⟨i,t,rfl,rfl⟩ | ⟨x,t,rfl,rfl⟩
 . exact⟨t,rfl⟩
 . exact⟨t,rfl⟩
theorem tQ {P:Program}{w:World}{K:PySem.W.Frag}{tg:Expr}(d it:Addr)(o:Obj)(kvs:List (Key×V)) (ep:Nat)(hep:∃ es,o.data=.dict es ep)(hne:d≠it):oj P w K tg (Itd d o kvs) [it] it (fun i h=>h.IsKeyIter it d i kvs.length ep) where
 mem:=by simp
 obj:=fun i h st b hb=>by
   have e:b=it:=by simpa using hb
   subst e;obtain⟨o,e,c,dd⟩:=st;exact⟨o,e,fun v z=>by rw[dd] at z;cases z⟩
 keep:=fun i h h' st k=>st.at fun o e=>k it (by simp) o e
 item:=by
   intro X hP hw hK hc i pins s σ H E I hf st hg;subst hP hw hK;obtain⟨hd,hi⟩:=hg;obtain⟨f0,f1,f2,f3,f4,f5⟩:=hf it (by simp);obtain⟨vs,ep',⟨es',h1⟩,hat,rel,lo⟩:=kG I hd;obtain⟨es,h2⟩:=hep;rw[h1] at h2;cases h2;have hl:=rel.length
   have st':s.heap.IsKeyIter it d i vs.length ep:=by rw[←hl];exact st
   refine(Walks.dictKeys (knd:=bJ X.prog X.w) (I.ok.hd hc) it d hne vs ep).item i s _ _ (by omega) ⟨st',hat⟩ fun v h' tk hv st2 kk=>?_;have I1:Inv X pins σ H { s with heap:=h',toks:=tk }:=I.turned (fun b o hb e=>kk b o (by simpa using hb) e) f0 f1 f3 f4 f5;obtain⟨k,x,hx,his⟩:=hv;obtain⟨oi,ei,ci,di⟩:=id st2.1
   have ek:∃ v0,kvs[i]?=some (k,v0):=by
     have e1:(vs.map (·.1))[i]?=some k:=by rw[zO,hx];rfl
     rw[←rel.keys,zO] at e1;obtain⟨p,hp,e2⟩:=Option.map_eq_some_iff.mp e1;exact⟨p.2,by rw[hp,←e2]⟩
   obtain⟨v0,hv0⟩:=ek;refine⟨_,rfl,oa (s:={ s with heap:=h',toks:=tk }) ei ci di (by decide) ⟨kV k,H,I1,xM his,⟨rfl,k,v0,hv0,rfl⟩,?_,fun b hb=>(hf b hb).1⟩⟩;rw[hl];exact st2.1
 done:=by
   intro X hP hw hK hc i pins s σ H E I hf st hg;subst hP hw hK;obtain⟨hd,rfl⟩:=hg;obtain⟨f0,f1,f2,f3,f4,f5⟩:=hf it (by simp);obtain⟨vs,ep',⟨es',h1⟩,hat,rel,lo⟩:=kG I hd;obtain⟨es,h2⟩:=hep;rw[h1] at h2;cases h2;have hl:=rel.length
   have st':s.heap.IsKeyIter it d vs.length vs.length ep:=by rw[←hl];exact st
   exact(Walks.dictKeys (knd:=bJ X.prog X.w) (I.ok.hd hc) it d hne vs ep).done s _ _ ⟨st',hat⟩ fun h' tk kk=>⟨rfl,I.turned (fun b o hb e=>kk b o (by simpa using hb) e) f0 f1 f3 f4 f5⟩
 self:=fun _ _ _ _ _ st h=>wpAny_pyIter_keyiter st h
theorem Inv.freeze {pins:List (Addr×Obj)}{σ:St}{H:Hp}{s:Shared}{d:Addr}{kvs:List (Key×V)}(I:Inv X pins σ H s)(h:H d=some (.dK kvs)):∃ o,s.heap.get? d=some o∧Inv X pins σ (upd H d (.frz o (.dK kvs))) s:=by
 obtain⟨z,lo,vs,rel,o,es,ep,ho,r⟩:=(show bP X.prog X.w H s.heap d (.dK kvs) from I.hok d _ h);refine⟨o,ho,?_⟩;have:=I.write (x:=d) (e:=d) (o:=.frz o (.dK kvs)) (h':=s.heap) (t':=s.toks) (by rw[h];exact True.intro) (.inl rfl) (fun b u _ e=>e) ⟨o,ho⟩ ⟨ho,z,lo,vs,rel,o,es,ep,ho,r⟩;exact this
def uL (td:TE):TI:=fun σ H R=>td σ H fun x H1=>∃ d kvs,x=.ref d∧((H1 d=some (.dK kvs)∧∀ o,R (Itd d o kvs) (upd H1 d (.frz o (.dK kvs))))∨∃ o,H1 d=some (.frz o (.dK kvs))∧R (Itd d o kvs) H1)
theorem mz {tg l:Expr}{tl:TE}(hl:PE X l tl):PI X tg l (uL tl):=by
 intro pins s σ H R I h;refine thn (hl s σ H _ I h) fun v s1 ⟨x,H1,I1,r1,d,kvs,e,q1⟩=>?_;subst e;cases r1
 have main:∀ (H2:Hp)(o:Obj),Inv X pins σ H2 s1→H2 d=some (.frz o (.dK kvs))→R (Itd d o kvs) H2→wpAny (model X.prog X.w) X.A (pyIter (.ref d)) (PIE X pins σ tg R) X.xe s1:=fun H2 o I2 hd q=>by
   obtain⟨vs,ep,hep,hat,rel,lo⟩:=kG I2 hd;refine wpAny_pyIter_dict lo hat ?_;have hlt:d < s1.heap.objs.size:=I2.hok.lt hd;have hl:=rel.length;refine⟨s1.heap.objs.size,[s1.heap.objs.size],_,_,H2,rfl,I2.kept (t':=s1.toks) fun b o e=>Heap.get?_push_of_some _ e,tQ d _ o kvs ep hep (Aa hlt),⟨_,Heap.get?_push_size _ rfl,rfl,by rw[←hl];rfl⟩,fun b hb=>?_,q⟩
   have e:b=s1.heap.objs.size:=by simpa using hb
   subst e;exact I2.fpOk (zR _) (I2.hok.fresh (zR _))
 rcases q1 with ⟨hd,q⟩ | ⟨o,hd,q⟩
 . obtain⟨o,ho,I2⟩:=I1.freeze hd;exact main _ o I2 ac (q o)
 . exact main _ o I1 hd q
theorem fN {H1:Hp}{d:Addr}{o:Obj}{kvs:List (Key×V)}(h:H1 d=some (.frz o (.dK kvs))):d6 (Itd d o kvs) H1 kvs.length (fun i x=>∃ k v,kvs[i]?=some (k,v)∧x=kV k) :=
 ⟨fun i H' hi s=>⟨s _ _ h,hi⟩,fun i H' x H2 hi s y=>y,fun H' s=>⟨s _ _ h,rfl⟩⟩
end
section
variable {X:Cx}
def yl:V→Option Int→Option Int→Hp→VK→Prop:=fun x lo hi H Q=>∃ z,x=.str z∧z.length≤sizeLine∧Q (.str (Txt.slice z lo hi)) H
theorem yF:SlR X yl:=by
 intro pins s σ H x v vl vu lo hi sl Q I rx hs pl pu h;obtain⟨z,rfl,hz,q⟩:=h;obtain⟨t,rfl⟩:=rx;refine⟨"str",_,slot_str_getitem.lookup,typeIs_str s z t,?_⟩
 obtain⟨l,hl1,hl2⟩:∃ l:Option (Int×Tok),vl=partValue l∧l.map (·.1)=lo:=by
   cases pl with
   | none=>exact⟨none,rfl,rfl⟩
   | int i t=>exact⟨some (i,t),rfl,rfl⟩
 obtain⟨u,hu1,hu2⟩:∃ u:Option (Int×Tok),vu=partValue u∧u.map (·.1)=hi:=by
   cases pu with
   | none=>exact⟨none,rfl,rfl⟩
   | int i t=>exact⟨some (i,t),rfl,rfl⟩
 subst hl1 hu1 hl2 hu2;refine wpAny_getItem_str_slice (l:=l) (u:=u) (st:=none) hs rfl ?_;have key:∀ P:Prop,True:=fun _=>trivial;unfold sliceMade
 have e:Txt.slice z (l.map (·.1)) (u.map (·.1))=if(((none:Option (Int×Tok)).map (·.1)).getD 1==1&&(slicePicked z l u none).length==z.length)=true then z else⟨((slicePicked z l u none).filterMap (z.cps[·]?)).toArray⟩:=rfl
 by_cases hc:(((none:Option (Int×Tok)).map (·.1)).getD 1==1&&(slicePicked z l u none).length==z.length)=true
 . rw[if_pos hc] at e ⊢;rw[e] at q;exact⟨.str z,H,I,⟨t,rfl⟩,q⟩
 . rw[if_neg hc] at e ⊢;have hle:=Txt.slice_le z (l.map (·.1)) (u.map (·.1));rw[e] at q hle;exact⟨AG hle hz,⟨.str _,H,I.tok _,⟨_,rfl⟩,q⟩⟩
theorem uN (hc:X.calm=true):MtR X "str.index" (fun x vs H Q=>∃ z y,x=.str z∧vs=[.str y]∧0≤Txt.find z y∧Q (.int (Txt.find z y)) H):=by
 intro pins s σ H x xs v us Q I rx rs h;obtain⟨z,y,rfl,rfl,h0,q⟩:=h;obtain⟨t,rfl⟩:=rx;obtain⟨u,rfl,ru⟩:=rs.one;obtain⟨t',rfl⟩:=ru;refine index_or (I.ok.hd hc) (fun e _=>by omega) fun _ _=>⟨.int _,H,I.tok _,⟨_,rfl⟩,q⟩
end
theorem zb {X:Cx}{c0 c1 c2 c3 c4 c5 c6 c7:Str} {j0 j1 j2 j3 j4 j5 j6 j7}{p0 p1 p2 p3 p4 p5 p6 p7:Pos}:PA X [.Constant (.str c0) j0 p0,.Constant (.str c1) j1 p1,.Constant (.str c2) j2 p2,.Constant (.str c3) j3 p3,.Constant (.str c4) j4 p4,.Constant (.str c5) j5 p5,.Constant (.str c6) j6 p6,.Constant (.str c7) j7 p7] (fY (tC (.str c0)) (fY (tC (.str c1)) (fY (tC (.str c2)) (fY (tC (.str c3)) (fY (tC (.str c4)) (fY (tC (.str c5)) (fY (tC (.str c6)) (fY (tC (.str c7)) tm)))))))):=(aa aA (aa aA (aa aA (aa aA (aa aA (aa aA (aa aA (aa aA ae))))))))
theorem sV {X:Cx}:cq X (.builtin "isinstance") (fun xs H Q=>∃ x C t b,xs=[x,.ref C]∧cx X.K H x t∧Ag X.K t (.ref C)=some b∧Q (.bl b) H):=by
 intro pins s σ H xs us Q I r h;obtain⟨x,C,t,b,rfl,ty,e,q⟩:=h;obtain⟨u,w',rfl,r1,r2⟩:=lE r;cases r2;exact lH I r1 ty e fun tk=>⟨.bl b,H,I.tok _,rfl,q⟩
theorem nQ {K:PySem.W.Frag}{C:Addr}:Ag K (.ref C) (.ref C)=some true:=by
 unfold Ag;rw[if_pos (by simp)]
theorem qL {X:Cx}:cq X (.type "dict") (fun xs H Q=>∃ a kvs,xs=[.ref a]∧Rd H a (.dK kvs)∧∀ p,H p=none→Q (.ref p) (upd H p (.dK kvs))):=by
 intro pins s σ H xs us Q I r h;obtain⟨a,kvs,rfl,e,q⟩:=h;obtain⟨u,rfl,r1⟩:=ej r;cases r1;exact t3 I e fun p s' hp I'=>⟨.ref p,_,I',rfl,q p hp⟩
def CX1 (P:Program)(w:World):CXT:=fun outer H s E ev s'=>∃ (e:Addr) (cls a0:Value)(H':Hp)(B:Heap),ev=.ref e∧s'.os=s.os∧AllBare s'.gens∧Un (frs outer) [] H H' s.heap s'.heap∧HOk P w H' s'.heap∧Heap.FlyingW B outer e cls a0 s'.heap ∧
 (∀ b o,s.heap.get? b=some o→b∉frs outer→∃ o',B.get? b=some o'∧(H b=none→o'=o))∧(∀ b u,H' b=some u→∀ o,s'.heap.get? b=some o→B.get? b=some o)∧E cls none H'
theorem HOk.by {P:Program}{w:World}{H:Hp}{h h':Heap}(x:HOk P w H h)(k:∀ b u,H b=some u→∀ o,h.get? b=some o→h'.get? b=some o):HOk P w H h':=fun a o e =>
 (x a o e).stay (fun b u hb q=>by
   rcases hb with rfl | hb
   . exact k b o e u q
   . exact k b _ hb u q) (fun _ q=>q) fun _ _ q=>q
theorem HOk.has {P:Program}{w:World}{H:Hp}{h:Heap}(x:HOk P w H h){a:Addr}{o:HO}(e:H a=some o):∃ ob,h.get? a=some ob:=by
 have y:=x a o e;clear e
 induction o with
 | lst xs=>obtain⟨_,_,_,_,e⟩:=y;exact⟨_,e⟩
 | tup xs=>obtain⟨_,_,_,o,e,_⟩:=y;exact⟨_,e⟩
 | dK kvs=>obtain⟨_,_,_,_,o,_,_,e,_⟩:=y;exact⟨_,e⟩
 | dT kvs=>obtain⟨_,_,_,_,o,_,_,e,_⟩:=y;exact⟨_,e⟩
 | set S n=>obtain⟨o,_,_,_,e,_⟩:=y;exact⟨_,e⟩
 | ins C dx fs=>obtain⟨_,_,_,e,_⟩:=y;exact⟨_,e⟩
 | own z=>obtain⟨_,e⟩:=y;exact⟨_,e⟩
 | xd fs=>obtain⟨_,⟨_,_,_,e,_⟩,_⟩:=y;exact⟨_,e⟩
 | rng lo hi=>obtain⟨_,_,_,e⟩:=y;exact⟨_,e⟩
 | frz ob u ih=>obtain⟨e,_⟩:=y;exact⟨_,e⟩
 | tbl ps=>exact⟨_,y⟩
 | met f z=>exact⟨_,y⟩
 | ext φ=>obtain⟨_,⟨o,e⟩,_⟩:=y;exact⟨o,e⟩
section
variable {X:Cx}{pins:List (Addr×Obj)}{σ:St}{H:Hp}{s:Shared}{h' B:Heap}{e:Addr}{cls a0:Value}{E:XK}
theorem u3 (I:Inv X pins σ H s)(hex:X.ex=[])(fl:Heap.FlyingW B X.outer e cls a0 h')(up:s.heap.UpToSlots h')
   (k1:∀ b o,X.s₀.heap.get? b=some o→b∉X.fs→∃ o',B.get? b=some o'∧(X.H₀ b=none→o'=o))(k2:∀ b u,H b=some u→∀ o,s.heap.get? b=some o→B.get? b=some o)(q:E cls none H) :
   CX1 X.prog X.w X.outer X.H₀ X.s₀ E (.ref e) { s with heap:=h' }:=by
 have nox:∀ b:Addr,b∉X.ex:=fun b=>by rw[hex];simp
 have k2':∀ b u,H b=some u→∀ o,s.heap.get? b=some o→h'.get? b=some o:=fun b u hb o ho=>fl.1 b o (k2 b u hb o ho);refine⟨e,cls,a0,H,B,rfl,I.os,I.bare,⟨fun b o ho hn hf _=>?_,fun b o ho hn hf _=>?_,fun b o ho hn _=>I.base.free b o ho hn (nox b),fun b o ho _=>?_,I.base.tups,I.base.frzs,I.base.tbls⟩,I.hok.by k2',fl,k1,fun b u hb o ho=>?_,q⟩
 . obtain⟨o',e1,e2⟩:=k1 b o ho hf;rw[e2 hn] at e1;exact fl.1 b o e1
 . obtain⟨sl,e1⟩:=I.base.slot b o ho hn hf (nox b);obtain⟨_,oo,e2,e3⟩:=I.ok.funs.mem hf;rw[ho] at e2;cases e2;obtain⟨sl2,e4⟩:=up b _ e1 e3;exact⟨sl2,e4⟩
 . by_cases hf:b∈X.fs
   . obtain⟨_,oo,e2,e3⟩:=I.ok.funs.mem hf;rw[ho] at e2;cases e2;have hn:=I.ok.frf b hf;obtain⟨sl,e1⟩:=I.base.slot b o ho hn hf (nox b);obtain⟨sl2,e4⟩:=up b _ e1 e3;exact⟨_,e4⟩
   . obtain⟨o',e1,_⟩:=k1 b o ho hf;exact⟨o',fl.1 b o' e1⟩
 . obtain⟨ob,hob⟩:=I.hok.has hb;have e1:=k2 b u hb ob hob;have e2:=fl.1 b ob e1;have ho':h'.get? b=some o:=ho;rw[e2] at ho';cases ho';exact e1
end
theorem bD {P:Program}{w:World}{K:PySem.W.Frag}{mg:Str→Option Value}{base:Heap}{N:List Str}{qual:Str}{scope:Scope}{f:Addr}{cd:Value}{A:Around}{outer:List Env}{s0:Shared}{H0:Hp}{E:XK} :
   dq (CX1 P w) (eO (CX1 P w) P w K mg base N qual scope f cd A outer s0 H0 E) E:=by
 rintro pins σ H s ev s' I ⟨e,cls,a0,H',B,rfl,hos,hba,hun,hok,hfl,k1,k2,q⟩;have I':=I.call' (s':=s') (ch:=[]) hos hun hok hba (fun b z=>absurd z (by simp));show wpAny (model P w) (A.deeper (envOfC qual scope s0.heap.objs.size f cd)) (leaving (envOfC qual scope s0.heap.objs.size f cd) (.ref e)) _ _ s';refine wpAny_leaves_onW (L:=s0.heap.objs.size) I.ok.frames rfl hfl fun h' fl up=>?_;refine u3 I' rfl fl up (fun b o ho hf=>?_) k2 q;have hbl:b < s0.heap.objs.size:=Heap.lt_size ho;obtain⟨o1,ho1⟩:=I.base.there b o ho (by simp[eO])
 have hns:b∉frs (envOfC qual scope s0.heap.objs.size f cd::outer):=fun z=>by
   rcases List.mem_cons.mp (I.stkSub b z) with e1 | e1
   . have e2:b=s0.heap.objs.size:=e1;rw[e2] at hbl;exact absurd hbl (Bb _)
   . exact hf e1
 obtain⟨o',e1,e2⟩:=k1 b o1 ho1 hns;refine⟨o',e1,fun hn=>?_⟩;have hn':H b=none:=I.base.free b o ho hn (by simp[eO]);have:=I.base.keep b o ho hn hf (by simp[eO]);rw[ho1] at this;cases this;exact e2 hn'
theorem yk {P:Program}{w:World}{K:PySem.W.Frag}{mg:Str→Option Value}{base:Heap}{N:List Str}{qual:Str}{scope:Scope}{f:Addr}{cd:Value}{A:Around}{outer:List Env}{s0:Shared}{H0:Hp}{E:XK}
   {pins:List (Addr×Obj)}{σ:St}{H:Hp}{s:Shared}{h1:Heap}{e:Addr}{cls:Value}{args:List Value}(I:Inv (eO (CX1 P w) P w K mg base N qual scope f cd A outer s0 H0 E) pins σ H s)(hx:Heap.MadeExcOf s.heap h1 e cls args)(q:E cls none H) :
   (eO (CX1 P w) P w K mg base N qual scope f cd A outer s0 H0 E).xe (.ref e) { s with heap:=h1 }:=by
 have I':=I.kept (t':=s.toks) hx.keeps;have hfrs:=I.stack;show wpAny (model P w) (A.deeper (envOfC qual scope s0.heap.objs.size f cd)) (leaving (envOfC qual scope s0.heap.objs.size f cd) (.ref e)) _ _ { s with heap:=h1 };have hin:∀ env∈(envOfC qual scope s0.heap.objs.size f cd::outer),∀ b,env.frame=some b→b∈frs (envOfC qual scope s0.heap.objs.size f cd::outer):=fun env he b hb=>List.mem_filterMap.mpr ⟨env,he,hb⟩;refine wpAny_leaves_madeW (base:=PySem.W.hideAll s.heap (frs (envOfC qual scope s0.heap.objs.size f cd::outer))) (h:=s.heap) (L:=s0.heap.objs.size) I.ok.frames rfl (fun b o q=>PySem.W.of_hideAll _ q) (PySem.W.funFrames_hide hfrs hin) hx fun h' t fl _ _ up=>?_;refine u3 I' rfl fl up (fun b o ho hf=>?_) (fun b u hb o ho=>?_) q
 . have hbl:b < s0.heap.objs.size:=Heap.lt_size ho;obtain⟨o1,ho1⟩:=I.base.there b o ho (by simp[eO])
   have hns:b∉frs (envOfC qual scope s0.heap.objs.size f cd::outer):=fun z=>by
     rcases List.mem_cons.mp (I.stkSub b z) with e1 | e1
     . have e2:b=s0.heap.objs.size:=e1;rw[e2] at hbl;exact absurd hbl (Bb _)
     . exact hf e1
   refine⟨o1,B1 _ ho1 hns,fun hn=>?_⟩;have:=I.base.keep b o ho hn hf (by simp[eO]);rw[ho1] at this;exact Option.some.inj this
 . obtain⟨ob,hob⟩:=I.hok.has hb;have e1:h1.get? b=some ob:=hx.keeps b ob hob;have e2:h1.get? b=some o:=ho;rw[e1] at e2;cases e2;refine B1 _ hob fun z=>?_;have:=I.stkFree b z;rw[hb] at this;cases this
section
variable {P:Program}{w:World}{K:PySem.W.Frag}{mg:Str→Option Value}{base:Heap}
theorem Fun.okX {x qual:Str}{st:Stmt}{f:Addr}{fd:FuncData}{N ps:List Str}{k:Nat}{sp:Sp}(F:Fun K x qual st f fd)(S:aw N ps (ao st))(len:∀ vs H Q E,sp vs H Q E→vs.length=ps.length)
   (hbody:∀ (cdv:Value)(A:Around)(outer:List Env)(s:Shared)(H:Hp)(vs:List V)(Q:VK)(E:XK),cL k (A.deeper (envOfC qual (ao st) s.heap.objs.size f cdv))→sp vs H Q E →
     ∃ t,PSs (eO (CX1 P w) P w K mg base N qual (ao st) f cdv A outer s H E) (dF st) t∧t { nx:=fun _ H'=>Q .non H',rt:=Q } (start N vs) H):aU P w K mg base (CX1 P w) (k+1) f fd ps sp:=by
 obtain⟨oc,od,kV,doc,pm,an,cdv,ct,osl,rfl,lk,hcd⟩:=F.ex;exact xr lk hcd S len fun A outer s H vs Q E hr hsp=>hbody cdv A outer s H vs Q E hr hsp
end
theorem wH {K:PySem.W.Frag}{h:Heap}{C:Addr}{bmB:List Value}{newId:String}(X:K.In h)(q:Cz K C bmB newId=true) :
   ∃ bm N nm qn bs hdct sn sub ab col dd k0 k1 k2 k3 k5 mN,h.get? C=some (excClassObj nm qn C N bs bm hdct sn sub ab col dd k0 k1 k2 k3 k5 newId)∧h.Ns N mN∧mN "__init__"=none∧OwnTail h bmB bm:=by
 simp only[Cz] at q
 split at q
 case h_2=>cases q
 case h_1 c0 sl0 lk0 =>
   split at q
   case h_2=>cases q
   case h_1 Cc tl z0 z1 z2 z3 nn z5 hmro hslo =>
     rename_i dd0;rw[Bool.and_eq_true,Bool.and_eq_true,Bool.and_eq_true,Bool.and_eq_true,Bool.and_eq_true] at q;obtain⟨⟨⟨⟨⟨q1,q2⟩,q3⟩,q4⟩,q5⟩,q6⟩:=q;obtain rfl:=beq_iff_eq.mp q1;obtain rfl:=beq_iff_eq.mp q2
     have q3':c0.hasDel=false:=by simpa using q3
     have q6':=beq_iff_eq.mp q6;obtain⟨c1,c2,c3,c4,c5,c6,c7,c8,c9,c10,c11⟩:=c0;dsimp only at hmro q3' q5 q6';subst hmro;subst q3'
     have hsl:sl0=#[z0,z1,z2,z3,some (.builtin nn),z5]:=by
       cases sl0;simp only at hslo;rw[hslo]
     subst hsl;exact⟨tl,_,_,_,_,_,_,_,_,_,_,_,_,_,_,_,_,X _ _ lk0,.of_isNs (PySem.W.isNs_of_in X q5),PySem.W.nsMap_none_of_in X q5 q6',PySem.W.tail_of_in X q4⟩
def qi (C:Addr)(E:XK)(ta:TA):TS:=fun D σ H=>ta σ H fun vs H1=>vs.length≤1000∧E (.ref C) none H1
def zn (X:Cx)(E:XK):Prop:=∀ (pins:List (Addr×Obj)) (σ:St)(H:Hp)(s:Shared)(h1:Heap)(e:Addr) (cls:Value)(args:List Value),Inv X pins σ H s→Heap.MadeExcOf s.heap h1 e cls args→E cls none H→X.xe (.ref e) { s with heap:=h1 }
theorem df {P:Program}{w:World}{K:PySem.W.Frag}{mg:Str→Option Value}{base:Heap}{N:List Str}{qual:Str}{scope:Scope}{f:Addr}{cd:Value}{A:Around}{outer:List Env}{s0:Shared}{H0:Hp}{E:XK} :
 zn (eO (CX1 P w) P w K mg base N qual scope f cd A outer s0 H0 E) E:=fun pins σ H s h1 e cls args I hx q=>yk I hx q
theorem bA {X:Cx}{x:Str}{C:Addr}{a1:Expr}{ta:TA}{E:XK}{bmB:List Value}{B newId initId:String}{np cpos pos:Pos}(hc:X.calm=true)(hg:Gl X x)(hm:X.mg x=some (.ref C))(he:Cz X.K C bmB newId=true)(FB:ExcBaseFacts B newId initId bmB)
   (ha:PA X [a1] ta)(hR:zn X E)(hs:starEach [a1] X.env=[(false,eval a1 X.env)]:=by rfl)(hd:(x==("__debug__":Str))=false:=by decide) :
   PS X (.Raise (some (.Call (.Name x np) [a1] [] cpos)) none pos) (qi C E ta):=by
 intro pins s σ H D I h;obtain⟨tl,N,nm,q,bs,hdct,sn,sub,ab,col,dd,k0,k1,k2,k3,k5,mN,hC,hN,hni,T⟩:=wH I.mod.kin he;refine wpAny_Raise_call_subT (C:=C) (nm:=nm) (q:=q) (N:=N) (bs:=bs) (bm:=tl) (hdct:=hdct) (sn:=sn) (sub:=sub) (ab:=ab) (col:=col) (dd:=dd) (k0:=k0) (k1:=k1) (k2:=k2) (k3:=k3) (k5:=k5) FB (mN:=mN) (T.hasType FB.hasBase) (I.ok.hd hc) (by rw[hs];rfl) hni (g0 I hg hm ⟨rfl,?_⟩ hd);have h2:=ha cpos s σ H _ I h;rw[hs] at h2 ⊢;refine Calls.evalArgs_plain (wpAny_mono h2 (fun us s2 h3=>?_) fun _ _ y=>y);obtain⟨vs,H1,I1,rv,hl,q1⟩:=h3;refine⟨rfl,?_,I1.bk _ _ hC,hN.keeps I1.bk,T.keeps I1.bk,fun h' e hx=>hR pins σ H1 s2 h' e _ _ I1 hx q1⟩;show us.length≤sizeLine;rw[←rv.length,sizeLine_eq];omega
theorem fg {X:Cx}{x:Str}{j:Nat}{value:Expr}{tv:TE}{p1 p2 pos:Pos}(hv:PE X value tv)(hx:x.length≤1000:=by decide)(hev:evalEach [.Constant (.str x) j p1,.FormattedValue value 114 none p2] X.env=[eval (.Constant (.str x) j p1) X.env,eval (.FormattedValue value 114 none p2) X.env]:=by rfl) :
   PE X (.JoinedStr [.Constant (.str x) j p1,.FormattedValue value 114 none p2] pos) (fun σ H Q=>tv σ H fun v H1=>∃ z:Str,v=.str z∧z.length≤1000∧(∀ c∈z.cps.toList,c < 1114112)∧∀ y,Q (.str y) H1):=by
 intro pins s σ H Q I h;refine wpAny_JoinedStr ?_;rw[hev]
 have hS:(1000000:Nat)≤sizeLine:=by rw[sizeLine_eq];decide
 refine Calls.Constant_str ⟨x,_,rfl,?_,?_⟩
 . have:(BI++x).length=x.length:=by rw[PySem.Str.length_append];simp[BI,PySem.Str.length]
   rw[this];omega
 refine wpAny_FormattedValue_repr (thn (hv _ σ H _ (I.tok _) h) fun u s1 h1=>?_);obtain⟨v,H1,I1,rv,z,rfl,hz,hzc,q⟩:=h1;obtain⟨t,rfl⟩:=(show ∃ t,u=Value.str z t from rv);have hl:(reprText z).length≤10*z.length+2:=StrLaws.reprText_len z (fun c hc=>Ae (hzc c hc) (by decide))
 have e0:(BI++x).length=x.length:=by rw[PySem.Str.length_append];simp[BI,PySem.Str.length]
 refine pyReprObj_str ?_ (by omega)
 have fin:∀ s2 t2,Inv X pins σ H1 s2→∃ y t,(Value.str (reprText z) t2)=.str y t∧(BI++x++y).length≤sizeLine∧Joins (model X.prog X.w) X.A X.xe [] (BI++x++y) (fun out s₁=>out.length≤sizeLine∧EP X pins σ Q (.str out s₁.toks) { s₁ with toks:=s₁.toks+1 }) s2:=fun s2 t2 I2=>by
   have hlen:(BI++x++reprText z).length≤sizeLine:=by rw[PySem.Str.length_append,e0];omega
   exact⟨_,_,rfl,hlen,hlen,.str (BI++x++reprText z),H1,I2.tok _,⟨_,rfl⟩,q _⟩
 exact wpAny_formatField_str (fin _ _ (I1.tok _)) (fin _ _ ((I1.tok _).tok _)) (by omega)
end L2
namespace L2
open PySem PySem.Spec PyProof.Rows PySem.W Builtin.Getset_descriptor
def iZ (e C:Addr)(h:Heap):Prop:=∃ oo:Obj,h.get? e=some oo∧oo.cls=.ref C
theorem iZ.ty {e C:Addr}{h:Heap}(c:iZ e C h)(M:Model):Looks M h (typeOf (.ref e)) (.ref C):=by
 obtain⟨oo,h1,h2⟩:=c;rw[←h2];exact(Looks.ld h1).andThen .now
theorem zd {α:Type}{M:Model}{A:Around}{Q:α→Shared→Prop}{E:Value→Shared→Prop}{s:Shared}{t u:Sem α}(h:t=u)(k:wpAny M A u Q E s):wpAny M A t Q E s:=h▸k
section
variable {pg:Program}{wd:World}{Ar:Around}{Er:Value→Shared→Prop}{sh:Shared}{KK:Frag}{e C:Addr}
theorem wN {h:Heap}{M:Model}{a g:Value}{nm:Str}(XX:KK.In h)(q1:findIn KK (.ref C) nm=some (some a))(q2:specialIn KK a "__get__"=some (some g))(q3:takesIn KK a=some true) :
   Looks M h (Builtin.ObjectAttr.find (.ref e) (.ref C) nm) (.bind g a):=by
 have l3:Looks M h (Builtin.ObjectAttr.dataDescriptor? (some a) (some g)) (some (g,a)):=(looks_takesIn (M:=M) XX q3).andThen .now;exact(looks_findIn (M:=M) XX q1).andThen ((looks_specialIn (M:=M) XX q2).andThen (l3.andThen (Looks.tag .now)))
theorem vv {tp:Value}{RR:Result→Shared→Prop}(XX:KK.In sh.heap)(c:iZ e C sh.heap)(q5:mroIn KK C (.type "object")=some true)(go:RR (.ok (.ret (.ref C))) sh) :
   codeAny (model pg wd) Ar (.call (.builtin "getset_descriptor.__get__") ⟨[.builtin "object.__class__",.ref e,tp],[]⟩) RR sh:=by
 obtain⟨y1,y2,y3,y4,y5⟩:=sh;have t0:=c.ty (model pg wd);have t1:=looks_mroIn (M:=model pg wd) XX q5;refine codeAny_call_builtin KF.slot_gs.plain KF.entry_gs ?_;refine KF.slot_gs.check _ _ _ _ _ _ _ _ KF.type_class (KF.args_gs _ _ _) ?_;unfold Builtin.«getset_descriptor.__get__» descrGet;rw[dga_obj];refine wpAny_bind (wpAny_pure ?_);unfold descrGetter descrCheckInstance descrNameAndClass isInstance;simp only[KF.owner_class]
 repeat lk
 refine⟨Code.quiet_builtin _ (by decide),codeAny_builtin KF.entry_class ?_⟩;unfold Builtin.«object.__class__» shownTypeOf
 repeat lk
 exact go
theorem qQ {a g:Value}{nm:Str}{tk:Tok}{RR:Result→Shared→Prop}(XX:KK.In sh.heap)(c:iZ e C sh.heap)(q1:findIn KK (.ref C) nm=some (some a))(q2:specialIn KK a "__get__"=some (some g))(q3:takesIn KK a=some true)
   (qb:mroIn KK C (.type "BaseException")=some true)(go:∀ Er:Value→Shared→Prop,wpAny (model pg wd) Ar.in1 (call g [a,.ref e,.ref C]) (fun v s'=>RR (.ok (.ret v)) s') Er sh) :
   codeAny (model pg wd) Ar (.call (.builtin "BaseException.__getattribute__") ⟨[.ref e,.str nm tk],[]⟩) RR sh:=by
 obtain⟨y1,y2,y3,y4,y5⟩:=sh;have t0:=c.ty (model pg wd);have t1:=looks_mroIn (M:=model pg wd) XX qb;have t2:=wN (e:=e) (M:=model pg wd) XX q1 q2 q3
 have hk:builtinKind "BaseException.__getattribute__"=some .slot:=by decide
 have hsplit:splitId "BaseException.__getattribute__"=some ("BaseException", "__getattribute__"):=by decide
 have ha:=F.args_bexc_ga (.ref e) (.str nm tk);refine codeAny_call_builtin F.attr_ValueError.ga.plain F.entry_bexc_ga ?_;simp only[checkBuiltinCall,hk,hsplit];refine wpAny_bind ?_;unfold isInstance;refine wpAny_bind (t0.at (t1.at ?_));unfold argsOk at ha
 with_unfolding_all refine zd ha ?_
 refine wpAny_pure ?_;refine wpAny_bind (wpAny_pure ?_);refine wpAny_bind (wpAny_pure ?_);refine wpAny_bind (t0.at ?_);refine wpAny_bind (t2.at ?_);show wpAny _ _ (holding [a] (call g [a,.ref e,.ref C]) >>= ret) _ _ _;exact wpAny_bind (wpAny_holding (wpAny_mono (go _) (fun v s' hz=>wpAny_pure hz) fun _ _ hz=>hz))
theorem wE {W:Option Value→Shared→Prop}(XX:KK.In sh.heap)(c:iZ e C sh.heap)(q0:findIn KK (.ref C) "__getattribute__"=some (some (.builtin "BaseException.__getattribute__")))(q4:findIn KK (.ref C) "__getattr__"=some none)
   (q1:findIn KK (.ref C) "__class__"=some (some (.builtin "object.__class__")))(q2:specialIn KK (.builtin "object.__class__") "__get__"=some (some (.builtin "getset_descriptor.__get__")))(q3:takesIn KK (.builtin "object.__class__")=some true)
   (qb:mroIn KK C (.type "BaseException")=some true)(q5:mroIn KK C (.type "object")=some true)(go:W (some (.ref C)) { sh with toks:=sh.toks+1 }) :
   wpAny (model pg wd) Ar (getAttr? (.ref e) "__class__") W Er sh:=by
 obtain⟨y1,y2,y3,y4,y5⟩:=sh;have t0:=c.ty (model pg wd);have t1:=looks_findIn (M:=model pg wd) XX q0;have t2:=looks_findIn (M:=model pg wd) XX q4
 have hx2:(Value.builtin "BaseException.__getattribute__"==Value.builtin "object.__getattribute__")=false:=by decide
 unfold getAttr? getAttrBy? getAttrBy;refine wpAny_bind (wpAny_mkText (wpAny_bind (wpAny_attempt ?_)));refine wpAny_holding (wpAny_bind (t0.at (wpAny_bind (t1.at ?_))))
 have e1:(onTheHeap (.ref C)&&Value.builtin "BaseException.__getattribute__"==Value.builtin "object.__getattribute__")=false:=by rw[hx2];rfl
 show wpAny _ _ (if(onTheHeap (.ref C)&&Value.builtin "BaseException.__getattribute__"==Value.builtin "object.__getattribute__")=true then _ else getAttrByItsOwn _ _ _ _ _ _) _ _ _;rw[e1];show wpAny _ _ (getAttrByItsOwn _ _ _ _ _ _) _ _ _;unfold getAttrByItsOwn;refine wpAny_bind ?_;show wpAny _ _ (typeLookup (.ref C) "__getattr__") _ _ _;refine t2.at ?_;refine wpAny_bind (wpAny_attempt (wpAny_holding ?_));show wpAny _ _ (boundAndCalled _ _ _) _ _ _;unfold boundAndCalled;rw[F.attr_ValueError.ga.bind];refine wpAny_bind (wpAny_pure ?_);show wpAny _ _ (call (.builtin "BaseException.__getattribute__") [.ref e,.str "__class__" _]) _ _ _;refine wpAny_call (qQ (sh:=⟨y1,y2,y3,y4+1,y5⟩) XX c q1 q2 q3 qb fun Er'=>wpAny_call (vv (sh:=⟨y1,y2,y3,y4+1,y5⟩) XX c q5 ?_));exact handed_on rfl (wpAny_pure go)
end
structure ExcC (K:Frag)(C:Addr):Prop where
 exc:excIn K C [.type "ValueError",.type "Exception",.type "BaseException",.type "object"] "ValueError.__new__"=true
 ga:findIn K (.ref C) "__getattribute__"=some (some (.builtin "BaseException.__getattribute__"))
 gt:findIn K (.ref C) "__getattr__"=some none
 cl:(clsIn K C).isSome=true
 ha:findIn K (.ref C) "__class__"=some (some (.builtin "object.__class__"))
 hn:specialIn K (.builtin "object.__class__") "__get__"=some (some (.builtin "getset_descriptor.__get__"))
 ht:takesIn K (.builtin "object.__class__")=some true
 hm:mroIn K C (.type "object")=some true
 hb:mroIn K C (.type "BaseException")=some true
theorem om {K:Frag}{e C:Addr}(c:ExcC K C):KitX K (.ref e) (.ref C) (iZ e C) where
 ty:=fun M h _ p=>p.ty M
 it:=fun M h XX _=>by
   obtain⟨cd,hcd⟩:=Option.isSome_iff_exists.mp c.cl;unfold clsIn at hcd
   split at hcd
   case h_2=>cases hcd
   case h_1 lk0 =>
     intro A' Q' E' s' k q;unfold isType loadHead;exact wpAny_bind (wpAny_loadPart (k _ _ (XX _ _ lk0)) (wpAny_pure q))
 ne:=fun h tp dd its n sl XX htp=>by
   obtain⟨cd,hcd⟩:=Option.isSome_iff_exists.mp c.cl;refine Bool.eq_false_iff.mpr fun q=>?_;have q':C=tp:=Value.ref.inj (beq_iff_eq.mp q);subst q';unfold clsIn at hcd
   split at hcd
   case h_2=>cases hcd
   case h_1 lk0 =>
     have z:=(XX _ _ lk0).symm.trans htp;cases z
 ca:=fun {prog w A E Q s} XX p k=>wE XX p c.ga c.gt c.ha c.hn c.ht c.hb c.hm k
theorem tw {X:Cx}{e C:Addr}{oe:Obj}(hp:(e,oe)∈X.pn)(hc:oe.cls=.ref C)(c:ExcC X.K C) :
   cq X (.builtin "isinstance") (fun xs H Q=>∃ D b,((xs=[.ref e,.ref D]∧kitOne X.K (.ref C) (.ref D)=some b)∨∃ T,xs=[.ref e,.ty T]∧kitOne X.K (.ref C) (.type T)=some b)∧Q (.bl b) H):=by
 intro pins s σ H xs us Q I r h;have hat:iZ e C s.heap:=⟨oe,(I.pin _ (AX _ hp)).1,hc⟩;obtain⟨D,b,h,q⟩:=h
 rcases h with ⟨rfl,k⟩ | ⟨T,rfl,k⟩
 . obtain⟨u,w',rfl,r1,r2⟩:=lE r;cases r1;cases r2;exact kia_one (om c) I.kIn hat k (fun z=>nomatch z) fun tk=>⟨.bl b,H,I.tok _,rfl,q⟩
 . obtain⟨u,w',rfl,r1,r2⟩:=lE r;cases r1;cases r2;exact kia_one (om c) I.kIn hat k (fun z=>nomatch z) fun tk=>⟨.bl b,H,I.tok _,rfl,q⟩
end L2
namespace L2
open PySem PySem.Spec PyProof.Rows PySem.W
abbrev Cx.bear (X:Cx)(pn:List (Addr×Obj))(W:Value→Shared→Prop):Cx:={ X with pn:=pn,xe:=W }
abbrev cxH (X:Cx)(e:Addr)(oe:Obj):Cx:={ X with A:=X.A.mark (some (.ref e)),calm:=false,pn:=(e,oe)::X.pn,xe:=fun _ _=>False }
section
variable {X:Cx}{pins pins':List (Addr×Obj)}{σ:St}{H H':Hp}{s s':Shared}{W:Value→Shared→Prop}
theorem Inv.toBear (I:Inv X pins σ H s)(W:Value→Shared→Prop):Inv (X.bear (X.pn++pins) W) [] σ H s :=
 ⟨⟨I.ok.mod,I.ok.kind,I.ok.glob,I.ok.blt,I.ok.above,I.ok.inj,I.ok.has,I.ok.cab,I.ok.hd,I.ok.frames,I.ok.stk,I.ok.exf,I.ok.bs,I.ok.bsz,I.ok.noex,I.ok.exfs,I.ok.funs,I.ok.frf⟩,I.os,I.bare,I.base,I.loc,I.cell,I.free,I.freeC,fun p hp=>I.pin p (by rw[AO] at hp;exact hp),I.hok,I.len⟩
theorem Inv.ofBear (I:Inv (X.bear (X.pn++pins) W) pins' σ H s):Inv X pins σ H s :=
 ⟨⟨I.ok.mod,I.ok.kind,I.ok.glob,I.ok.blt,I.ok.above,I.ok.inj,I.ok.has,I.ok.cab,I.ok.hd,I.ok.frames,I.ok.stk,I.ok.exf,I.ok.bs,I.ok.bsz,I.ok.noex,I.ok.exfs,I.ok.funs,I.ok.frf⟩,I.os,I.bare,I.base,I.loc,I.cell,I.free,I.freeC,fun p hp=>I.pin p (AX _ hp),I.hok,I.len⟩
theorem SP.ofBear {D:gk}{f:Flow}(h:SP (X.bear (X.pn++pins) W) pins' D f s'):SP X pins D f s':=by
 cases f with
 | next=>obtain⟨σ',H',I,q⟩:=h;exact⟨σ',H',I.ofBear,q⟩
 | brk=>obtain⟨σ',H',I,q⟩:=h;exact⟨σ',H',I.ofBear,q⟩
 | cont=>obtain⟨σ',H',I,q⟩:=h;exact⟨σ',H',I.ofBear,q⟩
 | ret u=>obtain⟨v,σ',H',I,r,q⟩:=h;exact⟨v,σ',H',I.ofBear,r,q⟩
theorem Inv.toH {e:Addr}{oe:Obj}(I:Inv X pins σ H s)(he:s.heap.get? e=some oe)(hn:H e=none)(hl:e≠X.env.locals)(hf:e∉X.fs)(hc:∀ v,oe.data≠.cell v):Inv (cxH X e oe) pins σ H s :=
 ⟨⟨I.ok.mod,I.ok.kind,I.ok.glob,I.ok.blt,I.ok.above,I.ok.inj,I.ok.has,I.ok.cab,fun z=>(nomatch z),I.ok.frames,I.ok.stk,I.ok.exf,I.ok.bs,I.ok.bsz,I.ok.noex,I.ok.exfs,I.ok.funs,I.ok.frf⟩,I.os,I.bare,I.base,I.loc,I.cell,I.free,I.freeC,fun p hp=>by
   rcases List.mem_cons.mp (show p∈(e,oe)::(X.pn++pins) from hp) with rfl | hp
   . exact⟨he,hn,hl,hf,hc⟩
   . exact I.pin p hp,I.hok,I.len⟩
theorem Inv.ofH {e:Addr}{oe:Obj}(ok:X.Ok)(I:Inv (cxH X e oe) pins σ H s):Inv X pins σ H s :=
 ⟨ok,I.os,I.bare,I.base,I.loc,I.cell,I.free,I.freeC,fun p hp=>I.pin p (z7 _ hp),I.hok,I.len⟩
theorem xY {B h5:Heap}(I:Inv X pins σ H s)(hos:s'.os=s.os)(hba:AllBare s'.gens)(hun:Un (frs X.stack) [] H H' s.heap s'.heap)(hok:HOk X.prog X.w H' s'.heap)(hB:B.StaysIn h5)(up:s'.heap.UpToSlots h5)
   (k1:∀ b o,s.heap.get? b=some o→b∉frs X.stack→∃ o',B.get? b=some o'∧(H b=none→o'=o))(k2:∀ b u,H' b=some u→∀ o,s'.heap.get? b=some o→B.get? b=some o):Inv X pins σ H' { s' with heap:=h5 }:=by
 have no:∀ b:Addr,b∉([]:List Addr):=fun b z=>by cases z
 refine I.call' (s':={ s' with heap:=h5 }) (ch:=[]) hos ⟨fun b o ho hn hf _=>?_,fun b o ho hn hf _=>?_,hun.free,fun b o ho _=>?_,hun.tups,hun.frzs,hun.tbls⟩ (hok.by fun b u hb o ho=>hB b o (k2 b u hb o ho)) hba (fun b z=>absurd z (no b))
 . obtain⟨o',e1,e2⟩:=k1 b o ho hf;rw[e2 hn] at e1;exact hB b o e1
 . obtain⟨sl,e1⟩:=hun.slot b o ho hn hf (no b);obtain⟨_,oo,e2,e3⟩:=I.stack.mem hf;rw[ho] at e2;cases e2;obtain⟨sl2,e4⟩:=up b _ e1 e3;exact⟨sl2,e4⟩
 . by_cases hf:b∈frs X.stack
   . obtain⟨_,oo,e2,e3⟩:=I.stack.mem hf;rw[ho] at e2;cases e2;obtain⟨sl,e1⟩:=hun.slot b o ho (I.stkFree b hf) hf (no b);obtain⟨sl2,e4⟩:=up b _ e1 e3;exact⟨_,e4⟩
   . obtain⟨o',e1,_⟩:=k1 b o ho hf;exact⟨o',hB b o' e1⟩
theorem jq {M:Model}{A:Around}{E:Value→Shared→Prop}{i:Nat}{n:Str}{pos:Pos}{Q:Unit→Shared→Prop}(I:Inv X pins σ H s)(hN:X.N.Nodup)(hi:X.N[i]?=some n)(hk:X.env.scope.names.lookup n=some .local)
   (h:∀ s',Inv X pins (σ.set i none) H s'→Q () s'):wpAny M A (do bindName X.env n .none;unbindBehindTheSuite X.env n pos) Q E s:=by
 obtain⟨m,hn,hl⟩:=id I.loc
 have hcls:(X.env.scope.kind==.class||(X.env.scope.kind==.module&&X.env.locals != X.env.globals))=false:=by rw[I.ok.kind];rfl
 obtain⟨oL,_,_,hoL,_⟩:=id hn;refine wpAny_nameGoes_keeps hk hn hcls fun h' v hn' hs=>h _ ?_
 have far:∀ b o,X.s₀.heap.get? b=some o→b≠X.env.locals:=fun b o e z=>by
   have h1:=Heap.lt_size e;have h2:=I.ok.above;rw[z] at h1;exact absurd (Ae h1 h2) (Bb _)
 have keepH:∀ b u,H b=some u→b≠X.env.locals:=fun b u e z=>by rw[z,I.free] at e;cases e
 refine⟨I.ok,I.os,I.bare,⟨fun b o e n hb hx=>(hs.2 b (far b o e)).trans (I.base.keep b o e n hb hx),fun b o e n hb hx=>?_,I.base.free,fun b o e hx=>?_,I.base.tups,I.base.frzs,I.base.tbls⟩,⟨_,hn',fun j y v' e1 e2 e3=>?_⟩,fun y c e=>?_,I.free,I.freeC,fun p hp=>?_,I.hok.by fun b u hb o ho=>(hs.2 b (keepH b u hb)).trans ho,by rw[Ct];exact I.len⟩
 . obtain⟨sl,e1⟩:=I.base.slot b o e n hb hx;exact⟨sl,(hs.2 b (far b o e)).trans e1⟩
 . obtain⟨o',e1⟩:=I.base.there b o e hx;exact⟨o',(hs.2 b (far b o e)).trans e1⟩
 . have hij:i≠j:=fun z=>by
     subst z
     have hlt:i < σ.length:=by rw[I.len];exact(List.getElem?_eq_some_iff.mp hi).1
     rw[BK hlt] at e2;cases e2
   rw[BU hij] at e2;obtain⟨u,r,lk⟩:=hl j y v' e1 e2 e3;refine⟨u,r,?_⟩
   rcases lk with ⟨q1,q2⟩ | ⟨q1,c,q2,q3⟩
   . refine .inl ⟨q1,?_⟩;have hne:y≠n:=fun z=>hij (ko hN hi (by rw[←z];exact e1));show(if y=n then v else m y)=some u;rw[if_neg hne];exact q2
   . refine .inr ⟨q1,c,q2,?_⟩;obtain⟨oc,h1,h2⟩:=q3;exact⟨oc,(hs.2 c (I.cne _ _ q2)).trans h1,h2⟩
 . obtain⟨w',oc,h1,h2⟩:=I.cell y c e;exact⟨w',oc,(hs.2 c (I.cne _ _ e)).trans h1,h2⟩
 . obtain⟨p1,p2,p3,p4,p5⟩:=I.pin p hp;exact⟨(hs.2 _ p3).trans p1,p2,p3,p4,p5⟩
end
def ul (i:Nat)(D:gk):gk:={ nx:=fun σ2 H2=>D.nx (σ2.set i none) H2,rt:=D.rt,bk:=fun σ2 H2=>D.bk (σ2.set i none) H2,ct:=fun σ2 H2=>D.ct (σ2.set i none) H2 }
def wx (K:Frag) (dip:Value) (len i:Nat)(th:Addr→Addr→TS)(D:gk):XK:=fun cls _ H'=>∃ C,cls=.ref C∧ExcC K C∧exmOne K (.ref C) dip=some true∧∀ (e:Addr) (σ':St),σ'.length=len→th C e (ul i D) (σ'.set i (some (.ref e))) H'
def xA (K:Frag) (dip:Value) (len i:Nat)(tb:XK→TS)(th:Addr→Addr→TS):TS:=fun D σ H=>tb (wx K dip len i th D) D σ H
theorem xD {X:Cx}{body suite:List Stmt}{b0:Stmt}{x n:Str}{i:Nat}{dip:Value}{np hpos pos:Pos}{tb:XK→TS}{th:Addr→Addr→TS}(hN:X.N.Nodup)(hi:X.N[i]?=some n)(hk:X.env.scope.names.lookup n=some .local)
   (hst:X.stack=X.env::X.outer)(hfr:X.env.frame=some X.env.locals)(hg:Gl X x)(hm:X.mg x=some dip)(hdb:(x==("__debug__":Str))=false)
   (hb:∀ (pn:List (Addr×Obj))(W:Value→Shared→Prop)(E1:XK),dq (CX1 X.prog X.w) (X.bear pn W) E1→PSs (X.bear pn W) body (tb E1))
   (hh:∀ (C e:Addr)(oe:Obj),oe.cls=.ref C→ExcC X.K C→PSs (cxH X e oe) (b0::suite) (th C e)) :
   PS X (.Try body [.ExceptHandler (some (.Name x np)) (some n) (b0::suite) hpos] [] [] pos) (xA X.K dip X.N.length i tb th):=by
 intro pins s σ H D I h;refine wpAny_Try_except ?_;refine wpAny_mono (hb (X.pn++pins) _ _ ?_ s σ H D (I.toBear _) h) (fun f s1 q=>?_) (fun _ _ z=>z)
 case refine_2 =>
   have q':SP X pins D f s1:=SP.ofBear q
   cases f with
   | next=>exact wpAny_execs_nil q'
   | brk=>exact q'
   | cont=>exact q'
   | ret u=>exact q'
 rintro pins' σ' H0 s0 ev s' I0 ⟨e,cls,a0,H',B,rfl,hos,hba,hun,hok,hfl,k1,k2,C,rfl,hC,hx,hth⟩;have I1:Inv X pins σ' H0 s0:=I0.ofBear
 have hfl':Heap.FlyingW B (X.env::X.outer) e (.ref C) a0 s'.heap:=by rw[←hst];exact hfl
 have hfrs:X.A.frames=some (X.env::X.outer):=by rw[←hst];exact I.ok.frames
 have eff:∀ {h6:Heap},Heap.FlyingW B (X.env::X.outer) e (.ref C) a0 h6→s'.heap.UpToSlots h6→∃ oe,h6.get? e=some oe∧oe.cls=.ref C∧Inv (cxH X e oe) pins σ' H' { s' with heap:=h6 }:=fun {h6} fl up=>by
   have I5:=xY (H':=H') I1 hos hba hun hok fl.1 up k1 k2;obtain⟨oe,vs,g1,g2,g3,_⟩:=fl.first
   have hne:H' e=none:=by
     cases q:H' e with
     | none=>rfl
     | some u =>
       obtain⟨ob,hob⟩:=hok.has q;have:=k2 e u q ob hob;rw[fl.2.1] at this;cases this
   refine⟨oe,g1,g2,I5.toH g1 hne (fun z=>?_) (fun z=>?_) (fun v z=>by rw[g3] at z;cases z)⟩
   . obtain⟨m,⟨oL,es,ep,ho,hd,_⟩,_⟩:=I5.loc;have ho':h6.get? X.env.locals=some oL:=ho;rw[←z,g1] at ho';cases ho';rw[hd] at g3;cases g3
   . have hm2:e∈frs (X.env::X.outer):=by
       unfold frs;rw[BD,hfr];exact z7 _ z
     obtain⟨_,oo,ho,hd⟩:=fl.2.2.1.mem hm2;rw[g1] at ho;cases ho;exact hd _ g3
 show wpAny (model X.prog X.w) X.A (noteFrame (.ref e) X.env) _ _ s';refine wpAny_looks_onW hfrs hfr hfl' fun h4 held4 up4=>?_;refine wpAny_landsW held4 fun h5 fl5 up5=>?_;obtain⟨oe5,g1,g2,IH5⟩:=eff fl5 (up4.trans up5);refine wpAny_handleBy_cons (codeAny_handlers_test ?_) (by intro q;cases q);refine g0 (X:=cxH X e oe5) IH5 hg hm ?_ hdb;have LM:=exm_one (M:=model X.prog X.w) (IH5.ofH I.ok).kIn (iZ.ty ⟨oe5,g1,g2⟩ _) hx;refine LM.at ?_;refine codeAny_handlers_suite_as ?_;refine lands_againW fl5 fun h6 fl6 up6=>?_;obtain⟨oe,g3,g4,IH6⟩:=eff fl6 ((up4.trans up5).trans up6);refine jQ (X:=cxH X e oe) (v:=.ref e) (u:=.ref e) IH6 hN hi (.inl hk) rfl (fun s7 IH7=>?_) (.inr hk);have run:=hh C e oe g4 hC s7 (σ'.set i (some (.ref e))) H' (ul i D) IH7 (hth e σ' IH6.len);refine wpAny_mono run (fun f s8 q=>?_) (fun _ _ z=>z.elim);show wpAny (model X.prog X.w) X.A (do bindName X.env n .none;unbindBehindTheSuite X.env n hpos) (fun _ s9=>SP X pins D f s9) X.xe s8
 cases f with
 | next =>
   obtain⟨σ2,H2,J,q⟩:=q;exact jq (J.ofH I.ok) hN hi hk fun s9 J9=>⟨_,H2,J9,q⟩
 | brk =>
   obtain⟨σ2,H2,J,q⟩:=q;exact jq (J.ofH I.ok) hN hi hk fun s9 J9=>⟨_,H2,J9,q⟩
 | cont =>
   obtain⟨σ2,H2,J,q⟩:=q;exact jq (J.ofH I.ok) hN hi hk fun s9 J9=>⟨_,H2,J9,q⟩
 | ret u =>
   obtain⟨v,σ2,H2,J,r,q⟩:=q;exact jq (J.ofH I.ok) hN hi hk fun s9 J9=>⟨v,_,H2,J9,r,q⟩
end L2
namespace L2
open PySem PySem.Spec PyProof.Rows
theorem oC {prog:Program}{w:World}{A:Around}{R:Result→Shared→Prop}{s:Shared}{elt target iter cnd:Expr}{scope:Scope}{pos:Pos}{it acc:Value}{env:Env}(I:Nat→Shared→Prop)
   (turn:∀ n s,I n s→∀ E:Value→Shared→Prop,wpAny (model prog w) A (pyNext it) (fun r s₁=>match r with
     | none=>R (.ok .next) s₁
     | some v=>wpAny (model prog w) A (letOwnedTupleGo target it v) (fun _ s₁'=>wpAny (model prog w) A (assign target env v) (fun _ s₂=>wpAny (model prog w) A (isTrue cnd env (eval cnd env)) (fun ok s₂' =>
       if ok=true then wpAny (model prog w) A (eval elt env) (fun x s₃=>wpAny (model prog w) A (call (.builtin "list.append") [acc,x]) (fun _ s₄=>∃ m,m < n∧I m s₄) E s₃) E s₂' else ∃ m,m < n∧I m s₂') E s₂) E s₁') E s₁) E s)
   (n:Nat)(h:I n s) :
   codeAny (model prog w) A (.compLoop (.ListComp elt [⟨target,iter,[cnd],0⟩] scope pos) 0 it acc env) R s:=by
 refine codeAny_loop rfl I (fun n s hI=>?_) n h;show wpAny _ _ ((compTurn (.ListComp elt [⟨target,iter,[cnd],0⟩] scope pos) 0 it acc env).onRaise _) _ _ s;refine wpAny_noted ?_;rw[compTurn_list];refine wpAny_bind (wpAny_standAt (wpAny_bind (wpAny_mono (turn n s hI _) (fun r s₁ h₁=>?_) fun _ _ h'=>h')))
 cases r with
 | none=>exact wpAny_pure h₁
 | some v =>
   refine wpAny_bind (wpAny_mono h₁ (fun _ s₁' h₁=>?_) fun _ _ h'=>h');refine wpAny_bind (wpAny_mono h₁ (fun _ s₂ h₂=>?_) fun _ _ h'=>h');refine wpAny_bind (wpAny_tests_one (wpAny_mono h₂ (fun ok s₃ h₃=>?_) fun _ _ h'=>h'))
   cases ok with
   | false=>exact wpAny_pure ⟨rfl,h₃⟩
   | true =>
     rw[if_pos rfl] at h₃ ⊢;exact wpAny_bind (wpAny_bind (wpAny_mono h₃ (fun x s₄ h₄=>wpAny_bind (wpAny_mono h₄ (fun _ s₅ h₅=>wpAny_pure (wpAny_pure ⟨rfl,h₅⟩)) fun _ _ h'=>h')) fun _ _ h'=>h'))
def mr (J:It)(g:TG)(tc:TT)(te:TE)(D:Addr)(Q:Hp→Prop) (σ:St)(H:Hp):Prop :=
 ∃ W:Nat→Nat→St→Hp→Prop,(∃ m,W 0 m σ H)∧∀ i m σ' H',W i m σ' H' →
   (J.stop i H'∧Q H')∨(J.go i H'∧∃ N:St→Hp→Prop,(∀ σ'' H'',N σ'' H''→∃ m',m' < m∧W (i+1) m' σ'' H'') ∧
     ∀ x H2,J.yld i H' x H2→g x σ' H2 fun σ2 H3=>tc σ2 H3 fun b H3'=>if b=true then te σ2 H3' fun v H4=>∃ xs,H4 D=some (.lst xs)∧xs.length < sizeLine∧N σ2 (upd H4 D (.lst (xs++[v]))) else N σ2 H3')
section
variable {X:Cx}{pins:List (Addr×Obj)}{σ:St}{H:Hp}{s:Shared}{scope:Scope}{N':List Str}{pk:List (Option Nat)}{fp:List Addr}
theorem lA {elt tg iter cnd:Expr}{g:TG}{tc:TT}{te:TE}{J:It}{it:Addr}{tn:Nat→Heap→Prop}{pos:Pos}{QD:Addr→Hp→Prop}{E:Value→Shared→Prop}{RR:Value→Addr→Result→Shared→Prop}
   (I:Inv X pins σ H s)(B:bW X.N X.env scope N' pk)(hc:X.calm=true)(T:oj X.prog X.w X.K tg J fp it tn)(st:tn 0 s.heap)(hf:∀ b∈fp,fq X pins H b)
   (hg:∀ s H ex,PG (cxB X N' scope s H ex) tg g)(ht:∀ s H ex,PT (cxB X N' scope s H ex) cnd tc)(he:∀ s H ex,PE (cxB X N' scope s H ex) elt te)
   (hW:∀ D,H D=none→mr J g tc te D (QD D) (f7 pk σ) (upd H D (.lst [])))
   (fin:∀ D C s' H' m,Inv X pins σ H' s'→fq X pins H' C→s'.heap.Ns C m→QD D H'→RR (.ref D) C (.ok .next) s') :
   wpAny (model X.prog X.w) X.A (newList []) (fun acc s₃=>wpAny (model X.prog X.w) X.A (newFunctionEnv scope X.env.globals (jj scope X.env) [] X.env.qual none .none (some X.env)) (fun cenv s₄ =>
     codeAny (model X.prog X.w) X.A (.compStart (.ListComp elt [⟨tg,iter,[cnd],0⟩] scope pos) 0 (.ref it) acc { cenv with scope:=relabel scope X.env }) (RR acc cenv.locals) s₄) E s₃) E s:=by
 have hD0:H s.heap.objs.size=none:=I.hok.fresh (zR _);refine wpAny_newObj_type (wpAny_newFunctionEnv B.nocell (by intro y hy;simp at hy) (fun h₁ hns₁ hsb₁=>?_) B.kind);dsimp only at hns₁ hsb₁ ⊢;have I3:Inv X pins σ (upd H s.heap.objs.size (.lst [])) { s with heap:=s.heap.push { cls:=.type "list",dict:=none,data:=.seq ([]:List Value).toArray } }:=I.lnew (t':=s.toks) .nil (AF _);obtain⟨W,⟨m0,w0⟩,turn⟩:=hW _ hD0;generalize hs3:({ s with heap:=s.heap.push { cls:=.type "list",dict:=none,data:=.seq ([]:List Value).toArray } }:Shared)=s3 at I3
 have eh:s.heap.push { cls:=.type "list",dict:=none,data:=.seq ([]:List Value).toArray }=s3.heap:=by rw[←hs3]
 have hold:∀ b o,s.heap.get? b=some o→s3.heap.get? b=some o:=fun b o e=>by rw[←eh];exact Heap.get?_push_of_some _ e
 rw[eh] at hns₁ hsb₁;have hs:∀ b o,s3.heap.get? b=some o→h₁.get? b=some o:=fun b o e=>hsb₁.extBut b o (Aa (Heap.lt_size e)) (Heap.get?_push_of_some _ e)
 have hf3:∀ b∈fp,fq X pins (upd H s.heap.objs.size (.lst [])) b:=fun b hb=>by
   refine⟨?_,(hf b hb).2⟩;obtain⟨o,e,_⟩:=T.obj 0 _ st b hb;rw[ai (Aa (Heap.lt_size e))];exact(hf b hb).1
 have ho3:∀ b∈fp,∃ o,s3.heap.get? b=some o:=fun b hb=>by
   obtain⟨o,e,_⟩:=T.obj 0 _ st b hb;exact⟨o,hold _ _ e⟩
 have st1:tn 0 h₁:=T.keep 0 _ _ st fun b hb o e=>hs b o (hold b o e)
 have esh:∀ t,({ s with heap:=h₁,toks:=t }:Shared)={ s3 with heap:=h₁,toks:=t }:=fun t=>by rw[←hs3]
 have loop:∀ t,codeAny (model X.prog X.w) X.A (.compLoop (.ListComp elt [⟨tg,iter,[cnd],0⟩] scope pos) 0 (.ref it) (.ref s.heap.objs.size) (compEnvC scope (jj scope X.env) s3.heap.objs.size X.env))
     (RR (.ref s.heap.objs.size) s3.heap.objs.size) { s with heap:=h₁,toks:=t }:=fun t=>by
   rw[esh t];have IB:Inv (cxB X N' scope s3 (upd H s.heap.objs.size (.lst [])) fp) [] (f7 pk σ) (upd H s.heap.objs.size (.lst [])) { s3 with heap:=h₁,toks:=t }:=rW I3 B hf3 ho3 hns₁ hs
   have f2:∀ b∈fp,fq (cxB X N' scope s3 (upd H s.heap.objs.size (.lst [])) fp) [] (upd H s.heap.objs.size (.lst [])) b:=fun b hb =>
     ⟨(hf3 b hb).1,(IB.ok.exf b hb).1,IB.ok.exfs b hb,.inl hb,(IB.ok.exf b hb).2,fun p hp=>absurd (show p∈([]:List (Addr×Obj)) from hp) (by simp)⟩
   have stat:∀ {H':Hp},(∀ b∈fp,H' b=none)→∀ b∈fp,fq (cxB X N' scope s3 (upd H s.heap.objs.size (.lst [])) fp) [] H' b:=fun hn b hb=>⟨hn b hb,(f2 b hb).2⟩;refine oC (fun n s'=>∃ i σ' H',Inv (cxB X N' scope s3 (upd H s.heap.objs.size (.lst [])) fp) [] σ' H' s'∧tn i s'.heap∧(∀ b∈fp,H' b=none)∧W i n σ' H') ?_ m0 ⟨0,_,_,IB,st1,fun b hb=>(f2 b hb).1,w0⟩;rintro n s4 ⟨i,σ4,H4,I4,st4,fr4,w4⟩ E'
   rcases turn i n σ4 H4 w4 with ⟨stop,qn⟩ | ⟨go,N,hN,step⟩
   . refine thn (T.done (cxB X N' scope s3 (upd H s.heap.objs.size (.lst [])) fp) rfl rfl rfl hc i [] s4 σ4 H4 E' I4 (stat fr4) st4 stop) fun r s5 ⟨hr,I5⟩=>?_;subst hr;obtain⟨m5,hn5,_⟩:=I5.loc;have IX:Inv X pins σ H4 s5:=I3.call' (ch:=fp) I5.os I5.base I5.hok I5.bare fun b hb=>⟨(hf3 b hb).2.2.2.1,(hf3 b hb).2.1,(hf3 b hb).2.2.2.2.1,(hf3 b hb).2.2.2.2.2⟩;exact fin _ _ s5 H4 m5 IX (I3.fpOk (zR _) I5.free) hn5 qn
   . refine thn (T.item (cxB X N' scope s3 (upd H s.heap.objs.size (.lst [])) fp) rfl rfl rfl hc i [] s4 σ4 H4 E' I4 (stat fr4) st4 go) fun r s5 ⟨u,hr,h5⟩=>?_;subst hr;refine thn h5 fun _ s6 ⟨x,H6,I6,r6,y6,st6,fr6⟩=>?_;have I6':=I6.pinned (stat fr6) (T.obj _ _ st6);refine wpAny_mono (hg _ _ _ s6 σ4 H6 x u _ I6' r6 (step x H6 y6)) (fun _ s7 ⟨σ7,H7,I7,q7⟩=>?_) fun _ _ z=>False.elim z;refine wpAny_mono (ht _ _ _ s7 σ7 H7 _ I7 q7) (fun bb s7' ⟨H7',I7',q7'⟩=>?_) fun _ _ z=>False.elim z
     have back:∀ H9 s9,Inv (cxB X N' scope s3 (upd H s.heap.objs.size (.lst [])) fp) ([]++kE fp s6.heap) σ7 H9 s9→N σ7 H9→∃ m,m < n∧∃ i σ' H',Inv (cxB X N' scope s3 (upd H s.heap.objs.size (.lst [])) fp) [] σ' H' s9∧tn i s9.heap∧(∀ b∈fp,H' b=none)∧W i m σ' H':=fun H9 s9 I9 n9=>by
       obtain⟨m',hm,w9⟩:=hN σ7 H9 n9;refine⟨m',hm,i+1,σ7,H9,I9.unpinned,T.keep _ _ _ st6 fun b hb o e=>(I9.pin (b,o) (Ai _ (Ai _ (dh hb e)))).1,fun b hb=>?_,w9⟩;obtain⟨o,e,d⟩:=T.obj _ _ st6 b hb;exact(I9.pin (b,o) (Ai _ (Ai _ (dh hb e)))).2.1
     cases bb with
     | false=>exact back H7' s7' I7' q7'
     | true =>
       refine wpAny_mono (he _ _ _ s7' σ7 H7' _ I7' q7') (fun w s8 ⟨v,H8,I8,r8,xs,hx8,hl8,n8⟩=>?_) fun _ _ z=>False.elim z;refine wpAny_mono (bR (X:=cxB X N' scope s3 (upd H s.heap.objs.size (.lst [])) fp) _ s8 σ7 H8 (.ref s.heap.objs.size) [v] (.ref s.heap.objs.size) [w] (fun _ H9=>N σ7 H9) I8 rfl (.cons r8 .nil) ⟨_,xs,v,rfl,rfl,hx8,hl8,n8⟩) (fun _ s9 ⟨_,H9,I9,_,n9⟩=>?_) fun _ _ z=>False.elim z;exact back H9 s9 I9 n9
 rw[←eh] at loop;exact codeAny_compStart_list (loop _) (T.self _ _ _ _ _ st1 (loop _))
def l9 (pk:List (Option Nat))(wi:TI)(g:TG)(tc:TT)(te:TE):TE:=fun σ H Q=>wi σ H fun J H1=>∀ D,H1 D=none→mr J g tc te D (fun H'=>Q (.ref D) H') (f7 pk σ) (upd H1 D (.lst []))
theorem eQ {elt tg iter cnd:Expr}{wi:TI}{g:TG}{tc:TT}{te:TE}{pos:Pos}(hc:X.calm=true)(B:bW X.N X.env scope N' pk)(hi:PI X tg iter wi)
   (hg:∀ s H ex,PG (cxB X N' scope s H ex) tg g)(ht:∀ s H ex,PT (cxB X N' scope s H ex) cnd tc)(he:∀ s H ex,PE (cxB X N' scope s H ex) elt te)(hs:∀ x,foldedSetIterable iter X.env x=pure x:=by intro _;rfl) :
   PE X (.ListComp elt [⟨tg,iter,[cnd],0⟩] scope pos) (l9 pk wi g tc te):=by
 intro pins s σ H Q I h;rw[eval_ListComp];have hclos:=ff (gR I B);refine wpAny_comprehension_free (use:=none) rfl hs hclos B.kind B.names (thn (hi s σ H _ I h) fun v s1 h1=>thn h1 fun itv s2 h2=>?_);obtain⟨it,fp,tn,J,H2,e,I2,T,st2,f2,hW⟩:=h2;subst e;refine lA (QD:=fun D H'=>Q (.ref D) H') (RR:=fun acc C=>compPost (model X.prog X.w) X.A X.xe none (EP X pins σ Q) acc C) I2 B hc T st2 f2 hg ht he hW fun D C s' H' m I' f' hn q=>?_;exact⟨m,hn,fun h' hs'=>⟨.ref D,H',I'.gone f' hs',rfl,q⟩⟩
end
end L2
namespace L2
open PySem
section
variable {X:Cx}
end
end L2
namespace L2
open PySem PySem.Spec PyProof.Rows PySem.W
end L2
namespace L2
open PySem PySem.Spec PyProof.Rows
def xm (cs:List Int):TA:=fun _ H Q=>Q (cs.map V.int) H
def xq (cs:List Str):TA:=fun _ H Q=>Q (cs.map V.str) H
abbrev rc (K:PySem.W.Frag):List V→Hp→VK→Prop:=fun xs H Q=>∃ p ys,xs=[.ref p]∧(SqL K H p ys∨SqT K H p ys)∧∀ l,H l=none→Q (.ref l) (upd H l (.lst ys))
theorem gx {P:Program}{w:World}{X:Cx}:dq (CX1 P w) X (fun _ _ _=>False):=fun _ _ _ _ _ _ _ ⟨_,_,_,_,_,_,_,_,_,_,_,_,_,h⟩=>h.elim
theorem g9 (L:List Int){x:Int}(h0:0≤x)(h1:x < L.length):∃ y∈L,atI (L.map V.int) x=some (V.int y):=by
 obtain⟨j,rfl⟩:=A7 h0
 have hj:j < L.length:=by omega
 exact⟨L[j],AR hj,bT (by rw[zO,zN hj];rfl)⟩
theorem au {t u:TS}{D:gk}{σ:St}{H:Hp}(Pv:St→Hp→Prop)(h:∀ R:St→Hp→Prop,(∀ σ' H',Pv σ' H'→R σ' H')→t { D with nx:=R } σ H)(k:∀ σ' H',Pv σ' H'→u D σ' H'):xO t u D σ H:=⟨Pv,h Pv (fun _ _ x=>x),k⟩
theorem mV {ns:List Int}:∀ {us:List Value},Vals (ns.map V.int) us→IntsAre us ns:=by
 induction ns with
 | nil=>intro us r;rw[Bl] at r;cases r;exact .nil
 | cons n ns ih =>
   intro us r;rw[Ac] at r
   cases r with
   | cons r1 r2 =>
     obtain⟨t,e⟩:=r1;cases e;exact .cons n t (ih r2)
section
variable {X:Cx}
theorem tV (hc:X.calm=true):cq X (.builtin "max") (fun xs H Q=>∃ (a:Addr)(ns:List Int),xs=[.ref a]∧SqL X.K H a (ns.map V.int)∧0 < ns.length∧∀ M,M∈ns→(∀ a∈ns,a≤M)→Q (.int M) H):=by
 intro pins s σ H xs us Q I r h;obtain⟨a,ns,rfl,ha,hne,q⟩:=h;obtain⟨u,rfl,ru⟩:=ej r;cases ru;obtain⟨its,rv,pl,_⟩:=I.list ha;have hl:=pl.isList;have hi:=mV rv;obtain⟨xs,e⟩:=hi.allInts.items
 have hns:ns=xs.toList.map (·.1):=by
   rw[←hi.numsOf,←nums_intItems,←e]
 have hsz:0 < xs.size:=by
   have h3:=hne;rw[hns,be,Aw] at h3;exact h3
 rw[e] at hl;refine max_intList (I.ok.hd hc) hl hsz fun v h' tk hv hk=>?_;obtain⟨t,rfl⟩:=intItems_at hv;obtain⟨h1,h2⟩:=argBest_gt (numAt xs) (xs.size - 1);refine⟨.int _,H,I.kept hk,⟨t,rfl⟩,q _ ?_ fun a ha=>?_⟩
 . rw[hns,numAt_eq];exact getD_mem (by rw[be,Aw];omega)
 . rw[hns] at ha;obtain⟨j,hj,rfl⟩:=mem_getD ha;rw[be,Aw] at hj;rw[←numAt_eq];exact h2 j (by omega)
end
theorem bi {J:It}{H0:Hp}{n:Nat}{vs:Nat→V→Prop}{g:TG}{tb:TS}{D:gk}{σ:St}{H:Hp}(S:d6 J H0 n vs)(Pv:Nat→St→Hp→Prop)(h0:Pv 0 σ H)(hsame:∀ i σ H,i≤n→Pv i σ H→af H0 H)
   (hs:∀ i x σ H,i < n→vs i x→Pv i σ H→∀ R:St→Hp→Prop,(∀ σ' H',Pv (i+1) σ' H'→R σ' H')→g x σ H fun σ2 H2=>tb { D with nx:=R,ct:=R,bk:=D.nx } σ2 H2)(hd:∀ σ H,Pv n σ H→D.nx σ H):vA J g tb D σ H :=
 bg S Pv h0 hsame (fun i x σ H hi hx p=>hs i x σ H hi hx p _ fun _ _ z=>z) hd
section
variable {X:Cx}
theorem Inv.thaw {pins:List (Addr×Obj)}{σ:St}{H:Hp}{s:Shared}{d:Addr}{o:Obj}{kvs:List (Key×V)}(I:Inv X pins σ H s)(h:H d=some (.frz o (.dK kvs)))(h0:∀ o u,X.H₀ d≠some (.frz o u)):Inv X pins σ (upd H d (.dK kvs)) s:=by
 have ne:∀ b,H b=none→b≠d:=fun b e z=>by rw[z,h] at e;cases e
 refine⟨I.ok,I.os,I.bare,⟨I.base.keep,I.base.slot,fun b ob e n hx=>?_,I.base.there,fun b xs e=>?_,fun b ob u e=>?_,fun b ps e=>?_⟩,I.loc,I.cell,?_,fun x c e=>?_,fun p hp=>?_,fun a u e=>?_,I.len⟩
 . have:=I.base.free b ob e n hx;rw[ai (ne b this)];exact this
 . have:=I.base.tups b xs e
   have hb:b≠d:=fun z=>by rw[z,h] at this;cases this
   rw[ai hb];exact this
 . have:=I.base.frzs b ob u e
   have hb:b≠d:=fun z=>by rw[z] at e;exact h0 _ _ e
   rw[ai hb];exact this
 . obtain⟨more,this⟩:=I.base.tbls b ps e
   have hb:b≠d:=fun z=>by rw[z,h] at this;cases this
   exact⟨more,by rw[ai hb];exact this⟩
 . rw[ai (ne _ I.free)];exact I.free
 . rw[ai (ne _ (I.freeC x c e))];exact I.freeC x c e
 . obtain⟨e1,n,r⟩:=I.pin p hp;exact⟨e1,by rw[ai (ne _ n)];exact n,r⟩
 . have ho:∀ b y,H b=some (.own y)→upd H d (.dK kvs) b=some (.own y):=fun b y q=>by
     have hb:b≠d:=fun z=>by rw[z,h] at q;cases q
     rw[ai hb];exact q
   have ht:∀ b xs,H b=some (.tup xs)→upd H d (.dK kvs) b=some (.tup xs):=fun b xs q=>by
     have hb:b≠d:=fun z=>by rw[z,h] at q;cases q
     rw[ai hb];exact q
   by_cases ha:a=d
   . subst ha;rw[ac] at e;cases e;have:=I.hok a _ h;exact bP.stay this.2 (fun _ _ _ q=>q) (fun b q=>ho b _ q) ht
   . rw[ai ha] at e;exact bP.stay (I.hok a _ e) (fun _ _ _ q=>q) (fun b q=>ho b _ q) ht
def uz (H0:Hp)(te:TE):TE:=fun σ H Q=>te σ H fun v H'=>Q v H'∨∃ d o kvs,H' d=some (.frz o (.dK kvs))∧(∀ o u,H0 d≠some (.frz o u))∧Q v (upd H' d (.dK kvs))
theorem wq {e:Expr}{te:TE}(h:PE X e te):PE X e (uz X.H₀ te):=by
 intro pins s σ H Q I q;refine thn (h s σ H _ I q) fun v s1 ⟨x,H1,I1,r1,q1⟩=>?_
 rcases q1 with q1 | ⟨d,o,kvs,hd,h0,q1⟩
 . exact⟨x,H1,I1,r1,q1⟩
 . exact⟨x,_,I1.thaw hd h0,r1,q1⟩
end
theorem sr {CX:CXT}{P:Program}{w:World}{K:PySem.W.Frag}{mg:Str→Option Value}{base:Heap}{N:List Str}{qual:Str}{scope:Scope}{f:Addr}{cd:Value}{A:Around}{outer:List Env}{s:Shared}{H:Hp}{E:XK}:(eO CX P w K mg base N qual scope f cd A outer s H E).H₀=H:=rfl
theorem vB {X:Cx}:X.nox.H₀=X.H₀:=rfl
section
variable {X:Cx}
theorem sd:∀ (xs ys:List V),xs.length=ys.length→((zW xs.length).all fun j=>eqV (xs.getD j .non) (ys.getD j .non))=(xs.zip ys).all fun p=>eqV p.1 p.2:=by
 intro xs
 induction xs with
 | nil=>intro ys _;rfl
 | cons x xs ih =>
   intro ys h
   cases ys with
   | nil=>simp at h
   | cons y ys =>
     rw[Az,List.range_succ_eq_map,Cj,CD,A5,Cj]
     have h':xs.length=ys.length:=by simpa using h
     rw[←ih ys h'];rfl
theorem oO {its its2:List Value}{xs ys:List V}{A:Around}{s:Shared}(r1:Vals xs its)(r2:Vals ys its2)(f1:xs.all dG=true)(f2:ys.all dG=true)(hl:xs.length=ys.length) :
   ∀ j (h1:j < its.toArray.size)(h2:j < its2.toArray.size),SeqAt.EqAt A s its.toArray[j] its2.toArray[j] (eqV (xs.getD j .non) (ys.getD j .non)):=by
 intro j h1 h2;have l1:=r1.length;have l2:=r2.length
 have hj1:j < xs.length:=by rw[l1];simpa using h1
 have hj2:j < ys.length:=by rw[l2];simpa using h2
 obtain⟨u1,hu1,ru1⟩:=r1.get (zN hj1);obtain⟨u2,hu2,ru2⟩:=r2.get (zN hj2)
 have e1:its.toArray[j]=u1:=by
   have:=(List.getElem?_eq_some_iff.mp hu1).2
   simpa using this
 have e2:its2.toArray[j]=u2:=by
   have:=(List.getElem?_eq_some_iff.mp hu2).2
   simpa using this
 rw[e1,e2,zQ,zQ,zN hj1,zN hj2];exact vq ru1 ru2 (List.all_eq_true.mp f1 _ (AR hj1)) (List.all_eq_true.mp f2 _ (AR hj2))
def kL (xs ys:List V):Bool:=decide (xs.length=ys.length)&&(xs.zip ys).all fun p=>eqV p.1 p.2
def w5 (K:PySem.W.Frag)(neg:Bool):R2:=fun x y H Q=>∃ a b xs ys,x=.ref a∧y=.ref b∧SqL K H a xs∧SqL K H b ys∧((xs.all dG=true∧ys.all dG=true)∨xs.length≠ys.length∨xs=[])∧Q (.bl (neg^^kL xs ys)) H
theorem vE (hu:X.A.units < cLine):OpR X (compareOp .Eq) (w5 X.K false):=by
 intro pins s σ H x y v u Q I rx ry h;obtain⟨a,b,xs,ys,rfl,rfl,ha,hb,hf,q⟩:=h;cases rx;cases ry;obtain⟨its,r1,t1,_⟩:=I.list ha;obtain⟨its2,r2,t2,_⟩:=I.list hb;have l1:=r1.length;have l2:=r2.length;by_cases hl:xs.length=ys.length
 . have hf':xs.all dG=true∧ys.all dG=true:=by
     rcases hf with h | h | h
     . exact h
     . exact absurd hl h
     . rw[h];rw[h] at hl;rw[show ys=[] from List.length_eq_zero_iff.mp hl.symm];exact⟨rfl,rfl⟩
   refine SeqAt.eq_listAt t1.isList t2.isList (by simp;omega) hu (oO r1 r2 hf'.1 hf'.2 hl) ?_
   have e:((zW its.toArray.size).all fun j=>eqV (xs.getD j .non) (ys.getD j .non))=kL xs ys:=by
     unfold kL;rw[decide_eq_true hl,Bool.true_and,←sd xs ys hl,l1];simp
   rw[e];rw[Bool.false_xor] at q;exact⟨.bl _,H,I,rfl,q⟩
 . have e:kL xs ys=false:=by unfold kL;rw[decide_eq_false hl,Bool.false_and]
   rw[e] at q;exact SeqAt.eq_list_lengthsAt t1.isList t2.isList (by simp;omega) hu ⟨.bl _,H,I,rfl,q⟩
theorem vt (hu:X.A.units < cLine):OpR X (compareOp .NotEq) (w5 X.K true):=by
 intro pins s σ H x y v u Q I rx ry h;obtain⟨a,b,xs,ys,rfl,rfl,ha,hb,hf,q⟩:=h;cases rx;cases ry;obtain⟨its,r1,t1,_⟩:=I.list ha;obtain⟨its2,r2,t2,_⟩:=I.list hb;have l1:=r1.length;have l2:=r2.length;by_cases hl:xs.length=ys.length
 . have hf':xs.all dG=true∧ys.all dG=true:=by
     rcases hf with h | h | h
     . exact h
     . exact absurd hl h
     . rw[h];rw[h] at hl;rw[show ys=[] from List.length_eq_zero_iff.mp hl.symm];exact⟨rfl,rfl⟩
   refine SeqAt.RcNeAt.lists t1.isList t2.isList (by simp;omega) hu (oO r1 r2 hf'.1 hf'.2 hl) _ _ _ _ ?_
   have e:((zW its.toArray.size).all fun j=>eqV (xs.getD j .non) (ys.getD j .non))=kL xs ys:=by
     unfold kL;rw[decide_eq_true hl,Bool.true_and,←sd xs ys hl,l1];simp
   rw[e];rw[Bool.true_xor] at q;exact⟨.bl _,H,I,rfl,q⟩
 . have e:kL xs ys=false:=by unfold kL;rw[decide_eq_false hl,Bool.false_and]
   rw[e] at q;exact SeqAt.RcNeAt.lists_lengths t1.isList t2.isList (by simp;omega) hu _ _ _ _ ⟨.bl _,H,I,rfl,q⟩
theorem gO (xs:List V):kL xs []=decide (xs=[]):=by
 cases xs with
 | nil=>rfl
 | cons x xs=>simp[kL]
end
section
variable {prog:Program}{w:World}{A:Around}{E:Value→Shared→Prop}{s:Shared}
end
section
variable {prog:Program}{w:World}{κ:Type} [DecidableEq κ]{knd:KeyKind prog w κ}
end
section
variable {X:Cx}
end
section
variable {X:Cx}{pins:List (Addr×Obj)}{σ:St}{H:Hp}{s:Shared}{h':Heap}
end
def Ite (K:PySem.W.Frag)(a:Addr):It :=
 ⟨fun i H=>∃ xs x,SqL K H a xs∧xs[i]?=some x,fun i H v H'=>∃ T x,H T=none∧v=.ref T∧H'=upd H T (.tup [.int i,x])∧∀ xs,SqL K H a xs→xs[i]?=some x,fun i H=>∃ xs,SqL K H a xs∧xs.length≤i⟩
def xt (K:PySem.W.Frag)(ta:TA):TI:=fun σ H R=>ta σ H fun vs H1=>∃ a,vs=[.ref a]∧(∃ xs,SqL K H1 a xs)∧R (Ite K a) H1
section
variable {X:Cx}
end
def Itz (K:PySem.W.Frag)(a b:Addr):It :=
 ⟨fun i H=>∃ xs x ys y,SqL K H a xs∧xs[i]?=some x∧SqL K H b ys∧ys[i]?=some y,fun i H v H'=>∃ T x y,H T=none∧v=.ref T∧H'=upd H T (.tup [x,y])∧(∀ xs,SqL K H a xs→xs[i]?=some x)∧∀ ys,SqL K H b ys→ys[i]?=some y,
   fun i H=>∃ xs ys,SqL K H a xs∧SqL K H b ys∧(xs.length≤i∨ys.length≤i)⟩
def xu (K:PySem.W.Frag)(ta:TA):TI:=fun σ H R=>ta σ H fun vs H1=>∃ a b,vs=[.ref a,.ref b]∧(∃ xs,SqL K H1 a xs)∧(∃ ys,SqL K H1 b ys)∧R (Itz K a b) H1
section
variable {X:Cx}
end
section
variable {X:Cx}
end
def Up (xs:Array Nat):Prop:=xs.toList.Pairwise (· < ·)
theorem Up.lt {xs:Array Nat}(u:Up xs){i k:Nat}(h:i < k)(hk:k < xs.size):xs.getD i 0 < xs.getD k 0:=by
 have:=(List.pairwise_iff_getElem.mp u) i k (by rw[Aw];omega) (by rw[Aw];exact hk) h;simp only[Array.getElem_toList] at this;rw[Ay,Ay,Ab (by omega),Ab hk];exact this
theorem Up.le {xs:Array Nat}(u:Up xs){i k:Nat}(h:i≤k)(hk:k < xs.size):xs.getD i 0≤xs.getD k 0:=by
 rcases Nat.lt_or_eq_of_le h with h | h
 . exact Cp (u.lt h hk)
 . rw[h];exact zR _
theorem kJ {xs:Array Nat}(u:Up xs) (j:Nat):∀ fuel lo hi,hi≤xs.size→lo≤hi→hi - lo≤fuel→(∀ i,i < lo→xs.getD i 0 < j)→(∀ i,hi≤i→i < xs.size→j≤xs.getD i 0) →
   SetTable.below.go xs j fuel lo hi≤xs.size∧(∀ i,i < SetTable.below.go xs j fuel lo hi→xs.getD i 0 < j)∧∀ i,SetTable.below.go xs j fuel lo hi≤i→i < xs.size→j≤xs.getD i 0
 | 0,lo,hi,h1,h2,h3,h4,h5=>by
   have e:lo=hi:=by omega
   subst e;exact⟨h1,h4,h5⟩
 | fuel+1,lo,hi,h1,h2,h3,h4,h5=>by
   show(if lo < hi then _ else lo)≤_∧(∀ i,i < (if lo < hi then _ else lo)→_)∧∀ i,(if lo < hi then _ else lo)≤i→_;by_cases hl:lo < hi
   . rw[if_pos hl];dsimp only;by_cases hm:xs.getD ((lo+hi) / 2) j < j
     . rw[if_pos hm]
       have hm':xs.getD ((lo+hi) / 2) 0 < j:=by
         have hlt:(lo+hi) / 2 < xs.size:=by omega
         simp only[Ay,Ab hlt] at hm ⊢;exact hm
       exact kJ u j fuel _ hi h1 (by omega) (by omega) (fun i hi'=>B9 (u.le (by omega) (by omega)) hm') h5
     . rw[if_neg hm]
       have hm':j≤xs.getD ((lo+hi) / 2) 0:=by
         have hlt:(lo+hi) / 2 < xs.size:=by omega
         simp only[Ay,Ab hlt] at hm ⊢
         simpa using hm
       exact kJ u j fuel lo _ (by omega) (by omega) (by omega) h4 fun i a b=>AG hm' (u.le a b)
   . rw[if_neg hl]
     have e:lo=hi:=by omega
     subst e;exact⟨h1,h4,h5⟩
theorem pw {xs:Array Nat}(u:Up xs) (j:Nat):SetTable.below xs j≤xs.size∧(∀ i,i < SetTable.below xs j→xs.getD i 0 < j)∧∀ i,SetTable.below xs j≤i→i < xs.size→j≤xs.getD i 0 :=
 kJ u j xs.size 0 xs.size (zR _) (AF _) (by omega) (fun _ h=>absurd h (Nat.not_lt_zero _)) (fun i a b=>absurd b (by omega))
theorem su {xs:Array Nat}(u:Up xs){j:Nat}(hj:xs[SetTable.below xs j]?≠some j):Up (SetTable.insertAt xs (SetTable.below xs j) j):=by
 unfold Up;rw[SetTable.toList_insertAt];obtain⟨h1,h2,h3⟩:=pw u j
 have g:∀ i (h:i < xs.toList.length),xs.toList[i]=xs.getD i 0:=fun i h=>by
   rw[Ay,Ab (by simpa using h)];simp
 have a1:∀ x∈xs.toList.take (SetTable.below xs j),x < j:=by
   intro x hx;obtain⟨i,hi,e⟩:=List.mem_iff_getElem.mp hx;rw[Af] at hi;rw[List.getElem_take,g i (by omega)] at e;rw[←e];exact h2 i (by omega)
 have a2:∀ x∈xs.toList.drop (SetTable.below xs j),j < x:=by
   intro x hx;obtain⟨i,hi,e⟩:=List.mem_iff_getElem.mp hx;rw[AY] at hi;rw[List.getElem_drop,g _ (by omega)] at e;rw[←e];rw[Aw] at hi;have b1:=h3 (SetTable.below xs j) (zR _) (by omega)
   have b2:xs.getD (SetTable.below xs j) 0≠j:=by
     intro z;rw[Ay,Ab (by omega)] at z;rw[Ab (by omega)] at hj;exact hj (congrArg some z)
   exact Ae (Nat.lt_of_le_of_ne b1 (Ne.symm b2)) (u.le (by omega) (by omega))
 have uu:(xs.toList.take (SetTable.below xs j)++xs.toList.drop (SetTable.below xs j)).Pairwise (· < ·):=by rw[List.take_append_drop];exact u
 rw[Bx] at uu ⊢;refine⟨uu.1,List.pairwise_cons.mpr ⟨a2,uu.2.1⟩,fun a ha b hb=>?_⟩
 rcases List.mem_cons.mp hb with rfl | hb
 . exact a1 a ha
 . exact uu.2.2 a ha b hb
theorem gX (n:Nat):Up (Array.range n):=by
 unfold Up;rw[Array.toList_range];exact List.pairwise_lt_range
theorem jT (t:SetTable)(ha:Nat→Int) (h:Int):∀ (fuel:Nat)(p:SetTable.Probe) (j:Nat)(dm:Option Nat),(∀ d,p.dummy=some d→t.slot d=.dummy)→SetTable.probe.go t ha h fuel p=some (.empty j dm)→t.slot j=.empty∧∀ d,dm=some d→t.slot d=.dummy
 | 0,_,_,_,_,e=>by cases e
 | fuel+1,p,j,dm,hp,e=>by
   have adv:∀ q:SetTable.Probe,(t.advance q).dummy=q.dummy:=fun q=>by unfold SetTable.advance;split<;>rfl
   unfold SetTable.probe.go at e
   cases hs:t.slot p.j with
   | empty =>
     rw[hs] at e;simp only[Option.some.injEq,SetTable.Met.empty.injEq] at e;obtain⟨rfl,rfl⟩:=e;exact⟨hs,hp⟩
   | dummy =>
     rw[hs] at e;refine jT t ha h fuel _ j dm (fun d hd=>?_) e;rw[adv] at hd;cases hd;exact hs
   | live i =>
     rw[hs] at e;dsimp only at e;by_cases hc:(ha i==h)=true
     . rw[if_pos hc] at e;cases e
     . rw[if_neg hc] at e;exact jT t ha h fuel _ j dm (fun d hd=>by rw[adv] at hd;exact hp d hd) e
theorem k8 {t:SetTable}{j:Nat}(h:t.slot j=.empty∨t.slot j=.dummy):t.place[SetTable.below t.place j]?≠some j:=by
 intro z;unfold SetTable.slot at h;dsimp only at h;rw[z] at h;simp at h
theorem sX {t:SetTable}{h:Int}{j:Nat}{b:Bool}(e:t.freeSlot h=some (j,b)):t.place[SetTable.below t.place j]?≠some j:=by
 unfold SetTable.freeSlot at e
 cases hp:t.probe (fun _=>h+1) h (t.probeStart h) with
 | none=>rw[hp] at e;cases e
 | some m =>
   rw[hp] at e
   cases m with
   | candidate a b c=>cases e
   | empty j' dm =>
     obtain⟨h1,h2⟩:=jT t _ h _ _ j' dm (fun d hd=>by cases hd) hp;simp only[Option.some.injEq,Prod.mk.injEq] at e
     cases dm with
     | none=>simp only[Ck] at e;rw[←e.1];exact k8 (.inl h1)
     | some d=>simp only[BC] at e;rw[←e.1];exact k8 (.inr (h2 d rfl))
theorem mE {t:SetTable} (n:Nat)(u:Up t.place):Up (t.orStandIn n).place:=by
 unfold SetTable.orStandIn
 split
 . exact u
 . exact gX n
theorem kT {t:SetTable} (n:Nat):(t.orStandIn n).led=t.led:=by
 unfold SetTable.orStandIn
 split<;>rfl
theorem sR {t:SetTable}(es:Array (Int×Value)) (h:Int) (x:Value)(u:Up t.place):Up (layNew t es h x).2.1.place∧(layNew t es h x).2.1.led=t.led:=by
 unfold layNew
 split
 . rename_i j b e;exact⟨mE _ (su u (sX e)),kT _⟩
 . exact⟨gX _,rfl⟩
theorem wl {mask finger moves:Nat}{led plain:Bool}{hs:Array Int}{t:SetTable}{o:Array Nat}(e:SetTable.laid mask finger moves led plain hs=some (t,o)):Up t.place∧t.led=led:=by
 unfold SetTable.laid at e
 cases hl:SetTable.layClean mask hs with
 | none=>rw[hl] at e;cases e
 | some ow =>
   rw[hl] at e;simp only[Option.bind_eq_bind,Option.bind_some,Option.pure_def,Option.some.injEq,Prod.mk.injEq] at e;obtain⟨rfl,_⟩:=e;refine⟨?_,rfl⟩;unfold Up;simp only[List.toList_toArray];rw[List.pairwise_map,List.pairwise_filterMap];refine List.pairwise_lt_range.imp ?_;intro a b hab x hx y hy;obtain⟨_,_,rfl⟩:=Option.map_eq_some_iff.mp hx;obtain⟨_,_,rfl⟩:=Option.map_eq_some_iff.mp hy;exact hab
theorem nX {t:SetTable}(es:Array (Int×Value)) (wanted:Nat):Up (relayAll t es wanted).2.1.place∧(relayAll t es wanted).2.1.led=t.led:=by
 unfold relayAll
 split
 . rename_i t' o e;dsimp only
   split
   . exact wl e
   . exact⟨gX _,rfl⟩
 . exact⟨gX _,rfl⟩
section
variable {prog:Program}{w:World}{K:Type} [DecidableEq K](knd:KeyKind prog w K)
def cT (led:Bool)(h:Heap)(a:Addr)(S:K→Bool) (n:Nat):Prop :=
 ∃ o es ep t,h.get? a=some o∧o.ExactSet∧o.data=.set es ep t∧ElemsOf knd es.toList∧(∀ k,S k=true↔∃ e∈es.toList,knd.is k e.2=true)∧es.size < scanBound∧t.fits es.size=true∧es.size=n∧Up t.place∧t.led=led
variable {knd}
theorem cT.congr {led:Bool}{h:Heap}{a:Addr}{S S':K→Bool}{n n':Nat}(x:cT knd led h a S n)(e:∀ k,S k=S' k)(en:n=n'):cT knd led h a S' n':=by
 obtain⟨o,es,ep,t,h1,h2,h3,h4,h5,r⟩:=x;subst en;exact⟨o,es,ep,t,h1,h2,h3,h4,fun k=>by rw[←e k];exact h5 k,r⟩
theorem cT.at_ {led:Bool}{h h':Heap}{a:Addr}{S:K→Bool}{n:Nat}(x:cT knd led h a S n)(k:∀ o,h.get? a=some o→h'.get? a=some o):cT knd led h' a S n:=by
 obtain⟨o,es,ep,t,ho,r⟩:=x;exact⟨o,es,ep,t,k _ ho,r⟩
theorem jJ {h:Heap}{a:Addr}{o:Obj}{es:Array (Int×Value)}{ep:Nat}{t:SetTable}(ho:h.get? a=some o)(hex:o.ExactSet)(hd:o.data=.set es ep t)
   {es':Array (Int×Value)}{t':SetTable}{S':K→Bool}(hel:ElemsOf knd es'.toList)(hmem:∀ k,S' k=true↔∃ e∈es'.toList,knd.is k e.2=true)(hb:es'.size < scanBound)(hf:t'.fits es'.size=true)(hu:Up t'.place){led:Bool}(hl:t'.led=led) :
   (h.update a (Obj.putSet es' t')).get? a=some { o with data:=.set es' (ep+1) t' }∧cT knd led (h.update a (Obj.putSet es' t')) a S' es'.size:=by
 obtain⟨h1,_⟩:=SetOf_store (knd:=knd) ho hex hd hel hmem hb hf;exact⟨h1,_,es',ep+1,t',h1,hex,rfl,hel,hmem,hb,hf,rfl,hu,hl⟩
variable {A:Around}{E:Value→Shared→Prop}{s:Shared}
theorem dX {a:Addr}{o:Obj}{es es1:Array (Int×Value)}{ep:Nat}{t t2:SetTable}{S':K→Bool}{led:Bool}{c:Bool}{gave:Bool→Sem Unit}(hgave:∀ b,(∃ r,gave b=rule r)∨gave b=pure ())
   (ho:s.heap.get? a=some o)(hex:o.ExactSet)(hd:o.data=.set es ep t)(el:ElemsOf knd es1.toList)(mm:∀ k,S' k=true↔∃ e∈es1.toList,knd.is k e.2=true)(hb:es1.size < scanBound)(hf:t2.fits es1.size=true)(hu:Up t2.place)(hl:t2.led=led)
   {R:Option Bool→Shared→Prop}(q:∀ h',Heap.SameBut a s.heap h'→cT knd led h' a S' es1.size→R (some true) { s with heap:=h' }) :
   wpAny (model prog w) A (storeSet a es1 t2 >>= fun _=>if c=true then(gave (relayAll t2 es1 (SetTable.grown es1.size)).2.2 >>= fun _=>storeSet a (relayAll t2 es1 (SetTable.grown es1.size)).1 (relayAll t2 es1 (SetTable.grown es1.size)).2.1 >>= fun _=>pure (some true)) else pure (some true)) R E s:=by
 have st1:=jJ (knd:=knd) ho hex hd el mm hb hf hu hl;have sb1:=Heap.SameBut.update s.heap a (Obj.putSet es1 t2);refine wpAny_bind (wpAny_storeSet_of ho hd ?_ (fits_of_scanBound hb));by_cases e:c=true
 rotate_left
 . rw[if_neg e];exact wpAny_pure (q _ sb1 st1.2)
 rw[if_pos e];have pr:=relayAll_perm t2 es1 (SetTable.grown es1.size)
 have sz:(relayAll t2 es1 (SetTable.grown es1.size)).1.size=es1.size:=by simpa using pr.length_eq
 have ur:=nX (t:=t2) es1 (SetTable.grown es1.size);have st2:=jJ (knd:=knd) (S':=S') st1.1 hex rfl (el.perm pr) (fun k=>by rw[mm k];exact exists_congr fun e=>and_congr_left fun _=>pr.mem_iff.symm) (by rw[sz];exact hb) (relayAll_fits t2 es1 (SetTable.grown es1.size)) ur.1 (ur.2.trans hl);rw[sz] at st2
 have on:wpAny (model prog w) A (storeSet a (relayAll t2 es1 (SetTable.grown es1.size)).1 (relayAll t2 es1 (SetTable.grown es1.size)).2.1 >>= fun _=>pure (some true)) R E { s with heap:=s.heap.update a (Obj.putSet es1 t2) } :=
   wpAny_bind (wpAny_storeSet_of st1.1 rfl (wpAny_pure (q _ (sb1.trans (Heap.SameBut.update _ a _)) st2.2)) (fits_of_scanBound (by rw[sz];exact hb)))
 rcases hgave (relayAll t2 es1 (SetTable.grown es1.size)).2.2 with ⟨r,e⟩ | e
 . rw[e];exact wpAny_bind (wpAny_rule on)
 . rw[e];exact wpAny_bind (wpAny_pure on)
theorem w8 {a:Addr}{S:K→Bool}{n:Nat}{k:K}{x:Value}{led:Bool}{Q:Bool→Shared→Prop}(hk:knd.is k x=true)(hx:x.scannable=true)(hS:cT knd led s.heap a S n)(room:n+1 < scanBound)
   (q:∀ h',Heap.SameBut a s.heap h'→cT knd led h' a (fun y=>S y||decide (y=k)) (if S k then n else n+1)→Q (!S k) { s with heap:=h' }):wpAny (model prog w) A (setAddHashed a x (knd.hash k)) Q E s:=by
 have hS0:=hS;obtain⟨o,es,ep,t,ho,hex,hd,el,mm,hb,hf,rfl,hu,hl⟩:=hS;unfold setAddHashed setAddHashedIn setAddByScan;refine wpAny_holding (wpAny_bind (wpAny_setState_of ho hd hf ?_));dsimp only;rw[if_pos (byScan_of hx hb el)];refine wpAny_bind (wpAny_bind (wpAny_rule (wpAny_bind (wpAny_setScan_of hk ho hd hf el ?_))))
 cases hr:List.findIdx? (fun e=>knd.is k e.2) es.toList with
 | none =>
   have no:S k=false:=by
     refine Bool.eq_false_iff.mpr fun yes=>?_;obtain⟨e,he,ie⟩:=(mm k).mp yes;exact absurd ie (Bool.eq_false_iff.mp (List.findIdx?_eq_none_iff.mp hr e he))
   have pr:List.Perm (layNew t es (knd.hash k) x).1.toList (es.toList++[(knd.hash k,x)]):=by rw[←Array.toList_push];exact layNew_perm t es (knd.hash k) x
   have fi:=layNew_fits t es (knd.hash k) x;have up:=sR (t:=t) es (knd.hash k) x hu
   have sz:(layNew t es (knd.hash k) x).1.size=es.size+1:=by simpa using pr.length_eq
   generalize layNew t es (knd.hash k) x=L at pr fi up sz ⊢;obtain⟨es1,t1,wd,gv⟩:=L;dsimp only at pr fi up sz ⊢
   have fin:∀ h',Heap.SameBut a s.heap h'→cT knd led h' a (fun y=>S y||decide (y=k)) es1.size→Q true { s with heap:=h' }:=fun h' sb st=>by
     rw[sz] at st;have:=q h' sb;rw[no] at this;exact this st
   cases gv<;>cases e:t1.plain
   . refine wpAny_bind (wpAny_pure ?_);rw[if_neg Bool.false_ne_true];refine wpAny_bind (wpAny_pure ?_);refine dX (led:=led) (fun c=>by cases c;exact .inr rfl;exact .inl ⟨_,rfl⟩) ho hex hd ((el.push hk hx).perm pr) (mem_push_iff hk mm pr) (by rw[sz];exact room) (by first | exact fi | (split;exact fi;exact SetTable.fits_plain_off fi)) (by first | exact up.1 | (split<;>exact up.1)) (by first | exact up.2.trans hl | (split<;>exact up.2.trans hl)) fun h' sb st=>wpAny_pure (fin h' sb st)
   . refine wpAny_bind (wpAny_pure ?_);rw[if_pos rfl,hashByValue_scannable 8 hx];refine wpAny_bind (wpAny_pure ?_);refine dX (led:=led) (fun c=>by cases c;exact .inr rfl;exact .inl ⟨_,rfl⟩) ho hex hd ((el.push hk hx).perm pr) (mem_push_iff hk mm pr) (by rw[sz];exact room) (by first | exact fi | (split;exact fi;exact SetTable.fits_plain_off fi)) (by first | exact up.1 | (split<;>exact up.1)) (by first | exact up.2.trans hl | (split<;>exact up.2.trans hl)) fun h' sb st=>wpAny_pure (fin h' sb st)
   . refine wpAny_bind (wpAny_rule ?_);rw[if_neg Bool.false_ne_true];refine wpAny_bind (wpAny_pure ?_);refine dX (led:=led) (fun c=>by cases c;exact .inr rfl;exact .inl ⟨_,rfl⟩) ho hex hd ((el.push hk hx).perm pr) (mem_push_iff hk mm pr) (by rw[sz];exact room) (by first | exact fi | (split;exact fi;exact SetTable.fits_plain_off fi)) (by first | exact up.1 | (split<;>exact up.1)) (by first | exact up.2.trans hl | (split<;>exact up.2.trans hl)) fun h' sb st=>wpAny_pure (fin h' sb st)
   . refine wpAny_bind (wpAny_rule ?_);rw[if_pos rfl,hashByValue_scannable 8 hx];refine wpAny_bind (wpAny_pure ?_);refine dX (led:=led) (fun c=>by cases c;exact .inr rfl;exact .inl ⟨_,rfl⟩) ho hex hd ((el.push hk hx).perm pr) (mem_push_iff hk mm pr) (by rw[sz];exact room) (by first | exact fi | (split;exact fi;exact SetTable.fits_plain_off fi)) (by first | exact up.1 | (split<;>exact up.1)) (by first | exact up.2.trans hl | (split<;>exact up.2.trans hl)) fun h' sb st=>wpAny_pure (fin h' sb st)
 | some j =>
   obtain⟨hj,ij,_⟩:=List.findIdx?_eq_some_iff_getElem.mp hr;have yes:S k=true:=(mm k).mpr ⟨_,AR hj,ij⟩;refine wpAny_pure (wpAny_pure ?_);have:=q s.heap (Heap.SameBut.refl a s.heap);rw[yes] at this;refine this (hS0.congr (fun y=>?_) rfl);by_cases hy:y=k
   . subst hy;rw[yes];rfl
   . simp[hy]
end
section
variable {K:Type} [DecidableEq K]
def iV (acc:List K)(x:K):List K:=if x∈acc then acc else acc++[x]
def dM (l:List K):List K:=l.foldl iV []
theorem k9 (l:List K)(x:K):dM (l++[x])=iV (dM l) x:=by unfold dM;rw[Ch];rfl
theorem uG (acc:List K)(x:K):(iV acc x).length≤acc.length+1:=by unfold iV;split<;>simp
theorem eC (l:List K):∀ i,(dM (l.take i)).length≤i
 | 0=>by simp[dM]
 | i+1=>by
   have ih:=eC l i
   cases h:l[i]? with
   | none =>
     have:l.length≤i:=List.getElem?_eq_none_iff.mp h;rw[AH (by omega)];rw[AH this] at ih;omega
   | some x =>
     rw[Bw,h];show(dM (l.take i++[x])).length≤i+1;rw[k9];have:=uG (dM (l.take i)) x;omega
theorem pj (l:List K):(dM l).length≤l.length:=by
 have:=eC l l.length
 rwa [AI] at this
theorem qm (l:List K):(dM l).Nodup:=by
 suffices ∀ (l acc:List K),acc.Nodup→(l.foldl iV acc).Nodup from this l [] .nil
 intro l
 induction l with
 | nil=>exact fun _ h=>h
 | cons x l ih =>
   intro acc h;refine ih _ ?_;unfold iV
   split
   . exact h
   . rename_i hx;exact List.nodup_append.mpr ⟨h,by simp,fun a ha b hb=>by rw[List.mem_singleton.mp hb];exact fun e=>hx (e▸ha)⟩
theorem vZ (l:List K)(x:K):x∈dM l↔x∈l:=by
 suffices ∀ (l acc:List K),x∈l.foldl iV acc↔x∈acc∨x∈l by have:=this l [];simpa [dM] using this
 intro l
 induction l with
 | nil=>intro acc;simp
 | cons y l ih =>
   intro acc;rw[BF,ih];unfold iV;by_cases hy:y∈acc
   . rw[if_pos hy];constructor
     . rintro(h | h)
       . exact .inl h
       . exact .inr (.tail _ h)
     . rintro(h | h)
       . exact .inl h
       . rcases List.mem_cons.mp h with rfl | h
         . exact .inl hy
         . exact .inr h
   . rw[if_neg hy,List.mem_append,List.mem_singleton,AE];constructor
     . rintro((h | h) | h)
       . exact .inl h
       . exact .inr (.inl h)
       . exact .inr (.inr h)
     . rintro(h | h | h)
       . exact .inl (.inl h)
       . exact .inl (.inr h)
       . exact .inr h
def nz {prog:Program}{w:World}(knd:KeyKind prog w K)(items:Array Value)(ks:List K):Prop:=items.size=ks.length∧∀ (i:Nat)(k:K),ks[i]?=some k→∃ v,items[i]?=some v∧knd.is k v=true∧v.scannable=true
end
section
variable {prog:Program}{w:World}{K:Type} [DecidableEq K]{knd:KeyKind prog w K}{led:Bool}
theorem sK {h:Heap}{S:Addr}{acc:List K}{x:K}(hs:cT knd led h S (fun k=>decide (k∈acc)||decide (k=x)) (if decide (x∈acc)=true then acc.length else acc.length+1)) :
   cT knd led h S (fun k=>decide (k∈iV acc x)) (iV acc x).length:=by
 refine cT.congr hs (fun k=>?_) ?_
 . unfold iV;by_cases hx:x∈acc
   . rw[if_pos hx];by_cases hk:k=x
     . subst hk;simp[hx]
     . simp[hk]
   . rw[if_neg hx];rw[Bool.eq_iff_iff];simp
 . unfold iV;by_cases hx:x∈acc
   . rw[if_pos hx,if_pos (by simpa using hx)]
   . rw[if_neg hx,if_neg (by simpa using hx),zP];rfl
theorem sJ {A:Around}{R:Result→Shared→Prop}{I S l:Addr}{items:Array Value}{ss:List K}(hh:A.in1.handled=none)(hIl:l≠I)(hSI:S≠I)(hSl:S≠l)(hss:nz knd items ss)(hb:items.size+1 < scanBound) :
   ∀ (k i:Nat)(s:Shared),items.size - i=k→i≤items.size→s.heap.IsListIter I l i→s.heap.IsList l items→cT knd led s.heap S (fun x=>decide (x∈dM (ss.take i))) (dM (ss.take i)).length →
     (∀ h' tk,(∀ b o,b≠S→b≠I→s.heap.get? b=some o→h'.get? b=some o)→cT knd led h' S (fun x=>decide (x∈dM ss)) (dM ss).length→R (.ok (.ret .none)) { s with heap:=h',toks:=tk }) →
     codeAny (model prog w) A (.builtin "set.update.loop" ⟨[.ref S,.ref I],[]⟩) R s:=by
 have hlen:items.size=ss.length:=hss.1;intro k
 induction k with
 | zero =>
   intro i s hk hi hit hl hS hR
   have e:i=items.size:=by omega
   subst e;refine codeAny_builtin PyProof.Rows.F.entry_set_update_loop ?_;rw[Around.under_plainId PyProof.Rows.F.plain_set_update_loop _];refine wpAny_bind (wpAny_pyNext_list_end hh hit hl (by simp) fun h' eb=>?_);rw[hlen,AI] at hS;refine wpAny_pure (hR h' s.toks (fun b o _ hb e=>eb b o hb e) ?_);obtain⟨o,es,ep,t,ho,cE⟩:=hS;exact⟨o,es,ep,t,eb S o hSI ho,cE⟩
 | succ k ih =>
   intro i s hk hi hit hl hS hR
   have hlt:i < items.size:=by omega
   obtain⟨x,hx⟩:∃ x,ss[i]?=some x:=⟨ss[i]'(by omega),zN (by omega)⟩;obtain⟨v,ht,hv,hsc⟩:=hss.2 i x hx;refine codeAny_builtin PyProof.Rows.F.entry_set_update_loop ?_;rw[Around.under_plainId PyProof.Rows.F.plain_set_update_loop _];refine wpAny_bind (wpAny_pyNext_list_item hit hl ht fun h' hit' sb=>?_)
   have hS':cT knd led h' S (fun x=>decide (x∈dM (ss.take i))) (dM (ss.take i)).length:=by
     obtain⟨o,es,ep,tb,ho,cE⟩:=hS;exact⟨o,es,ep,tb,(sb.2 S hSI).trans ho,cE⟩
   show wpAny _ A.in1 (holding [v] (setAdd S (v)) >>= _) _ _ _;refine wpAny_bind (wpAny_holding ?_);unfold setAdd;refine wpAny_holding (wpAny_bind (knd.pyHash (k:=x) hv ?_))
   have hroom:(dM (ss.take i)).length+1 < scanBound:=by have:=eC ss i;omega
   refine w8 (knd:=knd) hv hsc hS' hroom fun h2 hsb hS2=>?_;have hS3:=sK hS2
   have et:dM (ss.take (i+1))=iV (dM (ss.take i)) x:=by rw[Bw,hx];exact k9 _ _
   rw[←et] at hS3;refine wpAny_pure ⟨plainId_quiet PyProof.Rows.F.plain_set_update_loop _,ih (i+1) _ (by omega) hlt ?_ ?_ hS3 fun h3 tk kk hS4=>?_⟩
   . exact hit'.at fun o e=>(hsb.2 I (Ne.symm hSI)).trans e
   . exact hl.at fun o e=>(hsb.2 l (Ne.symm hSl)).trans ((sb.2 l hIl).trans e)
   . exact hR h3 tk (fun b o h1 h2' e=>kk b o h1 h2' ((hsb.2 b h1).trans ((sb.2 b h2').trans e))) hS4
end
def eu (w:World):Bool:=!w.params.followText "set-order"
section
variable {prog:Program}{w:World}{A:Around}{E:Value→Shared→Prop}{s:Shared}
theorem jl (a:Value){G:Value→Shared→Prop}(g:G (.ref s.heap.objs.size) { s with heap:=s.heap.push { cls:=.type "set",dict:=none,data:=.set #[] 0 (.fresh 0 0 (eu w)) } }) :
   codeAny (model prog w) A (.call (.builtin "set.__new__") ⟨[.type "set",a],[]⟩) (wants G E) s:=by
 have made:wpAny (model prog w) A.in1 (Builtin.«set.__new__» ⟨[.type "set",a],[]⟩) (fun fin s'=>match fin with | .done f=>wants G E (.ok f) s' | .again c=>c.quiet=true∧codeAny (model prog w) A.in1 c (wants G E) s') (fun e s'=>wants G E (.error e) s') s:=by
   have up:=sub_set_self;obtain⟨hp,gs,d,tk,os⟩:=s;unfold Builtin.«set.__new__» Builtin.Frozenset.newClass;dsimp only
   wp_walk
   refine wpAny_askSetting (wpAny_pure ?_);simp only[newObj];exact wpAny_bind (wpAny_alloc (wpAny_pure (wpAny_pure g)))
 refine codeAny_of_tree (wpAny_bind (wpAny_of_eq (F.newCall_set_1 a) (wpAny_pure ⟨plainId_quiet F.plain_set_new _,?_⟩)));refine codeAny_builtin F.entry_set_new ?_;rw[Around.under_plainId F.plain_set_new _];exact made
theorem tN {K:Type} [DecidableEq K]{knd:KeyKind prog w K}{l:Addr}{items:Array Value}{ss:List K}{Q:Value→Shared→Prop}(hh:A.handled=none)(hl:s.heap.IsList l items)(hss:nz knd items ss)(hb:items.size+1 < scanBound)
   (h:∀ h' tk,(∀ b o,s.heap.get? b=some o→h'.get? b=some o)→cT knd (eu w) h' s.heap.objs.size (fun x=>decide (x∈dM ss)) (dM ss).length→Q (.ref s.heap.objs.size) { s with heap:=h',toks:=tk }) :
   wpAny (model prog w) A (call (.type "set") [.ref l]) Q E s:=by
 refine lM (Q1:=fun obj s1=>∃ led:Bool,led=eu w∧obj=.ref s.heap.objs.size∧s1={ s with heap:=s.heap.push { cls:=.type "set",dict:=none,data:=.set #[] 0 (.fresh 0 0 led) } }) F.called_set (F.typeCall_set_1 _) F.entry_set_init (jl (.ref l) ⟨eu w,rfl,rfl,rfl⟩) ?_ ?_
 . rintro obj s1 ⟨led,hled,rfl,rfl⟩;have hT:Shared.TypeIs { s with heap:=s.heap.push { cls:=.type "set",dict:=none,data:=.set #[] 0 (.fresh 0 0 led) } } (.ref s.heap.objs.size) "set":=⟨_,Heap.get?_push_size _ rfl,rfl⟩;exact⟨hT,fun E'=>check_set_init_1 hT rfl⟩
 . rintro obj s1 ⟨led,hled,rfl,rfl⟩
   have hlt:l < s.heap.objs.size:=by obtain⟨_,e,_⟩:=hl;exact Heap.lt_size e
   obtain⟨⟨oc,od,odt,osl⟩,hol,hcl,nl,hdl⟩:=id hl;simp only at hcl hdl;subst hcl;subst hdl;have hol':(s.heap.push { cls:=.type "set",dict:=none,data:=.set #[] 0 (.fresh 0 0 led) }).get? l=some { cls:=.type "list",dict:=od,data:=.seq items nl,slots:=osl }:=Heap.get?_push_of_some _ hol;have hS:(s.heap.push { cls:=.type "set",dict:=none,data:=.set #[] 0 (.fresh 0 0 led) }).get? s.heap.objs.size=some { cls:=.type "set",dict:=none,data:=.set #[] 0 (.fresh 0 0 led) }:=Heap.get?_push_size _ rfl;have hl1:(s.heap.push { cls:=.type "set",dict:=none,data:=.set #[] 0 (.fresh 0 0 led) }).IsList l items:=⟨_,hol',rfl,nl,rfl⟩;have hsls:=F.sub_list_set;have hslf:=F.sub_list_frozenset
   have hne:(Value.type "list"==Value.type "dict")=false:=by decide
   unfold Builtin.«set.__init__» noKeywords Builtin.Frozenset.updateFrom;generalize hPI:pyIter=PI
   wp_walk
   subst hPI;refine wpAny_pyIter_list hl1 (wpAny_bind (wpAny_runValue ?_));have hz:(s.heap.push { cls:=.type "set",dict:=none,data:=.set #[] 0 (.fresh 0 0 led) }).objs.size=s.heap.objs.size+1:=Heap.size_push ..;refine sJ (knd:=knd) (led:=led) (l:=l) (items:=items) (ss:=ss) (by simp[hh]) (by rw[hz];exact Aa (A6 hlt)) (by rw[hz];exact Aa (Bo _)) (BL hlt) hss hb (items.size - 0) 0 _ (by omega) (AF _) ⟨_,Heap.get?_push_size _ rfl,rfl,rfl⟩ (hl1.push _) ?_ ?_
   . exact⟨_,#[],0,_,Heap.get?_push_of_some _ hS,⟨rfl,rfl,rfl⟩,rfl,fun e he=>by simp at he,fun k=>by simp[dM],by decide,by rfl,rfl,List.Pairwise.nil,rfl⟩
   . intro h' tk kk hS';subst hled;refine wpAny_pure (wpAny_pure ⟨rfl,h h' tk (fun b o e=>?_) hS'⟩);have hlb:=Heap.lt_size e;exact kk b o (Aa hlb) (by rw[hz];exact Aa (A6 hlb)) (Heap.get?_push_of_some _ (Heap.get?_push_of_some _ e))
end
theorem bq:Slot "set_iterator" "__next__" "set_iterator.__next__" :=
 .of (owner:="set_iterator") (n:="__next__") (by rw[typeLookup_type,builtinLookup_eq_fast];kernel_rfl) (by decide) (by decide) (by decide)
   (by first | exact .inl (by decide) | exact .inr (by decide)) (by rw[isSubtype_type];kernel_rfl)
theorem gS:Slot "set_iterator" "__iter__" "set_iterator.__iter__" :=
 .of (owner:="set_iterator") (n:="__iter__") (by rw[typeLookup_type,builtinLookup_eq_fast];kernel_rfl) (by decide) (by decide) (by decide)
   (by first | exact .inl (by decide) | exact .inr (by decide)) (by rw[isSubtype_type];kernel_rfl)
theorem dB:entryFor table "set_iterator.__next__"=some Builtin.«set_iterator.__next__»:=entryFor_of_tree (by kernel_rfl)
theorem kS:entryFor table "set_iterator.__iter__"=some Builtin.«dict_keyiterator.__iter__» :=
 entryFor_alias (id':="dict_keyiterator.__iter__") (by kernel_rfl) rfl (by decide) (by kernel_rfl)
theorem ib:entryFor table "set.__iter__"=some Builtin.«frozenset.__iter__» :=
 entryFor_alias (id':="frozenset.__iter__") (by kernel_rfl) rfl (by decide) (by kernel_rfl)
theorem oV:Manifest.owners.lookup (String.ofList ['r','o','t','a','r','e','t','i','_','t','e','s'].reverse)=some Manifest.sig_set_iterator:=by kernel_rfl
theorem dQ (a:Value):argsOk "set_iterator.__next__" ⟨[a],[]⟩:=by
 unfold argsOk;rw[signature?_of (id:="set_iterator.__next__") (n:=['_','_','t','x','e','n','_','_']) (o:=['r','o','t','a','r','e','t','i','_','t','e','s']) (by kernel_rfl) oV];kernel_rfl
theorem mX (a:Value):argsOk "set_iterator.__iter__" ⟨[a],[]⟩:=by
 unfold argsOk;rw[signature?_of (id:="set_iterator.__iter__") (n:=['_','_','r','e','t','i','_','_']) (o:=['r','o','t','a','r','e','t','i','_','t','e','s']) (by kernel_rfl) oV];kernel_rfl
theorem gD {α:Type}:∀ (l:List α) (i:Nat)(h:i < l.length),(l[i]::l.eraseIdx i).Perm l
 | x::l,0,h=>List.Perm.refl _
 | x::l,i+1,h=>by
   show(l[i]'(by simpa using h)::x::l.eraseIdx i).Perm (x::l);exact(List.Perm.swap x _ _).trans ((gD l i (by simpa using h)).cons x)
theorem rf {α:Type}(next:Nat→Nat):∀ (fuel k:Nat)(left:List α)(out:Array α),left.length=fuel→(pickOrder.go next fuel k left out).toList.Perm (out.toList++left)
 | 0,k,left,out,h=>by
   have e:left=[]:=List.length_eq_zero_iff.mp h;subst e;show out.toList.Perm _;rw[AO]
 | fuel+1,k,left,out,h=>by
   have hlt:next k % left.length < left.length:=Nat.mod_lt _ (by omega);show(match left[next k % left.length]? with | some x=>pickOrder.go next fuel (k+1) (left.eraseIdx (next k % left.length)) (out.push x) | none=>out).toList.Perm _;rw[zN hlt];dsimp only;refine(rf next fuel (k+1) _ _ (by rw[List.length_eraseIdx_of_lt hlt];omega)).trans ?_;rw[Array.toList_push,Bj];exact List.Perm.append_left _ (gD _ _ hlt)
theorem lr {α:Type}(next:Nat→Nat)(xs:Array α):(pickOrder next xs).toList.Perm xs.toList:=by
 have:=rf next xs.size 0 xs.toList #[] (by simp)
 simpa [pickOrder] using this
section
variable {prog:Program}{w:World}{A:Around}{E:Value→Shared→Prop}{s:Shared}
theorem kR {M:Model}{src:Source}{n:Nat}(hn:n≠0){Q:Nat→Shared→Prop}(h:∀ i d,i < n→Q i { s with drawn:=d }):wpAny M A (choose src n) Q E s:=by
 intro Γ p hΓ;show Sem.wp M Γ (.choose src n .pure) _ _ p s;rw[Sem.wp_choose];exact⟨hn,h _ _ (Nat.mod_lt _ (by omega))⟩
theorem fE {M:Model}{α:Type}:∀ (n:Nat)(xs:List α)(s:Shared)(Q:List α→Shared→Prop),xs.length=n→(∀ ys d,ys.Perm xs→Q ys { s with drawn:=d })→wpAny M A (drawOrder n xs) Q E s
 | 0,xs,s,Q,h,q=>by
   have e:xs=[]:=List.length_eq_zero_iff.mp h;subst e;exact wpAny_pure (q [] s.drawn (List.Perm.refl _))
 | n+1,[],s,Q,h,q=>by cases h
 | n+1,x::xs,s,Q,h,q=>by
   show wpAny M A (choose .order (x::xs).length >>= fun i=>match (x::xs)[i]? with | some y=>(do return y::(←drawOrder n ((x::xs).eraseIdx i))) | none=>unsupported "internal:drawOrder") Q E s;refine wpAny_bind (kR (by simp) fun i d hi=>?_);rw[zN hi];dsimp only;refine wpAny_bind (fE n _ _ _ (by rw[List.length_eraseIdx_of_lt hi];omega) fun ys d' hp=>?_);exact wpAny_pure (q _ d' ((hp.cons _).trans (gD _ _ hi)))
end
def iy (h:Heap)(I:Addr) (first:Value) (i:Nat)(a:Addr) (n ep:Nat):Prop:=∃ o,h.get? I=some o∧o.cls=.type "set_iterator"∧o.data=.fields #[first,.int i 0,.ref a,.int n 0,.int ep 0]
theorem iy.typeIs {s:Shared}{I:Addr}{f:Value}{i:Nat}{a:Addr}{n ep:Nat}(x:iy s.heap I f i a n ep):s.TypeIs (.ref I) "set_iterator":=let ⟨o,ho,hc,_⟩:=x;⟨o,ho,hc⟩
theorem iy.at_ {h h':Heap}{I:Addr}{f:Value}{i:Nat}{a:Addr}{n ep:Nat}(x:iy h I f i a n ep)(e:∀ o,h.get? I=some o→h'.get? I=some o):iy h' I f i a n ep:=let ⟨o,ho,r⟩:=x;⟨o,e _ ho,r⟩
section
variable {prog:Program}{w:World}{A:Around}{E:Value→Shared→Prop}{s:Shared}{I a:Addr}{n ep k:Nat}{oS:Obj}{es:Array (Int×Value)}{t:SetTable}
theorem rN {f:Value}{i:Nat}{Q:Value→Shared→Prop}(hit:iy s.heap I f i a n ep)(h:Q (.ref I) s):wpAny (model prog w) A (pyIter (.ref I)) Q E s:=by
 refine wpAny_pyIter_slot hit.typeIs gS (wpAny_call_entry gS hit.typeIs kS ?_ (mX _));show wpAny _ _ (ret (.ref I)) _ _ s;exact wpAny_pure ⟨_,rfl, "set_iterator",_,hit.typeIs,bq.lookup,h⟩
theorem mv {sl sl':Nat}{x:Value}{Q:Option Value→Shared→Prop}(hit:iy s.heap I (.int sl 0) k a n ep)(ho:s.heap.get? a=some oS)(hd:oS.data=.set es ep t)(hf:t.fits es.size=true)(hn:es.size=n)
   (hN:∀ (A:Around)(E:Value→Shared→Prop)(Q:Option (Value×Nat)→Shared→Prop),Q (some (x,sl')) s→wpAny (model prog w) A (setNext a sl k ep) Q E s)
   (hQ:∀ h',iy h' I (.int sl' 0) (k+1) a n ep→Heap.SameBut I s.heap h'→Q (some x) { s with heap:=h' }) :
   wpAny (model prog w) A (pyNext (.ref I)) Q E s:=by
 obtain⟨o,hoI,hc,hdI⟩:=id hit;unfold pyNext
 refine wpAny_bind (wpAny_attempt (wpAny_callSpecial?_slot (name:=zM "__next__") hit.typeIs bq
   (wpAny_call_entry bq hit.typeIs dB ?_ (dQ _))))
 show wpAny _ _ (fieldsOf (.ref I) >>= _) _ _ s;refine wpAny_bind (wpAny_fieldsOf hoI hdI ?_);show wpAny _ _ (setEntries a >>= _) _ _ s;refine wpAny_bind (wpAny_setEntries_of ho hd hf ?_);rw[if_neg (by rw[hn];simp)];show wpAny _ _ (setNext a (Bq (sl:Int)) (Bq (k:Int)) (Bq (ep:Int)) >>= _) _ _ s;simp only[Au];refine wpAny_bind (hN _ _ _ ?_);dsimp only;refine wpAny_bind (wpAny_setField hoI hdI (by simp) ?_);have ho1:=Heap.get?_update_self (Obj.mapFields (·.setIfInBounds 0 (rawInt (sl':Int)))) hoI (Obj.isFreed_of_fields (Obj.data_mapFields hdI _));refine wpAny_bind (wpAny_setField ho1 (Obj.data_mapFields hdI _) (by simp) ?_);refine wpAny_pure ⟨x,rfl,wpAny_pure (hQ _ ?_ ((Heap.SameBut.update ..).trans (Heap.SameBut.update ..)))⟩
 exact⟨_,Heap.get?_update_self _ ho1 (Obj.isFreed_of_fields (Obj.data_mapFields (Obj.data_mapFields hdI _) _)),(Obj.cls_mapFields ..).trans ((Obj.cls_mapFields ..).trans hc),by
   rw[Obj.data_mapFields (Obj.data_mapFields hdI _)];simp[rawInt]⟩
theorem og {sl:Nat}{Q:Option Value→Shared→Prop}(hh:A.handled=none)(hit:iy s.heap I (.int sl 0) k a n ep)(ho:s.heap.get? a=some oS)(hd:oS.data=.set es ep t)(hf:t.fits es.size=true)(hn:es.size=n)
   (hN:∀ (A:Around)(E:Value→Shared→Prop)(Q:Option (Value×Nat)→Shared→Prop),Q none s→wpAny (model prog w) A (setNext a sl k ep) Q E s)
   (hQ:∀ h',Heap.ExtBut I s.heap h'→Q none { s with heap:=h' }) :
   wpAny (model prog w) A (pyNext (.ref I)) Q E s:=by
 obtain⟨o,hoI,hc,hdI⟩:=id hit;unfold pyNext
 refine wpAny_bind (wpAny_attempt (wpAny_callSpecial?_slot (name:=zM "__next__") hit.typeIs bq
   (wpAny_call_entry bq hit.typeIs dB ?_ (dQ _))))
 show wpAny _ _ (fieldsOf (.ref I) >>= _) _ _ s;refine wpAny_bind (wpAny_fieldsOf hoI hdI ?_);show wpAny _ _ (setEntries a >>= _) _ _ s;refine wpAny_bind (wpAny_setEntries_of ho hd hf ?_);rw[if_neg (by rw[hn];simp)];show wpAny _ _ (setNext a (Bq (sl:Int)) (Bq (k:Int)) (Bq (ep:Int)) >>= _) _ _ s;simp only[Au];refine wpAny_bind (hN _ _ _ ?_);dsimp only;refine wpAny_bind (wpAny_setField hoI hdI (by simp) ?_);show wpAny _ _ (newExc (.type "StopIteration") [] >>= _) _ _ _;refine wpAny_bind ?_;simp only[newExc,newTuple];refine wpAny_bind (wpAny_newObj_type ?_ (by size_fits));refine wpAny_bind (m:=firstArgMember _ _) (wpAny_of_eq (a:=Value.none) (by first | rfl | (simp only[firstArgMember];rfl)) ?_);refine wpAny_newObj_type ?_ (by size_fits);simp only[raiseNew];refine wpAny_bind (wpAny_handled ?_);rw[show A.in1.handled=none from hh];refine wpAny_bind (wpAny_pure (wpAny_throw ?_));refine wpAny_bind (wpAny_isInstance (T:="StopIteration") (b:=true) ⟨_,Heap.get?_push_size _ rfl,rfl⟩ isSubtype_stop ?_);exact wpAny_pure (hQ _ (((Heap.SameBut.update ..).extBut.push _).push _))
theorem nR {T:Addr}{ps:Array Value}{j:Nat}{x:Value}{hx:Int}{oT:Obj}{nT:Nat}{Q:Option Value→Shared→Prop}(hit:iy s.heap I (.ref T) k a n ep)(hT:s.heap.get? T=some oT)(hdT:oT.data=.seq ps nT)
   (ho:s.heap.get? a=some oS)(hd:oS.data=.set es ep t)(hf:t.fits es.size=true)(hn:es.size=n)(hp:ps[k]?=some (rawInt (j:Int)))(he:es[j]?=some (hx,x))
   (hQ:∀ h',iy h' I (.ref T) (k+1) a n ep→Heap.SameBut I s.heap h'→Q (some x) { s with heap:=h' }) :
   wpAny (model prog w) A (pyNext (.ref I)) Q E s:=by
 obtain⟨o,hoI,hc,hdI⟩:=id hit;unfold pyNext
 refine wpAny_bind (wpAny_attempt (wpAny_callSpecial?_slot (name:=zM "__next__") hit.typeIs bq
   (wpAny_call_entry bq hit.typeIs dB ?_ (dQ _))))
 show wpAny _ _ (fieldsOf (.ref I) >>= _) _ _ s;refine wpAny_bind (wpAny_fieldsOf hoI hdI ?_);show wpAny _ _ (setEntries a >>= _) _ _ s;refine wpAny_bind (wpAny_setEntries_of ho hd hf ?_);rw[if_neg (by rw[hn];simp)];show wpAny _ _ (seqItems? (.ref T) >>= _) _ _ s;refine wpAny_bind (wpAny_seqItems hT hdT ?_);simp only[Au,hp,rawInt];unfold setNextDrawn;refine wpAny_bind (wpAny_bind (wpAny_setState_of ho hd hf ?_));simp only[bne_self_eq_false,Bool.false_eq_true,↓reduceIte,he];refine wpAny_bind (wpAny_pure ?_);refine wpAny_pure ?_;refine wpAny_bind (wpAny_setField hoI hdI (by simp) ?_);refine wpAny_pure ⟨x,rfl,wpAny_pure (hQ _ ?_ (Heap.SameBut.update ..))⟩
 exact⟨_,Heap.get?_update_self _ hoI (Obj.isFreed_of_fields (Obj.data_mapFields hdI _)),(Obj.cls_mapFields ..).trans hc,by
   rw[Obj.data_mapFields hdI];simp[rawInt]⟩
theorem qu {T:Addr}{ps:Array Value}{oT:Obj}{nT:Nat}{Q:Option Value→Shared→Prop}(hh:A.handled=none)(hit:iy s.heap I (.ref T) k a n ep)(hT:s.heap.get? T=some oT)(hdT:oT.data=.seq ps nT)
   (ho:s.heap.get? a=some oS)(hd:oS.data=.set es ep t)(hf:t.fits es.size=true)(hn:es.size=n)(hp:ps[k]?=none)
   (hQ:∀ h',Heap.ExtBut I s.heap h'→Q none { s with heap:=h' }) :
   wpAny (model prog w) A (pyNext (.ref I)) Q E s:=by
 obtain⟨o,hoI,hc,hdI⟩:=id hit;unfold pyNext
 refine wpAny_bind (wpAny_attempt (wpAny_callSpecial?_slot (name:=zM "__next__") hit.typeIs bq
   (wpAny_call_entry bq hit.typeIs dB ?_ (dQ _))))
 show wpAny _ _ (fieldsOf (.ref I) >>= _) _ _ s;refine wpAny_bind (wpAny_fieldsOf hoI hdI ?_);show wpAny _ _ (setEntries a >>= _) _ _ s;refine wpAny_bind (wpAny_setEntries_of ho hd hf ?_);rw[if_neg (by rw[hn];simp)];show wpAny _ _ (seqItems? (.ref T) >>= _) _ _ s;refine wpAny_bind (wpAny_seqItems hT hdT ?_);simp only[Au,hp];refine wpAny_bind (wpAny_setField hoI hdI (by simp) ?_);have ho1:=Heap.get?_update_self (Obj.mapFields (·.setIfInBounds 0 (rawInt 0))) hoI (Obj.isFreed_of_fields (Obj.data_mapFields hdI _));refine wpAny_bind (wpAny_setField ho1 (Obj.data_mapFields hdI _) (by simp) ?_);show wpAny _ _ (newExc (.type "StopIteration") [] >>= _) _ _ _;refine wpAny_bind ?_;simp only[newExc,newTuple];refine wpAny_bind (wpAny_newObj_type ?_ (by size_fits));refine wpAny_bind (m:=firstArgMember _ _) (wpAny_of_eq (a:=Value.none) (by first | rfl | (simp only[firstArgMember];rfl)) ?_);refine wpAny_newObj_type ?_ (by size_fits);simp only[raiseNew];refine wpAny_bind (wpAny_handled ?_);rw[show A.in1.handled=none from hh];refine wpAny_bind (wpAny_pure (wpAny_throw ?_));refine wpAny_bind (wpAny_isInstance (T:="StopIteration") (b:=true) ⟨_,Heap.get?_push_size _ rfl,rfl⟩ isSubtype_stop ?_);exact wpAny_pure (hQ _ ((((Heap.SameBut.update ..).trans (Heap.SameBut.update ..)).extBut.push _).push _))
end
theorem gp {K:Type} [DecidableEq K]:∀ (L ks:List K),L.Nodup→(∀ x∈L,x∈ks)→ks.length≤L.length→ks.Perm L
 | [],ks,_,_,h=>by
   have e:ks=[]:=List.length_eq_zero_iff.mp (by simpa using h);rw[e]
 | x::L,ks,hn,hs,h=>by
   have hx:x∈ks:=hs x (.head _);have hp:=List.perm_cons_erase hx;refine hp.trans (List.Perm.cons x (gp L _ (List.nodup_cons.mp hn).2 (fun y hy=>?_) ?_))
   . exact(BV (fun e=>(List.nodup_cons.mp hn).1 (by rw[←e];exact hy))).mpr (hs y (.tail _ hy))
   . rw[BE hx];simp only[Az] at h;omega
section
variable {prog:Program}{w:World}{A:Around}{E:Value→Shared→Prop}{s:Shared}{I a:Addr}{n ep k:Nat}{oS:Obj}{es:Array (Int×Value)}{t:SetTable}
theorem mq (hw:eu w=false)(ho:s.heap.get? a=some oS)(hd:oS.data=.set es ep t)(hf:t.fits es.size=true){sl:Nat}{Q:Option (Value×Nat)→Shared→Prop}
   (h:Q (((pickOrder (w.params.setOrder a ep) es)[k]?).map fun e=>(e.2,sl)) s):wpAny (model prog w) A (setNext a sl k ep) Q E s:=by
 have hb:w.params.followText "set-order"=true:=by unfold eu at hw;simpa using hw
 unfold setNext setsByText;refine wpAny_bind (wpAny_setState_of ho hd hf ?_);refine wpAny_bind (wpAny_bind (wpAny_askSetting (wpAny_pure ?_)));show wpAny _ _ (if w.params.followText "set-order"=true then _ else _) _ _ s;rw[if_pos hb];simp only[bne_self_eq_false,Bool.false_eq_true,↓reduceIte];unfold setWalk setsByText;refine wpAny_bind (wpAny_bind (wpAny_setState_of ho hd hf ?_));refine wpAny_bind (wpAny_bind (wpAny_askSetting (wpAny_pure ?_)));show wpAny _ _ (if w.params.followText "set-order"=true then _ else _) _ _ s;rw[if_pos hb];refine wpAny_bind (wpAny_askSetting (wpAny_pure ?_));exact wpAny_pure h
theorem nM (hw:eu w=true)(hl:t.led=true)(hnd:(!t.plain&&decide (es.size > 1))=false)(ho:s.heap.get? a=some oS)(hd:oS.data=.set es ep t)(hf:t.fits es.size=true){sl:Nat}{Q:Option (Value×Nat)→Shared→Prop}
   (h:Q (match es[SetTable.below t.place sl]?,t.place[SetTable.below t.place sl]? with | some (_,x),some j=>some (x,j+1) | _,_=>none) s):wpAny (model prog w) A (setNext a sl k ep) Q E s:=by
 have hb:w.params.followText "set-order"=false:=by unfold eu at hw;simpa using hw
 unfold setNext setsByText;refine wpAny_bind (wpAny_setState_of ho hd hf ?_);refine wpAny_bind (wpAny_bind (wpAny_askSetting (wpAny_pure ?_)));show wpAny _ _ (if w.params.followText "set-order"=true then _ else _) _ _ s;rw[if_neg (by rw[hb];exact Bool.false_ne_true)];show wpAny _ _ (if(!t.plain&&decide (es.size > 1))=true then _ else _) _ _ s;rw[if_neg (by rw[hnd];exact Bool.false_ne_true)];show wpAny _ _ ((if(!t.led&&!es.isEmpty)=true then unsupported "set:maker-not-led" else pure ()) >>= _) _ _ s;rw[if_neg (by rw[hl];simp)];refine wpAny_bind (wpAny_pure ?_);exact wpAny_pure h
def SIt (I a:Addr)(oS:Obj)(f:Nat→Value) (n ep:Nat) (i:Nat)(h:Heap):Prop:=iy h I (f i) i a n ep∧h.get? a=some oS
theorem jS (hh:A.handled=none)(hne:a≠I)(hd:oS.data=.set es ep t)(hf:t.fits es.size=true)(hn:es.size=n)(sl:Nat→Nat)(vs:List Value)(hv:vs.length=n)
   (hN:∀ (k:Nat)(s:Shared)(A:Around)(E:Value→Shared→Prop)(Q:Option (Value×Nat)→Shared→Prop),k≤n→s.heap.get? a=some oS→Q ((vs[k]?).map fun v=>(v,sl (k+1))) s→wpAny (model prog w) A (setNext a (sl k) k ep) Q E s) :
   Walks prog w A I [I,a] [I] n (fun k v=>vs[k]?=some v) (SIt I a oS (fun i=>.int (sl i) 0) n ep) where
 sub:=fun b hb=>by simp at hb;simp[hb]
 frame:=fun i h h' st hk=>⟨st.1.at_ fun o e=>hk I (by simp) o e,hk a (by simp) _ st.2⟩
 item:=fun i s Q E hi st hQ=>by
   have hx:vs[i]?=some (vs[i]'(by omega)):=zN (by omega);refine mv st.1 st.2 hd hf hn (sl':=sl (i+1)) (x:=vs[i]'(by omega)) (fun A E Q q=>hN i s A E Q (by omega) st.2 (by rw[hx];exact q)) fun h' hit' sb=>?_;exact hQ _ h' s.toks hx ⟨hit',(sb.2 a hne).trans st.2⟩ fun b o hb e=>(sb.2 b (fun h=>hb (by simp[h]))).trans e
 done:=fun s Q E st hQ=>by
   have hx:vs[n]?=none:=List.getElem?_eq_none_iff.mpr (by omega);exact og hh st.1 st.2 hd hf hn (fun A E Q q=>hN n s A E Q (zR _) st.2 (by rw[hx];exact q)) fun h' eb=>hQ h' s.toks fun b o hb e=>eb b o (fun h=>hb (by simp[h])) e
 self:=fun _ _ _ _ st hQ=>rN st.1 hQ
theorem tR {T:Addr}{oT:Obj}{nT:Nat}{ps:List Nat}(hh:A.handled=none)(hne:a≠I)(hTne:T≠I)(hd:oS.data=.set es ep t)(hf:t.fits es.size=true)(hn:es.size=n)(hdT:oT.data=.seq (ps.map fun(i:Nat)=>rawInt i).toArray nT)(hp:ps.length=n)(hlt:∀ p∈ps,p < n) :
   Walks prog w A I [I,a,T] [I] n (fun k v=>(ps.filterMap fun p=>(es[p]?).map (·.2))[k]?=some v) (fun i h=>SIt I a oS (fun _=>.ref T) n ep i h∧h.get? T=some oT) where
 sub:=fun b hb=>by simp at hb;simp[hb]
 frame:=fun i h h' st hk=>⟨⟨st.1.1.at_ fun o e=>hk I (by simp) o e,hk a (by simp) _ st.1.2⟩,hk T (by simp) _ st.2⟩
 item:=fun i s Q E hi st hQ=>by
   obtain⟨p,hx⟩:∃ p,ps[i]?=some p:=⟨_,zN (by omega)⟩
   have hj:p < es.size:=by rw[hn];exact hlt _ (zS hx)
   obtain⟨e,he⟩:∃ e,es[p]?=some e:=⟨_,Ab hj⟩;obtain⟨e1,e2⟩:=e
   have hfm:∀ (l:List Nat),(∀ p∈l,p < es.size)→∀ (k p:Nat),l[k]?=some p→(l.filterMap fun p=>(es[p]?).map (·.2))[k]?=(es[p]?).map (·.2):=by
     intro l
     induction l with
     | nil=>intro _ k p h;cases h
     | cons q l ih =>
       intro hl k p h;obtain⟨eq,hq⟩:∃ e,es[q]?=some e:=⟨_,Ab (hl q (.head _))⟩;rw[List.filterMap_cons_some (b:=eq.2) (by rw[hq];rfl)]
       cases k with
       | zero=>cases h;rw[hq];rfl
       | succ k=>exact ih (fun p hp=>hl p (.tail _ hp)) k p h
   refine nR st.1.1 st.2 hdT st.1.2 hd hf hn (j:=p) (by simp[hx]) he fun h' hit' sb=>?_;refine hQ _ h' s.toks ?_ ⟨⟨hit',(sb.2 a hne).trans st.1.2⟩,(sb.2 T hTne).trans st.2⟩ fun b o hb e=>(sb.2 b (fun h=>hb (by simp[h]))).trans e;rw[hfm ps (fun p hp=>by rw[hn];exact hlt p hp) i _ hx,he];rfl
 done:=fun s Q E st hQ=>by
   refine qu hh st.1.1 st.2 hdT st.1.2 hd hf hn ?_ fun h' eb=>hQ h' s.toks fun b o hb e=>eb b o (fun h=>hb (by simp[h])) e;simp[hp]
 self:=fun _ _ _ _ st hQ=>rN st.1.1 hQ
end
end L2
namespace L2
open PySem PySem.Spec PyProof.Rows PySem.W
section
variable {prog:Program}{w:World}{A:Around}{E:Value→Shared→Prop}{s:Shared}{a:Addr}{n:Nat}{K:Type} [DecidableEq K]{knd:KeyKind prog w K}{S:K→Bool}
def kZ (knd:KeyKind prog w K)(S:K→Bool) (n:Nat)(vs:List Value):Prop:=vs.length=n∧(∀ v∈vs,∃ k,knd.is k v=true∧S k=true)∧∀ k,S k=true→∃ v∈vs,knd.is k v=true
theorem kZ.perm {vs vs':List Value}(d:kZ knd S n vs)(p:vs'.Perm vs):kZ knd S n vs' :=
 ⟨p.length_eq.trans d.1,fun v hv=>d.2.1 v (p.mem_iff.mp hv),fun k hk=>let ⟨v,hv,e⟩:=d.2.2 k hk;⟨v,p.mem_iff.mpr hv,e⟩⟩
theorem tZ (hh:A.handled=none)(hS:cT knd (eu w) s.heap a S n){Q:Value→Shared→Prop}
   (h:∀ (I:Addr)(h':Heap) d (St:Nat→Heap→Prop)(vs:List Value)(fp:List Addr),s.heap.objs.size≤I→(∀ b o,s.heap.get? b=some o→h'.get? b=some o)→(∀ b∈fp,b=a∨s.heap.objs.size≤b)→Walks prog w A I fp [I] n (fun k v=>vs[k]?=some v) St→St 0 h' →
     kZ knd S n vs→Q (.ref I) { s with heap:=h',drawn:=d }):wpAny (model prog w) A (pyIter (.ref a)) Q E s:=by
 obtain⟨oS,es,ep,t,ho,hex,hd,hel,hmem,hb,hf,hn,hup,hled⟩:=hS;have hT:s.TypeIs (.ref a) "set":=⟨oS,ho,hex.1⟩;have hlt:=Heap.lt_size ho
 have hdr:kZ knd S n (es.toList.map (·.2)):=by
   refine⟨by rw[be,Aw];exact hn,fun v hv=>?_,fun k hk=>?_⟩
   . obtain⟨e,he,rfl⟩:=List.mem_map.mp hv;obtain⟨⟨k,hk,_⟩,_⟩:=hel e he;exact⟨k,hk,(hmem k).mpr ⟨e,he,hk⟩⟩
   . obtain⟨e,he,hk'⟩:=(hmem k).mp hk;exact⟨e.2,List.mem_map.mpr ⟨e,he,rfl⟩,hk'⟩
 refine wpAny_pyIter_slot hT F.slot_set_iter (wpAny_call_entry F.slot_set_iter hT ib ?_ (F.args_set_iter_1 _));unfold Builtin.«frozenset.__iter__»;refine wpAny_bind (wpAny_pure ?_);unfold Builtin.Frozenset.sizeOf;refine wpAny_bind (wpAny_bind (wpAny_setEntries_of ho hd hf (wpAny_pure ?_)));unfold setDrawn setsByText;refine wpAny_bind (wpAny_bind (wpAny_setState_of ho hd hf ?_));refine wpAny_bind (wpAny_bind (wpAny_askSetting (wpAny_pure ?_)));refine wpAny_pure ?_;show wpAny _ _ (if(!(w.params.followText "set-order")&&(!t.plain&&decide (es.size > 1)))=true then _ else _) _ _ s;by_cases hdw:(!(w.params.followText "set-order")&&(!t.plain&&decide (es.size > 1)))=true
 . rw[if_pos hdw];refine wpAny_bind (fE _ _ _ _ (by simp) fun ps d hp=>?_);refine wpAny_bind (wpAny_newTuple ?_ (by rw[be,hp.length_eq,A1];exact fits_of_scanBound hb));refine wpAny_bind (wpAny_setEpoch_of (o:=oS) (Heap.get?_push_of_some _ ho) hd hf ?_);refine wpAny_bind (wpAny_newObj_type ?_)
   have hps:ps.length=n:=by rw[hp.length_eq,A1];exact hn
   refine wpAny_pure ⟨_,rfl, "set_iterator",_,⟨_,Heap.get?_push_size _ rfl,rfl⟩,bq.lookup,?_⟩;have hz1:(s.heap.push { cls:=.type "tuple",data:=.seq (ps.map fun(i:Nat)=>rawInt i).toArray }).objs.size=s.heap.objs.size+1:=Heap.size_push ..
   refine h _ _ d (fun i h=>SIt _ a oS (fun _=>.ref s.heap.objs.size) n ep i h∧h.get? s.heap.objs.size=some _) _ _ (by rw[hz1];omega) (fun b o e=>Heap.get?_push_of_some _ (Heap.get?_push_of_some _ e)) ?_
     (tR (oT:={ cls:=.type "tuple",data:=.seq (ps.map fun(i:Nat)=>rawInt i).toArray }) hh (by rw[hz1];exact Aa (A6 hlt)) (by rw[hz1];exact Aa (Bo _)) hd hf hn rfl hps (fun p hp'=>by have:=List.mem_range.mp (hp.mem_iff.mp hp');omega)) ?_ ?_
   . intro b hb;simp only[AE,Ax,or_false] at hb
     rcases hb with rfl | rfl | rfl
     . exact .inr (by rw[hz1];omega)
     . exact .inl rfl
     . exact .inr (zR _)
   . refine⟨⟨⟨_,Heap.get?_push_size _ rfl,rfl,?_⟩,Heap.get?_push_of_some _ (Heap.get?_push_of_some _ ho)⟩,Heap.get?_push_of_some _ (Heap.get?_push_size _ rfl)⟩;simp[rawInt,hn]
   . refine hdr.perm ?_;have:=(hp.filterMap fun p=>(es[p]?).map (·.2));refine this.trans ?_
     have e:(zW es.size).filterMap (fun p=>(es[p]?).map (·.2))=es.toList.map (·.2):=by
       rw[←filterMap_getElem?_range es,List.map_filterMap]
     rw[e]
 . rw[if_neg hdw];refine wpAny_bind (wpAny_pure ?_);refine wpAny_bind (wpAny_setEpoch_of (o:=oS) ho hd hf ?_);refine wpAny_bind (wpAny_newObj_type ?_);refine wpAny_pure ⟨_,rfl, "set_iterator",_,⟨_,Heap.get?_push_size _ rfl,rfl⟩,bq.lookup,?_⟩
   have hfp:∀ b∈[s.heap.objs.size,a],b=a∨s.heap.objs.size≤b:=fun b hb=>by
     simp only[AE,Ax,or_false] at hb
     rcases hb with rfl | rfl
     . exact .inr (zR _)
     . exact .inl rfl
   cases hw:eu w with
   | false =>
     refine h _ _ s.drawn (SIt _ a oS (fun i=>.int ((fun _=>0:Nat→Nat) i) 0) n ep) _ _ (zR _) (fun b o e=>Heap.get?_push_of_some _ e) hfp
       (jS hh (Aa hlt) hd hf hn (fun _=>0) ((pickOrder (w.params.setOrder a ep) es).toList.map (·.2)) (by rw[be,(lr _ es).length_eq,Aw];exact hn) fun k s A E Q _ ho' q=>mq hw ho' hd hf (by simpa [zO,Option.map_map,Function.comp_def] using q)) ?_ (hdr.perm ((lr _ es).map _))
     exact⟨⟨_,Heap.get?_push_size _ rfl,rfl,by simp[rawInt,hn]⟩,Heap.get?_push_of_some _ ho⟩
   | true =>
     have hb':w.params.followText "set-order"=false:=by unfold eu at hw;simpa using hw
     have hnd:(!t.plain&&decide (es.size > 1))=false:=by rw[hb'] at hdw;simpa using hdw
     have hps:t.place.size=n:=by simp only[SetTable.fits,Bool.and_eq_true,beq_iff_eq] at hf;omega
     have hbel:∀ k,k≤n→SetTable.below t.place (if k=0 then 0 else t.place.getD (k - 1) 0+1)=k:=by
       intro k hk;generalize hsl:(if k=0 then 0 else t.place.getD (k - 1) 0+1)=sl;obtain⟨b1,b2,b3⟩:=pw hup sl;refine Nat.le_antisymm (Cn fun hlt=>?_) (Cn fun hlt=>?_)
       . have:=b2 k hlt;by_cases h0:k=0
         . rw[if_pos h0] at hsl;omega
         . rw[if_neg h0] at hsl;have:=hup.lt (i:=k - 1) (k:=k) (by omega) (by omega);omega
       . by_cases h0:k=0
         . omega
         . rw[if_neg h0] at hsl;have:=b3 (k - 1) (by omega) (by omega);omega
     refine h _ _ s.drawn (SIt _ a oS (fun i=>.int ((fun k=>if k=0 then 0 else t.place.getD (k - 1) 0+1:Nat→Nat) i) 0) n ep) _ _ (zR _) (fun b o e=>Heap.get?_push_of_some _ e) hfp
       (jS hh (Aa hlt) hd hf hn (fun k=>if k=0 then 0 else t.place.getD (k - 1) 0+1) (es.toList.map (·.2)) (by rw[be,Aw];exact hn) fun k s A E Q hk ho' q=>nM hw (hled.trans hw) hnd ho' hd hf (by
         rw[hbel k hk];by_cases hkn:k < n
         . obtain⟨e,he⟩:∃ e,es[k]?=some e:=⟨_,Ab (by omega)⟩;obtain⟨p,hp⟩:∃ p,t.place[k]?=some p:=⟨_,Ab (by omega)⟩;rw[he,hp]
           have e1:(es.toList.map (·.2))[k]?=some e.2:=by rw[zO,A3,he];rfl
           rw[e1] at q;simp only[BG,Nat.add_sub_cancel,Nat.succ_ne_zero,Nat.add_eq_zero_iff,Nat.one_ne_zero,and_false,↓reduceIte,Ay,hp,BC] at q;exact q
         . have e0:es[k]?=none:=Array.getElem?_eq_none_iff.mpr (by omega);rw[e0]
           have e1:(es.toList.map (·.2))[k]?=none:=by rw[zO,A3,e0];rfl
           rw[e1] at q
           exact q)) ?_ hdr
     exact⟨⟨_,Heap.get?_push_size _ rfl,rfl,by simp[rawInt,hn]⟩,Heap.get?_push_of_some _ ho⟩
end
theorem kU:typeLookup (.type "set") "__len__"=pure (some (.builtin "set.__len__")):=by rw[typeLookup_type,builtinLookup_eq_fast];kernel_rfl
section
variable {prog:Program}{w:World}{A:Around}{E:Value→Shared→Prop}{s:Shared}{a:Addr}{n:Nat}{K:Type} [DecidableEq K]{knd:KeyKind prog w K}{S:K→Bool}
theorem xk {r:Addr}{Q:Bool→Shared→Prop}(hT:s.TypeIs (.ref r) "set")(h:Q false s):wpAny (model prog w) A (Builtin.List.listLengthHint (.ref r)) Q E s:=by
 unfold Builtin.List.listLengthHint;refine wpAny_bind (wpAny_specialOf hT kU ?_);generalize hid:("set.__len__":String)=id0
 wp_delta
 rw[show splitId id0=some ("set", "__len__") from by subst hid;decide];subst hid;refine wpAny_bind (wpAny_isInstance (T:="set") (b:=true) hT (by rw[isSubtype_type];kernel_rfl) ?_);refine wpAny_ite_split (fun hab=>absurd hab (by decide)) (fun _=>?_);refine wpAny_ite_split (fun _=>?_) (fun hab=>absurd (by decide) hab);refine wpAny_bind (wpAny_typeOf hT ?_);exact wpAny_pure h
theorem cT.typeIs {led:Bool}(x:cT knd led s.heap a S n):s.TypeIs (.ref a) "set":=let ⟨o,_,_,_,ho,hex,_⟩:=x;⟨o,ho,hex.1⟩
theorem cT.lt {led:Bool}{h:Heap}(x:cT knd led h a S n):a < h.objs.size:=let ⟨o,_,_,_,ho,_⟩:=x;Heap.lt_size ho
theorem cT.bound {led:Bool}{h:Heap}(x:cT knd led h a S n):n≤sizeLine:=let ⟨_,_,_,_,_,_,_,_,_,hb,_,hn,_⟩:=x;by rw[←hn];exact fits_of_scanBound hb
theorem tW {R:Result→Shared→Prop}(hh:A.handled=none)(hS:cT knd (eu w) s.heap a S n)(D:Addr)(hDa:D≠a) (res:Value) (c₀:Nat)(hD:s.heap.get? D=some { cls:=.type "list",data:=.seq #[] c₀ })
   (hR:∀ h' tk d acc' c',(∀ b o,b≠D→s.heap.get? b=some o→h'.get? b=some o)→h'.get? D=some { cls:=.type "list",dict:=none,data:=.seq acc' c',slots:=#[] }→kZ knd S n acc'.toList→R (.ok (.ret res)) { s with heap:=h',toks:=tk,drawn:=d }) :
   wpAny (model prog w) A.in1 (Builtin.List.listExtendWith (.ref D) (.ref a) res)
     (fun fin s'=>match fin with | .done f=>R (.ok f) s' | .again c'=>c'.quiet=true∧codeAny (model prog w) A c' R s') (fun e s'=>R (.error e) s') s:=by
 unfold Builtin.List.listExtendWith;refine wpAny_bind (wpAny_typeOf (T:="set") hS.typeIs ?_)
 have h1:Builtin.List.listSameRef (.ref D) (.ref a)=false:=by simp[Builtin.List.listSameRef,hDa]
 have h2:(Value.type "set"==Value.type "list")=false:=by decide
 have h3:(Value.type "set"==Value.type "tuple")=false:=by decide
 simp only[h1,h2,h3,Bool.or_false,Bool.false_eq_true,if_false];refine wpAny_bind (tZ (A:=A.in1) (by exact hh) hS fun I h1 d St vs fp hI hk1 hfp W st hdr=>?_);have hDlt:=Heap.lt_size hD
 have hDf:D∉fp:=fun hm=>by
   rcases hfp D hm with e | e
   . exact hDa e
   . exact absurd hDlt (Nat.not_lt.mpr e)
 have key:∀ (h:Heap) (c₁ tk:Nat),St 0 h→(∀ b o,b≠D→s.heap.get? b=some o→h.get? b=some o) →
     h.get? D=some { cls:=.type "list",data:=.seq #[] c₁ }→codeAny (model prog w) A (.builtin "list.extend.loop" ⟨[.ref D,.ref I,res],[]⟩) R { s with heap:=h,toks:=tk,drawn:=d }:=by
   intro h c₁ tk hst hk hD₁;refine codeAny_extend_loopS W.toS hS.bound D hDf res n 0 _ #[] c₁ rfl (AF _) hst hD₁ (ItemsOf.nil _) fun s' acc' c' hm hD' hacc=>?_;rw[Moved.eq_with hm];refine hR s'.heap s'.toks d acc' c' (fun b o hb e=>hm.heap b o (fun hmem=>?_) (hk b o hb e)) hD' ?_
   . rcases List.mem_cons.mp hmem with e' | hmem
     . exact hb e'
     . exact absurd (Heap.lt_size e) (by rw[List.mem_singleton.mp hmem];exact Nat.not_lt.mpr hI)
   . have e:acc'.toList=vs:=by
       refine Ci fun i=>?_
       rcases Nat.lt_or_ge i n with hi | hi
       . have hi':i < acc'.size:=by rw[hacc.1];exact hi
         rw[A3,Ab hi'];exact(hacc.2 i _ (Ab hi')).symm
       . rw[List.getElem?_eq_none_iff.mpr (by rw[Aw,hacc.1];exact hi),List.getElem?_eq_none_iff.mpr (by rw[hdr.1];exact hi)]
     rw[e];exact hdr
 have hD₁:=hk1 _ _ hD;refine wpAny_bind (wpAny_holding (xk (s:={ s with heap:=h1,drawn:=d }) (let ⟨o,ho,hc⟩:=hS.typeIs;⟨o,hk1 _ _ ho,hc⟩) ?_));refine wpAny_ite_split (fun _=>?_) (fun _=>wpAny_pure ⟨plainId_quiet PySem.F.plain_extend_loop _,key _ c₀ _ st (fun b o _ e=>hk1 b o e) hD₁⟩);refine wpAny_bind (wpAny_rule ?_);refine wpAny_bind ?_;show wpAny _ _ (updateSeq D (·.push .none) >>= fun _=>updateSeq D (·.pop)) _ _ _;refine wpAny_bind (wpAny_updateSeq hD₁ rfl ?_);have hD₂:=Heap.get?_update_self (Obj.mapSeq (·.push Value.none)) hD₁ rfl;refine wpAny_updateSeq (hz:=by seq_fits) hD₂ rfl ?_;have hD₃:=Heap.get?_update_self (Obj.mapSeq (·.pop)) hD₂ rfl;refine wpAny_pure ⟨plainId_quiet PySem.F.plain_extend_loop _,key _ _ _ ?_ (fun b o hb e=>?_) hD₃⟩
 . refine W.frame 0 _ _ st fun b hb o e=>?_;have hbD:b≠D:=fun h=>hDf (h▸hb);exact(Heap.get?_update_other _ _ (Ne.symm hbD)).trans ((Heap.get?_update_other _ _ (Ne.symm hbD)).trans e)
 . exact(Heap.get?_update_other _ _ (Ne.symm hb)).trans ((Heap.get?_update_other _ _ (Ne.symm hb)).trans (hk1 b o e))
theorem qF {R:List Value→Shared→Prop}(hh:A.handled=none)(hS:cT knd (eu w) s.heap a S n)
   (h:∀ (h':Heap) (tk:Nat) d (acc:Array Value),(∀ b o,s.heap.get? b=some o→h'.get? b=some o)→kZ knd S n acc.toList→R acc.toList { s with heap:=h',toks:=tk,drawn:=d }) :
   wpAny (model prog w) A (collect (.ref a)) R E s:=by
 have hlt:=hS.lt;unfold collect;refine wpAny_bind (wpAny_runValue (codeAny_builtin entry_proto_collect' ?_));rw[Around.under_plainId PySem.F.plain_proto_collect _];show wpAny _ A.in1 (newList [] >>= fun l=>again (.builtin "list.__iadd__" ⟨[l,.ref a],[]⟩)) _ _ s;refine wpAny_bind (wpAny_newObj_type ?_);refine wpAny_pure ⟨plainId_quiet PySem.F.plain_list_iadd _,codeAny_builtin entry_list_iadd' ?_⟩;rw[Around.under_plainId PySem.F.plain_list_iadd _];have hS₁:(s.heap.push { cls:=.type "list",data:=.seq ([]:List Value).toArray }).get? s.heap.objs.size=some { cls:=.type "list",data:=.seq #[] }:=Heap.get?_push_size _ rfl;show wpAny _ A.in1 (Builtin.List.listExtendWith (.ref s.heap.objs.size) (.ref a) (.ref s.heap.objs.size)) _ _ _
 have key:=tW (A:=A) (s:={ s with heap:=s.heap.push { cls:=.type "list",data:=.seq ([]:List Value).toArray } })
   (R:=fun(q:Result)(s':Shared)=>∃ (h':Heap) (tk:Nat)(d:PySem.Drawn)(acc':Array Value) (c':Nat),q=.ok (.ret (.ref s.heap.objs.size))∧s'={ s with heap:=h',toks:=tk,drawn:=d } ∧
     (∀ b o,s.heap.get? b=some o→h'.get? b=some o)∧h'.get? s.heap.objs.size=some { cls:=.type "list",dict:=none,data:=.seq acc' c',slots:=#[] }∧kZ knd S n acc'.toList)
   hh (hS.at_ fun o e=>Heap.get?_push_of_some _ e) s.heap.objs.size (BL hlt) (.ref s.heap.objs.size) 0 hS₁
   (fun h' tk d acc' c' hk hS' hacc=>⟨h',tk,d,acc',c',rfl,rfl,fun b o e=>hk b o (Aa (Heap.lt_size e)) (Heap.get?_push_of_some _ e),hS',hacc⟩)
 refine wpAny_mono key (fun fin s' x=>?_) fun e s' x=>?_
 . cases fin with
   | done f =>
     obtain⟨h',tk,d,acc',c',e,rfl,hk,hS',hacc⟩:=x;cases e;show wpAny _ A (load s.heap.objs.size >>= _) _ _ _;refine wpAny_bind (wpAny_load hS' ?_);exact wpAny_pure (h h' tk d acc' hk hacc)
   | again c₁ =>
     refine⟨x.1,codeAny_mono x.2 fun q s₂ y=>?_⟩;obtain⟨h',tk,d,acc',c',rfl,rfl,hk,hS',hacc⟩:=y;show wpAny _ A (load s.heap.objs.size >>= _) _ _ _;refine wpAny_bind (wpAny_load hS' ?_);exact wpAny_pure (h h' tk d acc' hk hacc)
 . obtain⟨_,_,_,_,_,e',_⟩:=x;cases e'
end
def yu (P:Program)(w:World)(p:Addr)(L:List Int):HO:=.ext fun h=>cT (PySem.intKind P w) (eu w) h p (fun k=>decide (k∈L)) L.length
theorem kZ.keys {prog:Program}{w:World}{K:Type} [DecidableEq K]{knd:KeyKind prog w K}{L:List K}{vs:List Value}(hn:L.Nodup)(d:kZ knd (fun k=>decide (k∈L)) L.length vs):∃ ks:List K,ks.Perm L∧ks.length=vs.length∧∀ (i:Nat) v,vs[i]?=some v→∃ k,ks[i]?=some k∧knd.is k v=true:=by
 obtain⟨d1,d2,d3⟩:=d
 have h:∀ us:List Value,(∀ v∈us,∃ k,knd.is k v=true∧k∈L)→∃ ks:List K,ks.length=us.length∧(∀ (i:Nat) (v:Value),us[i]?=some v→∃ k,ks[i]?=some k∧knd.is k v=true)∧∀ v∈us,∀ k,knd.is k v=true→k∈ks:=by
   intro us
   induction us with
   | nil=>exact fun _=>⟨[],rfl,(fun i v h=>by cases h),fun v hv=>by cases hv⟩
   | cons u us ih =>
     intro hu;obtain⟨k,hk,_⟩:=hu u (.head _);obtain⟨ks,h1,h2,h3⟩:=ih fun v hv=>hu v (.tail _ hv);refine⟨k::ks,by simp[h1],fun i v hv=>?_,fun v hv k' hk'=>?_⟩
     . cases i with
       | zero=>cases hv;exact⟨k,rfl,hk⟩
       | succ i=>exact h2 i v hv
     . rcases List.mem_cons.mp hv with rfl | hv
       . rw[knd.inj _ _ _ hk' hk];exact .head _
       . exact .tail _ (h3 v hv k' hk')
 obtain⟨ks,h1,h2,h3⟩:=h vs fun v hv=>let ⟨k,a,b⟩:=d2 v hv;⟨k,a,by simpa using b⟩
 refine⟨ks,gp L ks hn (fun x hx=>?_) (by omega),h1,h2⟩;obtain⟨v,hv,e⟩:=d3 x (by simpa using hx);exact h3 v hv x e
section
variable {X:Cx}
theorem tK (hc:X.calm=true):cq X (.type "set") (fun xs H Q=>∃ (a:Addr)(ss:List Int),xs=[.ref a]∧SqL X.K H a (ss.map V.int)∧ss.length≤1000∧∀ p,H p=none→Q (.ref p) (upd H p (yu X.prog X.w p (dM ss)))):=by
 intro pins s σ H xs us Q I r h;obtain⟨a,ss,rfl,ha,hn,q⟩:=h;obtain⟨u,rfl,ru⟩:=ej r;cases ru;obtain⟨its,rv,pl,_⟩:=I.list ha;have hl:=rv.length;rw[be] at hl
 have hk:nz (PySem.intKind X.prog X.w) its.toArray ss:=by
   refine⟨by rw[z6];omega,fun i k hi=>?_⟩;obtain⟨u,hu,t,rfl⟩:=rv.get (i:=i) (x:=V.int k) (by rw[zO,hi];rfl);exact⟨.int k t,by simpa using hu,intKind_is _ _ _ _,rfl⟩
 refine tN (I.ok.hd hc) pl.isList hk (by rw[z6];unfold scanBound;omega) fun h' tk kk hS=>?_
 have he:∃ o,h'.get? s.heap.objs.size=some o:=by obtain⟨o,_,_,_,e,_⟩:=hS;exact⟨o,e⟩
 exact⟨.ref s.heap.objs.size,_,I.laid (o:=yu X.prog X.w s.heap.objs.size (dM ss)) kk (zR _) ⟨hS,he,fun h1 h2 x k=>cT.at_ x k⟩,rfl,q _ (I.hok.fresh (zR _))⟩
theorem Inv.drew {pins:List (Addr×Obj)}{σ:St}{H:Hp}{s:Shared}{d:PySem.Drawn}(I:Inv X pins σ H s):Inv X pins σ H { s with drawn:=d } :=
 ⟨I.ok,I.os,I.bare,I.base,I.loc,I.cell,I.free,I.freeC,I.pin,I.hok,I.len⟩
theorem jb:∀ {l:List Value}{ks:List Int},l.length=ks.length→(∀ (i:Nat) v,l[i]?=some v→∃ x t,ks[i]?=some x∧v=.int x t)→IntsAre l ks
 | [],[],_,_=>.nil
 | [],_::_,h,_=>by simp at h
 | _::_,[],h,_=>by simp at h
 | v::l,k::ks,h,hv=>by
   obtain⟨x,t,hx,e⟩:=hv 0 v rfl;simp at hx;subst hx e;exact .cons _ t (jb (by simpa using h) fun i u hu=>by simpa using hv (i+1) u (by simpa using hu))
theorem nh (hc:X.calm=true):cq X (.builtin "sorted") (fun xs H Q=>∃ (d:Addr)(L:List Int),xs=[.ref d]∧H d=some (yu X.prog X.w d L)∧L.Nodup∧L.length < 64∧∀ p (ss':List Int),H p=none→ss'.Perm L→ss'.Pairwise (·≤·)→Q (.ref p) (upd H p (.lst (ss'.map V.int)))):=by
 intro pins s σ H xs us Q I r h;obtain⟨d,L,rfl,hd,hnd,hn,q⟩:=h;obtain⟨u,rfl,ru⟩:=ej r;cases ru;obtain⟨hS,_⟩:=I.hok d _ hd;refine Calls.call_function_entry kind_sorted plain_sorted entry_sorted (args_sorted1 _) ?_;unfold Builtin.«sorted»;refine wpAny_bind (m:=checkCount "sorted" 1 1 _) (wpAny_pure ?_);refine wpAny_bind (qF (A:=X.A.in1) (I.ok.hd hc) hS fun h' tk d' acc kk hacc=>?_);obtain⟨ks,k1,k2,k3⟩:=hacc.keys hnd
 have hst:IntsAre acc.toList ks:=by
   refine jb k2.symm fun i v hv=>?_;obtain⟨k,hk,his⟩:=k3 i v hv;obtain⟨t,rfl⟩:=Value.isInt_shape his;exact⟨k,t,hk,rfl⟩
 have hal:acc.toList.length < 64:=by rw[←k2,k1.length_eq];exact hn
 refine wpAny_bind (wpAny_newList ?_ (by rw[sizeLine_eq];omega));have hoL:(h'.push (seqObj "list" acc.toList.toArray 0)).get? h'.objs.size=some (seqObj "list" acc.toList.toArray 0):=Heap.get?_push_size _ rfl;refine wpAny_bind (wpAny_holding (wpAny_call_entry slot_list_sort ⟨_,hoL,rfl⟩ entry_list_sort (list_sort_tree hoL hst (by omega) fun out ns' a1 a2 a3=>⟨_,rfl,?_⟩) (args_list_sort _)));have hp:=a2.length_eq;have I1:Inv X pins σ H { s with heap:=h',toks:=tk,drawn:=d' }:=(I.kept (t':=tk) kk).drew;obtain⟨e,he⟩:=sortedHeap_at (out:=out) hoL;refine wpAny_pure ⟨_,rfl,?_⟩;refine⟨.ref h'.objs.size,_,I1.laid (o:=.lst (ns'.map V.int)) (t':=tk) (fun b o x=>?_) (zR _) ⟨by rw[be,sizeLine_eq];omega,_,e,iK a1,he⟩,rfl,q _ ns' (I1.hok.fresh (zR _)) (a2.trans k1) a3⟩;have hlt:=Heap.lt_size x;rw[sortedHeap_old (Aa hlt) (by rw[Heap.size_push];exact A6 hlt)];exact Heap.get?_push_of_some _ x
end
end L2
namespace L2
open PySem PySem.Spec PyProof.Rows
section
variable {X:Cx}{N':List Str}{pk:List (Option Nat)}{scope:Scope}
theorem vo {i:Nat}{y:Str}{elt tg iter cnd:Expr}{wi:TI}{g:TG}{tc:TT}{te:TE}{pos spos py:Pos}(hN:X.N.Nodup)(hiy:X.N[i]?=some y)(hy:Loc X.env.scope y)(hc:X.calm=true)(B:bW X.N X.env scope N' pk)(hi:PI X tg iter wi)
   (hg:∀ s H ex,PG (cxB X N' scope s H ex) tg g)(ht:∀ s H ex,PT (cxB X N' scope s H ex) cnd tc)(he:∀ s H ex,PE (cxB X N' scope s H ex) elt te)
   (hsw:swapsWith (.ListComp elt [⟨tg,iter,[cnd],0⟩] scope pos) (some (.Name y py)) spos.line X.env=pure true:=by rfl)
   (hs:∀ x,foldedSetIterable iter X.env x=pure x:=by intro _;rfl)(hf:X.fn y=true∨X.env.scope.names.lookup y=some .local:=by first | exact .inl rfl | exact .inr rfl | assumption) :
   PS X (.Assign [.Name y py] (.ListComp elt [⟨tg,iter,[cnd],0⟩] scope pos) spos) (qa (l9 pk wi g tc te) (bx i)):=by
 intro pins s σ H D0 I h;rw[exec_Assign_Name_used _ _ _ _ hsw];refine wpAny_bind (wpAny_standAt (wpAny_bind ?_));show wpAny _ X.A (do let _ ←comprehension (.ListComp elt [⟨tg,iter,[cnd],0⟩] scope pos) scope X.env _ (newList []) false (eval iter X.env) (some (assign (.Name y py) X.env))) _ _ s
 refine wpAny_bind (wpAny_mono (wpAny_comprehension_free (use:=some (assign (.Name y py) X.env)) (Q:=fun _ s'=>SP X pins D0 .next s') rfl hs (ff (gR I B)) B.kind B.names
   (thn (hi s σ H _ I h) fun v s1 h1=>thn h1 fun itv s2 ⟨it,fp,tn,J,H2,e,I2,T,st2,f2,hW⟩=>?_)) (fun _ s' hq=>wpAny_pure (wpAny_pure hq)) fun _ _ e=>e)
 subst e;refine lA (QD:=fun D H'=>D0.nx (σ.set i (some (.ref D))) H') (RR:=fun acc C=>compPost (model X.prog X.w) X.A X.xe (some (assign (.Name y py) X.env)) (fun _ s'=>SP X pins D0 .next s') acc C) I2 B hc T st2 f2 hg ht he hW fun D C s' H' m I' f' hn q=>?_;refine wpAny_assign_Name (iL (v:=.ref D) I' hN hiy hy rfl (fun s3 I3 ⟨a,hsa,ha⟩=>?_) hf)
 have hCa:C≠a:=by
   rcases ha with z | z
   . exact z▸f'.2.1
   . exact fun e=>f'.2.2.2.2.1 _ _ z e.symm
 exact⟨m,hn.sameBut hsa hCa,fun h' hs'=>⟨_,H',I3.gone f' hs',q⟩⟩
end
section
variable {prog:Program}{w:World}{A:Around}{E:Value→Shared→Prop}{s:Shared}
end
section
variable {prog:Program}{w:World}{A:Around}{E:Value→Shared→Prop}{s:Shared}{z TI TO i1 i2 i3 l1 l2 l3:Addr}{k:Nat}{xs ys us:Array Value}{x y u a b c:Value}
end
section
variable {prog:Program}{w:World}{A:Around}{E:Value→Shared→Prop}{s:Shared}{z TI TO i1 i2 i3 l1 l2 l3:Addr}{k:Nat}{xs ys us:Array Value}{x y u a b c:Value}
end
def It3 (K:PySem.W.Frag)(a b c:Addr):It :=
 ⟨fun i H=>∃ xs x ys y us u,SqL K H a xs∧xs[i]?=some x∧SqL K H b ys∧ys[i]?=some y∧SqL K H c us∧us[i]?=some u,
   fun i H v H'=>∃ T x y u,H T=none∧v=.ref T∧H'=upd H T (.tup [x,y,u])∧(∀ xs,SqL K H a xs→xs[i]?=some x)∧(∀ ys,SqL K H b ys→ys[i]?=some y)∧∀ us,SqL K H c us→us[i]?=some u,
   fun i H=>∃ xs ys us,SqL K H a xs∧SqL K H b ys∧SqL K H c us∧xs.length≤i⟩
def xx (K:PySem.W.Frag)(ta:TA):TI:=fun σ H R=>ta σ H fun vs H1=>∃ a b c,vs=[.ref a,.ref b,.ref c]∧(∃ xs,SqL K H1 a xs)∧(∃ ys,SqL K H1 b ys)∧(∃ us,SqL K H1 c us)∧R (It3 K a b c) H1
section
variable {X:Cx}
end
def zo (K:PySem.W.Frag)(te:TE)(ts:TO):TE:=fun σ H Q=>te σ H fun x H1=>ts σ H1 fun st H2=>st=some (-1)∧∃ a xs,x=.ref a∧SqL K H2 a xs∧∀ p,H2 p=none→Q (.ref p) (upd H2 p (.lst xs.reverse))
section
variable {X:Cx}{te:TE}{ts:TO}{e ce:Expr}{p2 p3 pos:Pos}
end
end L2
namespace L2
open PySem
section
variable {X:Cx}
end
end L2
namespace DM
open PySem L2
def top (i:Nat):Stmt:=PySem.Challenge.pw_dipmaps_k38_whole_days.main.body.getD i (.Pass ⟨0,0,0,0⟩)
abbrev qX:Stmt:=top 36
abbrev qD:Stmt:=top 37
abbrev pQ:Stmt:=bw (top 24) 0
abbrev mD:Stmt:=bw (top 24) 1
abbrev jW:Stmt:=bw (top 24) 2
abbrev nA:Stmt:=bw (top 24) 3
abbrev vN:Stmt:=bw (top 24) 4
abbrev pG:Stmt:=bw (top 24) 5
abbrev jY:Stmt:=bw (top 24) 6
abbrev qZ:Stmt:=bw (top 24) 7
abbrev nj:Stmt:=bw (top 24) 8
abbrev mM:Stmt:=bw (top 24) 9
abbrev qO:Stmt:=bw (top 24) 10
abbrev kA:Stmt:=bw (top 24) 11
abbrev j9:Stmt:=bw (top 24) 12
abbrev qW:Stmt:=bw (top 24) 13
abbrev uy:Stmt:=top 23
abbrev qz:Stmt:=top 42
abbrev sNo:Stmt:=top 44
abbrev l7:Stmt:=top 47
abbrev uj:Stmt:=top 17
abbrev sAt:Stmt:=top 34
abbrev pF:Stmt:=top 35
abbrev mU:Stmt:=top 38
abbrev mH:Stmt:=top 39
abbrev qC:Stmt:=top 40
abbrev qT:Stmt:=top 41
abbrev yq:Stmt:=top 65
abbrev kO:Stmt:=top 43
abbrev sDo:Stmt:=top 45
abbrev q9:Stmt:=top 46
abbrev jo:Stmt:=top 28
abbrev ik:Stmt:=top 29
abbrev me:Stmt:=top 30
abbrev js:Stmt:=top 31
abbrev ra:Stmt:=bw (top 32) 0
abbrev jG:Stmt:=bw (top 32) 1
abbrev mf:Stmt:=bw (top 32) 2
abbrev my:Stmt:=bw (top 32) 3
abbrev vD:Stmt:=bw (top 32) 4
abbrev iW:Stmt:=bw (top 32) 5
abbrev jp:Stmt:=bw (top 32) 6
abbrev ia:Stmt:=bw (top 32) 7
abbrev jB:Stmt:=top 48
abbrev iT:Stmt:=top 49
abbrev iu:Stmt:=top 50
abbrev kf:Stmt:=top 51
abbrev iI:Stmt:=top 52
abbrev ng:Stmt:=top 53
abbrev jO:Stmt:=top 54
abbrev gF:Stmt:=top 55
abbrev io:Stmt:=top 56
abbrev xF:Stmt:=top 57
abbrev ua:Stmt:=top 58
abbrev uq:Stmt:=top 59
abbrev ut:Stmt:=top 60
abbrev wa:Stmt:=top 61
abbrev ux:Stmt:=top 62
abbrev pY:Stmt:=top 63
abbrev qR:Stmt:=top 64
set_option hygiene false in
local macro_rules | `(tactic| walk_at"")=>`(tactic| ((try dsimp only[lW,lU,rj,xL,ug,oE,tOp,kP,tCB,fY,tm,yd,tC,rI0,rI,hV,px,wz,qa,bx,vR,uI,tOr,yC,yr,tB,t5,zj,vT,tIf,yo,vz,sq,rh,sf,tUn,rU,tSl,yl,mR,uD,rIn,yw,qq,ny,mZ,kg,uL,va,pZ,wb,qi,l9,vz,yi,mO,uY,yB,uR,xZ,vL,xu,xx,zo,xt,zz,ipI,xW,uh,xv,xP,bN,iC,ye,tBM,yI,xb,lL,xm,xq,rc,w5,uz,uo,kj,sr,vB,f7,rEq,rNe,vd,ud,yR,u9,aC,aM,nL,List.map_cons,List.map_nil,List.length_cons,List.length_nil,List.cons_append,List.nil_append,Nat.sub_self,Nat.reduceSub,Nat.reduceAdd,List.replicate,List.getElem?_cons_zero,List.getElem?_cons_succ,List.getElem?_nil,Option.bind_some,Option.bind_none,id_eq,List.set_cons_zero,List.set_cons_succ,List.append_nil]);try simp only[lW,lU,rj,km,cU,rH,xL,ug,oE,tOp,kP,tCB,fY,tm,yd,tC,rI0,rI,hV,px,wz,qa,bx,vR,uI,tOr,yC,yr,tB,t5,zj,vT,tIf,yo,vz,sq,rh,sf,tUn,rU,tSl,yl,mR,uD,rIn,yw,qq,ny,mZ,kg,uL,va,pZ,wb,qi,l9,vz,yi,mO,uY,yB,uR,xZ,vL,xu,xx,zo,xt,zz,ipI,xW,uh,xv,xP,bN,iC,ye,tBM,yI,xb,lL,xm,xq,rc,w5,uz,uo,kj,sr,vB,f7,rEq,rNe,vd,ud,yR,u9,aC,aM,nL,List.map_cons,List.map_nil,List.length_cons,List.length_nil,List.cons_append,List.nil_append,Nat.sub_self,Nat.reduceSub,Nat.reduceAdd,List.replicate,List.getElem?_cons_zero,List.getElem?_cons_succ,List.getElem?_nil,Option.bind_some,Option.bind_none,id_eq,Option.some.injEq,exists_eq_left',exists_eq_left,V.int.injEq,V.ref.injEq,V.str.injEq,V.bl.injEq,V.ty.injEq,List.cons.injEq,and_true,true_and,List.set_cons_zero,List.set_cons_succ,List.append_nil,exists_and_left,exists_and_right,and_assoc,exists_const,decide_eq_true_eq,Bool.not_eq_true',decide_eq_false_iff_not,if_true,if_false,Bool.false_eq_true]))
def bn:Str:="abcdefghijklmnopqrstuvwxyz"
def inS (z:Str):Bool:=!(Builtin.Str.occurrences bn z 0 bn.length 1).isEmpty
def inL (c:Nat):Bool:=inS ⟨#[c]⟩
def a9 (z:Str):Bool:=(decide (1≤z.length)&&decide (z.length≤8))&&z.cps.toList.all inL
def atL (ns:List Int) (k:Int):Int:=if k < ns.length then ns.getD k.toNat 0 else 0
def tJ (K:PySem.W.Frag):Sp:=fun vs H Q _=>∃ (a:Addr)(ns:List Int) (k:Int),vs=[.ref a,.int k]∧SqL K H a (ns.map V.int)∧0≤k∧Q (.int (atL ns k)) H
def nr:Sp:=fun vs H Q _=>∃ z:Str,vs=[.str z]∧z.length≤1000∧∀ H',af H H'→Q (.bl (a9 z)) H'
theorem dw {K:PySem.W.Frag}{H:Hp}{a:Addr}{ns:List Int}{k:Int}{Q:VK}{E:XK}(ha:SqL K H a (ns.map V.int))(h0:0≤k)(q:Q (.int (atL ns k)) H):tJ K [.ref a,.int k] H Q E:=⟨a,ns,k,rfl,ha,h0,q⟩
structure Txt (mg:Str→Option Value):Prop where
 len:mg "len"=none
 all:mg "all"=none
 range:mg "range"=none
 isi:mg "isinstance"=none
 list:mg "list"=none
 str:mg "str"=none
 sorted:mg "sorted"=none
 tuple:mg "tuple"=none
 dict:mg "dict"=none
 zip:mg "zip"=none
 set:mg "set"=none
 min:mg "min"=none
 int:mg "int"=none
 lett:∃ t,mg "LETTERS"=some (.str bn t)
 long:∃ t,mg "LONGEST"=some (.int 8 t)
theorem aK:(1000:Nat)≤sizeLine:=by rw[sizeLine_eq];decide
theorem cF {α:Type} (n:Nat)(l:List α)(f:Nat→V)(h:α→V)(hl:l.length=n)(e:∀ i x,l[i]?=some x→f i=h x):(zW n).map f=l.map h:=by
 refine Ci fun i=>?_;rw[zO,zO];by_cases hi:i < n
 . rw[B5 hi,zN (by omega)];show some (f i)=some (h _);rw[e i _ (zN (by omega))]
 . rw[Be (by simpa using hi),Be (by omega)];rfl
section
variable {P:Program}{w:World}{K:PySem.W.Frag}{mg:Str→Option Value}{base:Heap}
theorem sM {N P:List Str}{sc:Scope}(h1:sc.kind=.function:=by rfl)(h2:sc.isCoroutine=false:=by rfl)(h3:sc.isGenerator=false:=by rfl)(h4:N.Nodup:=by decide)(h5:N.take P.length=P:=by rfl)(h6:∀ x∈P,sc.names.lookup x=some .local∨sc.names.lookup x=some .cell:=by decide)(h7:∀ y∈sc.names,y.2≠.free:=by decide):aw N P sc:=⟨h1,h2,h3,h4,h5,h6,h7⟩
theorem pI {X:Cx}{a b:Expr}{ta tb:TE}{pos:Pos}{r:R2}(hr:IxR X r)(ha:PE X a ta)(hb:PE X b tb)(hs:rG b:=by exact fun _ _=>rfl):PE X (.Subscript a b pos) (tOp r ta tb):=yZ hr ha hb hs
theorem pN {X:Cx} (i:Nat){x:Str}{pos:Pos}(hN:X.N.Nodup)(hi:X.N[i]?=some x:=by rfl)(hx:Loc X.env.scope x:=by exact Or.inl rfl)(hf:X.fn x=true∨X.env.scope.names.lookup x=some .local:=by first | exact .inl rfl | exact .inr rfl | assumption):PG X (.Name x pos) (bx i):=rS hN hi hx hf
theorem pS {X:Cx} (i:Nat){x:Str}{e:Expr}{te:TE}{pos pos':Pos}(hN:X.N.Nodup)(he:PE X e te)(hi:X.N[i]?=some x:=by rfl)(hx:Loc X.env.scope x:=by exact Or.inl rfl)(hs:swapsWith e (some (.Name x pos')) pos.line X.env=pure false:=by rfl)(hf:X.fn x=true∨X.env.scope.names.lookup x=some .local:=by first | exact .inl rfl | exact .inr rfl | assumption):PS X (.Assign [.Name x pos'] e pos) (qa te (bx i)):=l8 hN hi hx he hs hf
theorem zD:aw ["_law_script", "_law_k"] ["_law_script", "_law_k"] (ao sAt):=sM
theorem oq {P:Program}{w:World}{K:PySem.W.Frag}{mg:Str→Option Value}{base:Heap}{x qual:Str}{st:Stmt}{f:Addr}{fd:FuncData}{N ps:List Str}{k:Nat}{sp:Sp}(F:Fun K x qual st f fd)(S:aw N ps (ao st))(hbody:∀ (cdv:Value)(A:Around)(outer:List Env)(s:Shared)(H:Hp)(vs:List V)(Q:VK)(E:XK),cL k (A.deeper (Cy qual (ao st) s.heap.objs.size f cdv))→sp vs H Q E→∃ t,PSs (eO CX0 P w K mg base N qual (ao st) f cdv A outer s H E).nox (dF st) t∧t { nx:=fun _ H'=>Q .non H',rt:=Q } (start N vs) H)(len:∀ vs H Q E,sp vs H Q E→vs.length=ps.length:=by intro vs H Q E h;repeat (first | (obtain⟨rfl,_⟩:=h;rfl) | obtain⟨_,h⟩:=h)):aU P w K mg base CX0 (k+1) f fd ps sp:=F.ok S len hbody
theorem zh {f:Addr}{fd:FuncData}(F:Fun K "_law_at" "_law_at" sAt f fd)(T:Txt mg):aU P w K mg base CX0 1 f fd ["_law_script", "_law_k"] (tJ K):=by
 refine oq F zD fun cdv A outer s H vs Q E hr h=>?_;obtain⟨a,ns,k,rfl,ha,h0,q⟩:=h;refine⟨_,aL (aB (ap cY (pv 1) (al av (by rfl) T.len zX (aa (pv 0) ae)) (ax _)) (ah (aq (pI ak (pv 0) (pv 1)))) am) (ah (aq ag)),?_⟩
 try dsimp only[aC,aM]
 walk_at"";refine⟨_,.inl ha,?_⟩;rw[be];unfold atL at q;refine ay (fun hk=>?_) (fun hk=>?_)
 . rw[if_pos hk] at q;refine⟨_,ha,_,?_,q⟩;obtain⟨j,rfl⟩:=A7 h0
   have hl:j < ns.length:=by omega
   refine bT ?_;rw[zO,zQ,Au,zN hl];rfl
 . rw[if_neg hk] at q;exact q
theorem yn:aw ["text"] ["text"] (ao uj):=sM
theorem wF {f:Addr}{fd:FuncData}(F:Fun K "good_name" "good_name" uj f fd)(T:Txt mg):aU P w K mg base CX0 1 f fd ["text"] nr:=by
 refine oq F yn fun cdv A outer s H vs Q E hr h=>?_;obtain⟨z,rfl,hz,q⟩:=h;obtain⟨tl,hlett⟩:=T.lett;obtain⟨tg,hlong⟩:=T.long
 refine⟨_,aL (aB (PW.pt (d8 (ap cY (al dW (by rfl) T.len zX (aa (pv 0) ae)) ag (ax _)) (cM (ap fw (al dW (by rfl) T.len zX (aa (pv 0) ae)) (bc (v:=.int 8) rfl hlong ⟨_,rfl⟩) (ax _))))) (ah (aq cw)) am)
   (ah (aq (al (wg rfl) (by rfl) T.all (by decide) (aa (fk (N':=["sign"]) (pk:=[none]) rfl (bW.of (by rfl)) (uU (pv 0)) (fun s H ex=>pN 0 (by show(["sign"]:List Str).Nodup;decide)) (fun s H ex=>jn tz (pv 0) (bc (v:=.str bn) rfl hlett ⟨_,rfl⟩) (by with_unfolding_all rfl))) ae)))),?_⟩
 try dsimp only[aC,aM]
 have hsz:=aK;walk_at""
 have main:1≤z.length→z.length≤8→∀ (D:Addr),H D=none→oM (Itw z.cps.size fun i v=>∃ c,z.cps[i]?=some c∧v=V.str ⟨#[c]⟩) (bx 0)
       (tOp (fun x y H Q=>∃ i,x=V.str i∧∃ x,y=V.str x∧Q (V.bl !(Builtin.Str.occurrences x i 0 x.length 1).isEmpty) H) (kP 0) (tC (V.str bn)))
       D (fun H'=>∃ x,SqL K H' D (List.map V.bl x)∧Q (V.bl (x.all id)) H') [none] (upd H D (HO.lst [])):=fun h1 h8 D hD=>by
   have hsize:z.cps.size=z.length:=rfl;refine cG jf (by omega) hD (fun σ=>∃ o,σ=[o]) (fun i=>.bl (inL (z.cps.getD i 0))) ⟨none,rfl⟩ ?_ ?_
   . rintro i x σ' H' hi ⟨c,hc,rfl⟩ ⟨o,rfl⟩ hS R hR;walk_at""
     have e:inL (z.cps.getD i 0)=!(Builtin.Str.occurrences bn ⟨#[c]⟩ 0 bn.length 1).isEmpty:=by
       rw[Ay,hc];rfl
     rw[←e];exact hR _ ⟨_,rfl⟩
   . have e:(zW z.cps.size).map (fun i=>V.bl (inL (z.cps.getD i 0)))=(z.cps.toList.map inL).map V.bl:=by
       rw[Av];refine cF _ z.cps.toList _ _ (by simp) fun i x hx=>?_
       have hx':z.cps[i]?=some x:=by simpa using hx
       rw[Ay,hx'];rfl
     rw[e];refine⟨z.cps.toList.map inL,SqL.of ac,?_⟩
     have e2:(z.cps.toList.map inL).all id=a9 z:=by
       unfold a9;rw[CD,decide_eq_true h1,decide_eq_true h8];rfl
     rw[e2];exact q _ (af.updN hD)
 have f0:¬(1≤z.length∧z.length≤8)→a9 z=false:=fun h=>by
   unfold a9;by_cases h1:1≤z.length
   . rw[decide_eq_false (p:=z.length≤8) (fun h8=>h ⟨h1,h8⟩)];simp
   . rw[decide_eq_false h1];simp
 refine⟨by omega,ay (fun h1=>?_) (fun h1=>⟨by omega,ay (fun h2=>?_) (fun h2=>main (by omega) (by omega))⟩)⟩
 . rw[←f0 (by omega)];exact q H (af.refl H)
 . rw[←f0 (by omega)];exact q H (af.refl H)
def dst (cell bound mixed:Int):Nat→Int×Int×List Int
 | 0=>(cell,(cell % 2147483647*48271+11) % 2147483647,[])
 | i+1=>((dst cell bound mixed i).1 / bound,((dst cell bound mixed i).2.1*69621+40014+i) % 2147483647,
     (dst cell bound mixed i).2.2++[if mixed=0 then(dst cell bound mixed i).1 % bound else((dst cell bound mixed i).2.1*69621+40014+i) % 2147483647 / 8 % bound])
def gJ (cell bound mixed:Int) (n:Nat):List Int:=(dst cell bound mixed n).2.2
theorem eJ (cell bound mixed:Int):∀ n,(gJ cell bound mixed n).length=n
 | 0=>rfl
 | n+1=>by
   have ih:=eJ cell bound mixed n;unfold gJ at ih ⊢;show((dst cell bound mixed n).2.2++_).length=n+1;rw[zP,ih];rfl
theorem iG {cell bound mixed:Int}(hb:0 < bound):∀ n,∀ x∈gJ cell bound mixed n,0≤x∧x < bound
 | 0,x,h=>by cases h
 | n+1,x,h=>by
   have h':x∈(dst cell bound mixed n).2.2++[if mixed=0 then(dst cell bound mixed n).1 % bound else((dst cell bound mixed n).2.1*69621+40014+n) % 2147483647 / 8 % bound]:=h
   rcases List.mem_append.mp h' with q | q
   . exact iG hb n x q
   . rw[List.mem_singleton.mp q]
     split
     . exact⟨AQ _ (by omega),AK _ hb⟩
     . exact⟨AQ _ (by omega),AK _ hb⟩
def jt:Sp:=fun vs H Q _=>∃ cell many bound mixed:Int,vs=[.int cell,.int many,.int bound,.int mixed]∧0≤many∧many≤1000∧0 < bound∧bound < 2 ^ 62∧(mixed=0∨mixed=1) ∧
 ∀ l H',H l=none→af H H'→H' l=some (.lst ((gJ cell bound mixed many.toNat).map V.int))→Q (.ref l) H'
theorem fj:aw ["_law_cell", "_law_many", "_law_bound", "_law_mixed", "_law_drawn", "_law_rest", "_law_spun", "_law_k"] ["_law_cell", "_law_many", "_law_bound", "_law_mixed"] (ao pF):=sM
theorem vn {f:Addr}{fd:FuncData}(F:Fun K "_law_draws" "_law_draws" pF f fd)(T:Txt mg):aU P w K mg base CX0 1 f fd ["_law_cell", "_law_many", "_law_bound", "_law_mixed"] jt:=by
 refine oq F fj fun cdv A outer s H vs Q E hr h=>?_;obtain⟨cell,many,bound,mixed,rfl,hm0,hm1,hb0,hb1,hmix,q⟩:=h
 refine⟨_,aL (pS 4 fj.nd (bo ae))
   (aL (pS 5 fj.nd (pv 0))
   (aL (pS 6 fj.nd (aH bp (aH cn (aH fK (aH bp (pv 0) ag) ag) ag) ag))
   (aL (bC PassesOwn.never rfl (cc rfl T.range (aa (pv 1) ae)) (pN 7 fj.nd)
     (aL (pS 6 fj.nd (aH bp (aH cn (aH cn (aH fK (pv 6) ag) ag) (pv 7)) ag))
     (aL (aP (eW Ap AA AB bR (pv 4) (aa (pI ak (bo (aa (aH bp (pv 5) (pv 2)) (aa (aH bp (aH eR (pv 6) ag) (pv 2)) ae))) (pv 3)) ae)))
     (ah (pS 5 fj.nd (aH eR (pv 5) (pv 2)))))))
   (ah (aq (pv 4)))))),?_⟩
 try dsimp only[aC,aM]
 have hs:=aK;walk_at"";refine⟨by omega,fun l hl=>⟨by omega,.inr ⟨by omega,by omega⟩,by omega,by omega,by omega,?_⟩⟩
 refine bg (H0:=H) br (fun i σ H'=>∃ o,σ=[some (V.int cell),some (V.int many),some (V.int bound),some (V.int mixed),some (V.ref l),some (V.int (dst cell bound mixed i).1),some (V.int (dst cell bound mixed i).2.1),o]∧af H H'∧H' l=some (.lst ((gJ cell bound mixed i).map V.int)))
   ⟨none,rfl,af.updN hl,ac⟩ (fun _ _ _ _ ⟨_,_,h,_⟩=>h) ?_ ?_
 . rintro i x σ H' hi rfl ⟨o,rfl,hS,hH⟩;walk_at"";have ne:∀ p,H' p=none→l≠p:=fun p hp=>aF hH hp;refine⟨.inr ⟨by omega,by omega⟩,by omega,.inl ⟨rfl,_,SqL.of hH⟩,hb0,by omega,by omega,hb0,by omega,fun p hp=>?_⟩
   have hz:(0:Int)+(i:Int)=i:=by omega
   rw[hz];refine⟨_,SqL.of ac,(V.int (if mixed=0 then(dst cell bound mixed i).1 % bound else((dst cell bound mixed i).2.1*69621+40014+i) % 2147483647 / 8 % bound)),?_,_,by rw[ai (ne p hp)];exact hH,?_,hb0,by omega,rfl,rfl,?_,?_⟩
   . rcases hmix with rfl | rfl
     . rfl
     . rfl
   . rw[be,eJ];omega
   . exact(hS.step (hS.free hp)).step hl
   . rw[ac];unfold gJ;rw[show(dst cell bound mixed (i+1)).2.2=(dst cell bound mixed i).2.2++[if mixed=0 then(dst cell bound mixed i).1 % bound else((dst cell bound mixed i).2.1*69621+40014+i) % 2147483647 / 8 % bound] from rfl,zU];rfl
 . rintro σ H' ⟨o,rfl,hS,hH⟩;walk_at"";exact q l H' hl hS hH
def de (c:Nat):Prop:=97≤c∧c≤122
theorem vj:bn.cps.toList=(zW 26).map (fun i=>97+i):=by decide
theorem xl {j:Nat}(h:j < 26):bn.cps.toList[j]?=some (97+j):=by rw[vj,zO,B5 h];rfl
theorem u4 {i:Int}(h0:0≤i)(h1:i < 26):atI bn.cps.toList i=some (97+i.toNat):=by
 obtain⟨j,rfl⟩:=A7 h0;exact bT (xl (by omega))
theorem wn {c:Nat}(h:de c):inL c=true:=by
 have key:∀ i:_root_.Fin 26,inL (97+i.val)=true:=by decide
 have:=key ⟨c - 97,by unfold de at h;omega⟩
 have e:97+(c - 97)=c:=by unfold de at h;omega
 rw[show(97+(⟨c - 97,by unfold de at h;omega⟩:_root_.Fin 26).val)=c from e] at this;exact this
theorem vU {c:Nat}(h:de c):Txt.find bn ⟨#[c]⟩=((c - 97:Nat):Int):=by
 have key:∀ i:_root_.Fin 26,Txt.find bn ⟨#[97+i.val]⟩=(i.val:Int):=by decide
 have:=key ⟨c - 97,by unfold de at h;omega⟩
 have e:97+(c - 97)=c:=by unfold de at h;omega
 rw[show(97+(⟨c - 97,by unfold de at h;omega⟩:_root_.Fin 26).val)=c from e] at this;exact this
structure Nm (z:Str):Prop where
 lo:1≤z.length
 hi:z.length≤8
 all:∀ c∈z.cps.toList,de c
theorem Nm.good {z:Str}(h:Nm z):a9 z=true:=by
 unfold a9;rw[decide_eq_true h.lo,decide_eq_true h.hi,Bool.true_and,Bool.true_and];exact List.all_eq_true.mpr fun c hc=>wn (h.all c hc)
theorem Nm.of_list {z:Str}{l:List Nat}(e:z.cps.toList=l)(h1:1≤l.length)(h8:l.length≤8)(ha:∀ c∈l,de c):Nm z:=by
 have hl:z.length=l.length:=by rw[←e];exact Array.length_toList.symm
 exact⟨by omega,by omega,by rw[e];exact ha⟩
theorem kK (a y:Str):(a++y).cps.toList=a.cps.toList++y.cps.toList:=by
 rw[Str.cps_append,Array.toList_append]
theorem wo (a y:Str):(a++y).length=a.length+y.length:=PySem.Str.length_append a y
theorem eU (z:Str):z.length=z.cps.toList.length:=Array.length_toList.symm
theorem qw:(zM "").cps.toList=[]:=by decide
theorem jM (l:List Nat):∀ n,n≤l.length→(zW n).filterMap (fun i=>l[i]?)=l.take n
 | 0,_=>by simp
 | n+1,h=>by
   rw[Bg,List.filterMap_append,jM l n (by omega),Bw,zN (by omega)];simp[zN (show n < l.length by omega)]
theorem uV (n:Nat)(h:1≤n):Builtin.Str.strSliceIndices none (some (-1)) 1 n=zW (n - 1):=by
 rw[StrLaws.sliceIdx_neg_hi none n (by decide) (by omega)]
 have e:(-1:Int)+(n:Int)=((n - 1:Nat):Int):=by omega
 rw[e];have h0:=StrLaws.strSliceIndices_plain (a:=0) (b:=n - 1) (len:=n) (by omega) (by omega)
 have e0:Builtin.Str.strSliceIndices none (some ((n - 1:Nat):Int)) 1 n=Builtin.Str.strSliceIndices (some ((0:Nat):Int)) (some ((n - 1:Nat):Int)) 1 n:=by
   have m0:max (0:Int) (min (0:Int) (n:Int))=0:=by omega
   simp[Builtin.Str.strSliceIndices,m0]
 rw[e0,h0];simp
theorem qV (z:Str)(h:1≤z.length):(Txt.slice z none (some (-1))).cps.toList=z.cps.toList.dropLast:=by
 unfold Txt.slice;rw[uV _ h,A1]
 have hne:¬((1:Int)==1&&(z.length - 1)==z.length)=true:=by
   rw[Bool.and_eq_true];intro hh;have:=of_decide_eq_true hh.2;omega
 rw[if_neg hne];show(List.filterMap (fun i=>z.cps[i]?) (zW (z.length - 1))).toArray.toList=_
 have e:(fun i:Nat=>z.cps[i]?)=fun i=>z.cps.toList[i]?:=by funext i;simp
 rw[e,jM _ _ (by rw[Aw];exact Nat.sub_le _ _),BR,←eU]
def mkN (p:List Nat) (k:Nat):Str:=⟨(p++[97+k % 26]).toArray⟩
theorem d5 (p:List Nat) (k:Nat):(mkN p k).cps.toList=p++[97+k % 26]:=by simp[mkN]
theorem rz (p:List Nat) (k:Nat):(mkN p k).length=p.length+1:=by rw[eU,d5];simp
theorem wY {p:List Nat}{j k:Nat}(h:mkN p j=mkN p k):j % 26=k % 26:=by
 have:=congrArg (fun z:Str=>z.cps.toList) h;simp only[d5] at this;have:=List.append_cancel_left this;simp at this;exact this
theorem rZ {a b:Str}(h:a.cps.toList=b.cps.toList):a=b:=by
 have e2:a.cps=b.cps:=Array.toList_inj.mp h;cases a;cases b;simp only at e2;rw[e2]
theorem Nm.toMk {z:Str}(h:Nm z):∃ p k,z=mkN p k∧p.length≤7∧∀ c∈p,de c:=by
 have hne:z.cps.toList≠[]:=by
   intro e;have:=h.lo;rw[eU,e] at this;simp at this
 have hl:=h.all _ (List.getLast_mem hne);refine⟨z.cps.toList.dropLast,z.cps.toList.getLast hne - 97,rZ ?_,?_,fun c hc=>h.all c (List.dropLast_subset _ hc)⟩
 . rw[d5]
   have e:97+(z.cps.toList.getLast hne - 97) % 26=z.cps.toList.getLast hne:=by unfold de at hl;omega
   rw[e];exact(Ah hne).symm
 . have:=h.hi;rw[eU] at this;rw[AM];omega
theorem Nm.of_mk {p:List Nat}{k:Nat}(hp:p.length≤7)(ha:∀ c∈p,de c):Nm (mkN p k):=by
 refine Nm.of_list (d5 p k) (by simp) (by simp;omega) fun c hc=>?_
 rcases List.mem_append.mp hc with hc | hc
 . exact ha c hc
 . rw[List.mem_singleton.mp hc];unfold de;omega
theorem uf:∀ {l m:List Str},l.Nodup→(∀ x∈l,x∈m)→l.length≤m.length
 | [],m,_,_=>AF _
 | a::l,m,hn,hs=>by
   obtain⟨h1,h2⟩:=List.nodup_cons.mp hn;have ham:a∈m:=hs a zZ;have:=uf (l:=l) (m:=m.erase a) h2 fun x hx=>(BV (fun e=>h1 (by rw[←e];exact hx))).mpr (hs x (z7 _ hx));rw[BE ham] at this;have hpos:=BN ham;rw[Az];omega
theorem pq (p:List Nat) (k:Nat)(ws:List Str)(h:ws.length≤25):∃ t,t≤25∧mkN p (k+t)∉ws:=by
 refine Classical.byContradiction fun hno=>?_;have hall:∀ t,t≤25→mkN p (k+t)∈ws:=fun t ht=>Classical.byContradiction fun hn=>hno ⟨t,ht,hn⟩
 have hnd:((zW 26).map fun t=>mkN p (k+t)).Nodup:=by
   refine List.pairwise_map.mpr ?_;refine List.Pairwise.imp_of_mem ?_ List.nodup_range;intro a b ha hb hab e;have:=wY e;have:=List.mem_range.mp ha;have:=List.mem_range.mp hb;omega
 have:=uf hnd fun x hx=>by
   obtain⟨t,ht,rfl⟩:=List.mem_map.mp hx;exact hall t (by have:=List.mem_range.mp ht;omega)
 rw[be,A1] at this;omega
theorem cZ (x:Str):∀ ws:List Str,inV (.str x) (ws.map V.str)=decide (x∈ws)
 | []=>rfl
 | y::r=>by
   have ih:=cZ x r;unfold inV at ih ⊢;rw[Ac,Bm,ih];show((y==x)||decide (x∈r))=decide (x∈y::r);rw[Bool.eq_iff_iff];simp only[Bool.or_eq_true,beq_iff_eq,decide_eq_true_eq,AE];constructor
   . rintro(h | h)
     . exact .inl h.symm
     . exact .inr h
   . rintro(h | h)
     . exact .inl h.symm
     . exact .inr h
theorem cR (ws:List Str):(ws.map V.str).all dG=true:=by
 rw[CD];exact List.all_eq_true.mpr fun _ _=>rfl
structure NmL (ws:List Str) (n:Nat):Prop where
 len:ws.length=n
 nd:ws.Nodup
 nm:∀ x∈ws,Nm x
def jD (H:Hp)(p:Addr)(b:Str×List Str):Prop:=∃ o,H p=some (.tup [.str b.1,.ref o])∧H o=some (.lst (b.2.map V.str))
def gN (H:Hp)(lb:Addr)(bs:List (Str×List Str)):Prop:=∃ ps:List Addr,H lb=some (.lst (ps.map V.ref))∧ps.length=bs.length∧∀ (i:Nat) p b,ps[i]?=some p→bs[i]?=some b→jD H p b
theorem af.bthAt {H H':Hp}{p:Addr}{b:Str×List Str}(S:af H H')(h:jD H p b):jD H' p b:=by
 obtain⟨o,h1,h2⟩:=h;exact⟨o,S _ _ h1,S _ _ h2⟩
theorem af.bths {H H':Hp}{lb:Addr}{bs:List (Str×List Str)}(S:af H H')(h:gN H lb bs):gN H' lb bs:=by
 obtain⟨ps,h1,h2,h3⟩:=h;exact⟨ps,S _ _ h1,h2,fun i p b hp hb=>af.bthAt S (h3 i p b hp hb)⟩
def Shw (z:Str):Prop:=z.length≤1000∧∀ c∈z.cps.toList,c < 1114112
theorem Nm.shw {z:Str}(h:Nm z):Shw z:=⟨by have:=h.hi;omega,fun c hc=>by have:=(h.all c hc).2;omega⟩
structure aN (ss:List Str)(bs:List (Str×List Str)):Prop where
 s1:1≤ss.length
 s12:ss.length≤12
 snd:ss.Nodup
 snm:∀ x∈ss,a9 x=true
 snw:∀ x∈ss,Shw x
 b8:bs.length≤8
 bnd:(bs.map (·.1)).Nodup
 bnm:∀ b∈bs,a9 b.1=true
 bnw:∀ b∈bs,Shw b.1
 bln:∀ b∈bs,b.2.length=ss.length
 bin:∀ b∈bs,∀ x∈b.2,x∈ss
theorem t4 {ws:List Str}{n:Nat}(h:n≤ws.length):ix (ws.map V.str) none (some (n:Int))=(ws.take n).map V.str:=by
 unfold ix;have e1:HT.sIx (ws.map V.str).length 0 none=0:=rfl
 have e2:HT.sIx (ws.map V.str).length (ws.map V.str).length (some (n:Int))=n:=by
   rw[be,HT.sIx_nat];omega
 rw[e1,e2,List.drop_zero,Nat.sub_zero,List.map_take]
theorem bZ {L:List Str}{i:Nat}{x:Str}(h:L[i]?=some x):atI (L.map V.str) (i:Int)=some (V.str x):=bT (by rw[zO,h];rfl)
theorem jC {ws:List Str}{n:Nat}{x:Str}(hd:ws.Nodup)(hx:ws[n]?=some x):x∉ws.take n:=fun hm=>by
 rw[←List.take_append_drop n ws] at hd;have hx2:x∈ws.drop n:=zS (i:=0) (by rw[Ca];exact hx);exact(List.nodup_append.mp hd).2.2 x hm x hx2 rfl
def hide (H:Hp)(p:Addr):Hp:=fun b=>if b=p then none else H b
theorem af.hide {H H2:Hp}{p:Addr}(S:af H H2):af (hide H p) (DM.hide H2 p):=fun b o e=>by
 unfold DM.hide at e ⊢;by_cases h:b=p
 . rw[if_pos h] at e;cases e
 . rw[if_neg h] at e ⊢;exact S b o e
theorem dZ {H:Hp}{p:Addr}{o:HO}:hide (upd H p o) p=hide H p:=by
 funext b;unfold hide upd;by_cases h:b=p
 . rw[if_pos h,if_pos h]
 . rw[if_neg h,if_neg h,if_neg h]
theorem bK {H:Hp}{p:Addr}:af (hide H p) H:=fun b o e=>by
 unfold hide at e;by_cases h:b=p
 . rw[if_pos h] at e;cases e
 . rw[if_neg h] at e;exact e
theorem aW {H:Hp}{p q:Addr}(h:q≠p):hide H p q=H q:=by unfold hide;rw[if_neg h]
theorem dY {K:PySem.W.Frag}{H:Hp}{a:Addr}{x y:V}{i j:Nat}{σ:St}{Q:St→Hp→Prop}(h:H a=some (.tup [x,y]))(q:Q ((σ.set i (some x)).set j (some y)) H):kD K 2 (bN (bx i) (bN (bx j) iC)) (.ref a) σ H Q :=
 ⟨a,[x,y],rfl,SqT.of h,rfl,x,[y],rfl,y,[],rfl,rfl,q⟩
theorem vh {K:PySem.W.Frag}{H:Hp}{a:Addr}{x y z u:V}{i j k l:Nat}{σ:St}{Q:St→Hp→Prop}(h:H a=some (.tup [x,y,z,u]))(q:Q ((((σ.set i (some x)).set j (some y)).set k (some z)).set l (some u)) H):kD K 4 (bN (bx i) (bN (bx j) (bN (bx k) (bN (bx l) iC)))) (.ref a) σ H Q :=
 ⟨a,[x,y,z,u],rfl,SqT.of h,rfl,x,[y,z,u],rfl,y,[z,u],rfl,z,[u],rfl,u,[],rfl,rfl,q⟩
def gl (ws:List Str) (x:Int):Str:=ws.getD x.toNat ⟨#[]⟩
theorem oJ {ws:List Str}{x:Int}(h0:0≤x)(h1:x.toNat < ws.length):atI (ws.map V.str) x=some (V.str (gl ws x)):=by
 have e:ws[x.toNat]?=some (gl ws x):=by
   unfold gl;rw[zQ,zN h1];rfl
 have:=bZ e
 rwa [B6 h0] at this
theorem oy {ws:List Str}{x:Int}{n:Nat}(h0:0≤x)(h1:x < n)(hn:n≤ws.length):gl ws x∈ws.take n:=by
 have hl:x.toNat < ws.length:=by omega
 refine zS (i:=x.toNat) ?_;rw[Cb,if_pos (by omega)];unfold gl;rw[zQ,zN hl];rfl
def mW:Sp:=fun vs H Q _=>∃ cell many wide mixed:Int,vs=[.int cell,.int many,.int wide,.int mixed]∧0≤many∧many≤20∧(wide=26∨wide=2)∧(mixed=0∨mixed=1) ∧
 ∀ l (ws:List Str) H',H l=none→af H H'→H' l=some (.lst (ws.map V.str))→(ws.length:Int)=many→ws.Nodup→(∀ x∈ws,Nm x)→Q (.ref l) H'
theorem dD:aw ["_law_cell", "_law_many", "_law_wide", "_law_mixed", "_law_letters", "_law_words_here", "_law_seed", "_law_rest", "_law_word", "_law_k"] ["_law_cell", "_law_many", "_law_wide", "_law_mixed"] (ao qX):=sM
structure Cl (P:Program)(w:World)(K:PySem.W.Frag)(mg:Str→Option Value)(base:Heap)(CX:CXT) (n:Nat) (x:Str)(ps:List Str)(sp:Sp)(f:Addr)(fd:FuncData):Prop where
 g:aU P w K mg base CX n f fd ps sp
 k:Bc K (.ref f)=true
 b:em K fd ps []
 m:mg x=some (.ref f)
structure Cm (P:Program)(w:World)(K:PySem.W.Frag)(mg:Str→Option Value)(base:Heap)(CX:CXT) (n:Nat)(C:Addr) (x:Str)(ps:List Str)(sp:Sp)(f:Addr)(fd:FuncData):Prop where
 g:aU P w K mg base CX n f fd ps sp
 h:Meth K C x f
 b:em K fd ps []
section
variable {X:Cx}{CX:CXT}{k:Nat}{x:Str}{ps:List Str}{sp:Sp}{f C:Addr}{fd:FuncData}{E:XK}{e o:Expr}{es:List Expr}{t:TA}{ta:TE}{pos p apos:Pos}
theorem pC (G:Cl X.prog X.w X.K X.mg X.base CX k x ps sp f fd)(hr:cL k X.A)(hx:dq CX X E)(ha:PA X (e::es) t)(hg:Gl X x:=by rfl)(hdb:(x==("__debug__":Str))=false:=by decide)(he:starEach (e::es) X.env=(false,eval e X.env)::starEach es X.env:=by rfl)(hpl:(backTo pos (starEach es X.env)).any (·.1)=false:=by rfl):PE X (.Call (.Name x p) (e::es) [] pos) (rh sp [] E t):=wO G.g hr hg G.m G.k G.b .nil hx ha hdb he hpl
theorem pM {pl:Sem Bool}(he:PE X o ta)(c:Cls X.K C)(G:Cm X.prog X.w X.K X.mg X.base CX k C x ps sp f fd)(hr:cL k X.A)(hx:dq CX X E)(ha:PA X (e::es) t)(hst:starEach (e::es) X.env=(false,eval e X.env)::starEach es X.env:=by rfl)(hpl:(backTo pos (starEach es X.env)).any (·.1)=false:=by rfl)
 (ht:eval (.Call (.Attribute o x apos) (e::es) [] pos) X.env=(do
   let ov ←eval o X.env
   standAt apos.atName
   let (f,first) ←holding [ov] (getMethod ov x pl)
   callWith pos f first (backTo pos (starEach (e::es) X.env)) (backToKw pos (keywordEach [] X.env))):=by rfl):PE X (.Call (.Attribute o x apos) (e::es) [] pos) (lL C x sp [] E ta t):=ig he c G.h G.g hr G.b .nil hx ha hst hpl ht
theorem pM0 {pl:Sem Bool}(he:PE X o ta)(c:Cls X.K C)(G:Cm X.prog X.w X.K X.mg X.base CX k C x ps sp f fd)(hr:cL k X.A)(hx:dq CX X E)
 (ht:eval (.Call (.Attribute o x apos) [] [] pos) X.env=(do
   let ov ←eval o X.env
   standAt apos.atName
   let (f,first) ←holding [ov] (getMethod ov x pl)
   callWith pos f first (backTo pos (starEach [] X.env)) (backToKw pos (keywordEach [] X.env))):=by rfl):PE X (.Call (.Attribute o x apos) [] [] pos) (lL C x sp [] E ta tm):=vK he c G.h G.g hr G.b .nil hx ht
end
theorem vF {f fD:Addr}{fd fdD:FuncData}(F:Fun K "_law_words" "_law_words" qX f fd)
   (T:Txt mg)
   (GD:Cl P w K mg base CX0 1 "_law_draws" ["_law_cell", "_law_many", "_law_bound", "_law_mixed"] jt fD fdD) :
   aU P w K mg base CX0 2 f fd ["_law_cell", "_law_many", "_law_wide", "_law_mixed"] mW:=by
 refine oq F dD fun cdv A outer s H vs Q E hr h=>?_;obtain⟨cell,many,wide,mixed,rfl,hm0,hm1,hwd,hmix,q⟩:=h;have hr1:=hr.mono (j:=1) (by omega)
 refine⟨_,(aj (pS 4 dD.nd aA)
   (aj (pS 5 dD.nd (bo ae))
   (aj (bC PassesOwn.never rfl (a8 (pC GD hr1 az (aa (pv 0) (aa (pv 1) (aa (aH fK ag (aH t7 ag ag)) (aa (pv 3) ae)))))) (pN 6 dD.nd) (aj (pS 7 dD.nd (aH eR (pv 6) ag))
   (aj (pS 8 dD.nd aA)
   (aj (bC PassesOwn.never rfl (cc rfl T.range (aa (aH cn ag (aH bp (pv 6) ag)) ae)) (pN 9 dD.nd) (aL (pS 8 dD.nd (aH fm (pv 8) (pI ms (pv 4) (aH bp (pv 7) (pv 2)))))
   (ah (pS 7 dD.nd (aH eR (pv 7) (pv 2))))))
   (aj (vx PassesOwn.never (ap lY (pv 8) (pv 5) (by with_unfolding_all rfl)) (ah (pS 8 dD.nd (aH fm (eI yF (pv 8) ic (eY (eG dj ag))) (pI ms (pv 4) (aH bp (aH cn (eW PySem.F.plainAttrs_str PySem.F.slot_str_index PySem.F.type_str_index (uN rfl) (pv 4) (aa (pI ms (pv 8) (eG dj ag)) ae)) ag) ag))))))
   (ah (aP (eW Ap AA AB bR (pv 5) (aa (pv 8) ae)))))))))
   (ah (aq (pv 5)))))),?_⟩
 try dsimp only[aC,aM]
 have hs:=aK
 have hw0:0 < wide:=by omega
 have hw26:wide≤26:=by omega
 refine au (fun σ' H'=>σ'=[some (.int cell),some (.int many),some (.int wide),some (.int mixed),some (.str bn),none,none,none,none,none]∧H'=H) (fun R hR=>?_) ?_
 . walk_at"";exact hR _ _ ⟨rfl,rfl⟩
 rintro σ0 H0 ⟨rfl,rfl⟩;refine au (fun σ' H'=>∃ p,σ'=[some (.int cell),some (.int many),some (.int wide),some (.int mixed),some (.str bn),some (.ref p),none,none,none,none]∧H0 p=none∧H'=upd H0 p (.lst [])) (fun R hR=>?_) ?_
 . walk_at"";exact⟨by omega,fun p hp=>hR _ _ ⟨p,rfl,hp,rfl⟩⟩
 rintro σ1 H1 ⟨p,rfl,hp,rfl⟩;refine au (fun σ' H'=>∃ (ws:List Str)(o6 o7 o8 o9:Option V),σ'=[some (.int cell),some (.int many),some (.int wide),some (.int mixed),some (.str bn),some (.ref p),o6,o7,o8,o9]∧af H0 H'∧H' p=some (.lst (ws.map V.str))∧(ws.length:Int)=many∧ws.Nodup∧∀ x∈ws,Nm x) (fun R hR=>?_) ?_
 . walk_at"";refine⟨⟨by decide,by decide,by decide⟩,.inl ⟨by decide,by decide⟩,_,_,_,_,rfl,hm0,by omega,by decide,by decide,hmix,fun l H1 hl S1 hH1=>?_⟩
   have hpl:p≠l:=fun e=>by rw[e,ac] at hl;cases hl
   have hHl:H0 l=none:=by rw[ai (Ne.symm hpl)] at hl;exact hl
   have hL:=eJ cell (8*26 ^ Bq 8) mixed many.toNat;have hLr:=iG (cell:=cell) (bound:=8*26 ^ Bq 8) (mixed:=mixed) (by decide) many.toNat;generalize gJ cell (8*26 ^ Bq 8) mixed many.toNat=L at hH1 hL hLr
   have S0:af (upd H0 l (.lst (L.map V.int))) H1:=fun b o e=>by
     by_cases hb:b=l
     . rw[hb,ac] at e;rw[hb,←e];exact hH1
     . rw[ai hb] at e;exact S1 b o (by rw[ai (aF e hp)];exact e)
   have hp0:(upd H0 l (.lst (L.map V.int))) p=none:=by rw[ai hpl];exact hp
   refine⟨l,rfl,⟨_,SqL.of hH1⟩,?_⟩
   refine bg (H0:=upd H0 l (.lst (L.map V.int))) (aG (SqL.of ac)) (fun i σ' H'=>∃ (ws:List Str)(o1 o2 o3 o4:Option V),σ'=[some (.int cell),some (.int many),some (.int wide),some (.int mixed),some (.str bn),some (.ref p),o1,o2,o3,o4] ∧
     af (upd H0 l (.lst (L.map V.int))) H'∧H' p=some (.lst (ws.map V.str))∧ws.length=i∧ws.Nodup∧∀ x∈ws,Nm x)
     ⟨[],none,none,none,none,rfl,S0,S1 _ _ ac,rfl,Cw,fun x hx=>by cases hx⟩ (fun _ _ _ _ ⟨_,_,_,_,_,_,h,_⟩=>h) ?_ ?_
   . rintro i x σ H' hi hx ⟨ws,o1,o2,o3,o4,rfl,hS,hH,hwl,hnd,hnm⟩;rw[zO] at hx;obtain⟨y,hy,rfl⟩:=Option.map_eq_some_iff.mp hx;rw[be] at hi;have hyr:=hLr y (zS hy);refine au (fun σ' H''=>σ'=[some (.int cell),some (.int many),some (.int wide),some (.int mixed),some (.str bn),some (.ref p),some (.int y),some (.int (y / 8)),o3,o4]∧H''=H') (fun R hR=>?_) ?_
     . walk_at"";exact⟨by decide,by decide,hR _ _ ⟨rfl,rfl⟩⟩
     rintro σ2 H2 ⟨rfl,rfl⟩;refine au (fun σ' H''=>σ'=[some (.int cell),some (.int many),some (.int wide),some (.int mixed),some (.str bn),some (.ref p),some (.int y),some (.int (y / 8)),some (.str ""),o4]∧H''=H2) (fun R hR=>?_) ?_
     . walk_at"";exact hR _ _ ⟨rfl,rfl⟩
     rintro σ3 H3 ⟨rfl,rfl⟩;refine au (fun σ' H''=>∃ z o7 o9,Nm z∧σ'=[some (.int cell),some (.int many),some (.int wide),some (.int mixed),some (.str bn),some (.ref p),some (.int y),o7,some (.str z),o9]∧H''=H3) (fun R hR=>?_) ?_
     . walk_at"";refine⟨by decide,by omega,by omega,?_⟩
       refine bi (H0:=H3) br (fun i σ' H''=>∃ (rr:Int)(l:List Nat) (z:Str)(o9:Option V),σ'=[some (.int cell),some (.int many),some (.int wide),some (.int mixed),some (.str bn),some (.ref p),some (.int y),some (.int rr),some (.str z),o9]∧H''=H3∧z.cps.toList=l∧l.length=i∧∀ c∈l,de c)
         ⟨_,[],_,_,rfl,rfl,qw,rfl,fun c hc=>by cases hc⟩ (fun _ _ _ _ ⟨_,_,_,_,_,h,_⟩=>by rw[h];exact af.refl _) ?_ ?_
       . rintro i x σ H'' hi rfl ⟨rr,l2,z,o9,rfl,rfl,hzl,hll,hlt⟩ R2 hR2
         have hi8:i < 8:=by omega
         have hm0:=AQ rr (show wide≠0 by omega);have hm1:=AK rr hw0;walk_at""
         have hzlen:z.length=i:=by rw[eU,hzl];exact hll
         refine⟨hw0,by decide,_,u4 hm0 (by omega),by rw[hzlen];show i+1≤sizeLine;omega,hw0,by omega,hR2 _ _ ⟨_,l2++[97+(rr % wide).toNat],_,_,rfl,rfl,?_,by rw[zP,hll];rfl,fun c hc=>?_⟩⟩
         . rw[kK,hzl]
         . rcases List.mem_append.mp hc with hc | hc
           . exact hlt c hc
           . rw[List.mem_singleton.mp hc];unfold de;omega
       . rintro σ H'' ⟨rr,l2,z,o9,rfl,rfl,hzl,hll,hlt⟩;exact hR _ _ ⟨z,_,_,Nm.of_list hzl (by omega) (by omega) hlt,rfl,rfl⟩
     rintro σ4 H4 ⟨z,o7,o9,hz,rfl,rfl⟩;refine au (fun σ' H''=>∃ z' o7' o9',Nm z'∧z'∉ws∧σ'=[some (.int cell),some (.int many),some (.int wide),some (.int mixed),some (.str bn),some (.ref p),some (.int y),o7',some (.str z'),o9']∧H''=H4) (fun R hR=>?_) ?_
     . obtain⟨pp,k0,rfl,hp7,hpa⟩:=hz.toMk;obtain⟨t0,ht0,hfree⟩:=pq pp k0 ws (by omega);refine⟨fun m σ' H'=>∃ k t,t≤m∧mkN pp (k+t)∉ws∧σ'=[some (.int cell),some (.int many),some (.int wide),some (.int mixed),some (.str bn),some (.ref p),some (.int y),o7,some (.str (mkN pp k)),o9]∧H'=H4,⟨25,k0,t0,ht0,hfree,rfl,rfl⟩,?_⟩;rintro m σ' H' ⟨k,t,htm,hfr,rfl,rfl⟩;walk_at"";refine⟨_,.inl (SqL.of hH),rfl,cR ws,?_⟩;rw[cZ];refine ay (fun hin=>?_) (fun hin=>?_)
       . have hin':mkN pp k∈ws:=of_decide_eq_true hin;have ht:t≠0:=fun e=>hfr (by rw[e];exact hin')
         have hlen8:(mkN pp k).length≤8:=by rw[rz];omega
         have hlet:de (97+k % 26):=by unfold de;omega
         have hf:=vU hlet
         have hn1:97+k % 26 - 97=k % 26:=by omega
         rw[hn1] at hf
         have hsl:(Txt.slice (mkN pp k) none (some (-1))).cps.toList=pp:=by rw[qV _ (by rw[rz];omega),d5,List.dropLast_concat]
         have hsll:(Txt.slice (mkN pp k) none (some (-1))).length=pp.length:=by rw[eU,hsl]
         have e1:(((k % 26:Nat):Int)+1) % 26=(((k+1) % 26:Nat):Int):=by omega
         have hnew:Txt.slice (mkN pp k) none (some (-1))++(⟨#[97+(((k+1) % 26:Nat):Int).toNat]⟩:Str)=mkN pp (k+1):=by
           refine rZ ?_;rw[kK,hsl,d5,Au]
         refine⟨fun σ' H''=>σ'=[some (.int cell),some (.int many),some (.int wide),some (.int mixed),some (.str bn),some (.ref p),some (.int y),o7,some (.str (mkN pp (k+1))),o9]∧H''=H',?_,by omega,rfl,by omega,_,by rw[d5];exact eX _ _,by rw[hf];omega,by decide,by decide,_,by rw[hf,e1];exact u4 (by omega) (by omega),?_,?_⟩
         . rintro σ' H'' ⟨rfl,rfl⟩;refine⟨m - 1,by omega,k+1,t - 1,by omega,?_,rfl,rfl⟩;rw[show k+1+(t - 1)=k+t by omega];exact hfr
         . rw[hsll];show pp.length+1≤sizeLine;omega
         . rw[hnew];exact⟨rfl,rfl⟩
       . have hin':mkN pp k∉ws:=of_decide_eq_false (by simpa using hin);exact hR _ _ ⟨mkN pp k,o7,o9,Nm.of_mk hp7 hpa,hin',rfl,rfl⟩
     rintro σ5 H5 ⟨z',o7',o9',hz',hnin,rfl,rfl⟩;walk_at"";have hnd':(ws++[z']).Nodup:=gQ hnd hnin;refine⟨.inl ⟨rfl,_,SqL.of hH⟩,_,hH,by rw[be];omega,(fun b o e=>by rw[ai (aF e hp0)];exact hS b o e),ws++[z'],?_,?_,hnd',?_⟩
     . rw[ac,zU];rfl
     . rw[zP,hwl];rfl
     . intro x hx
       rcases List.mem_append.mp hx with hx | hx
       . exact hnm x hx
       . rw[List.mem_singleton.mp hx];exact hz'
   . rintro σ H' ⟨ws,o1,o2,o3,o4,rfl,hS,hH,hwl,hnd,hnm⟩;refine hR _ _ ⟨ws,o1,o2,o3,o4,rfl,fun b o e=>hS b o (by rw[ai (aF e hHl)];exact e),hH,?_,hnd,hnm⟩;rw[hwl,be];omega
 rintro σ2 H2 ⟨ws,o6,o7,o8,o9,rfl,S2,hH2,hwl,hnd,hnm⟩;walk_at"";exact q p ws H2 hp S2 hH2 hwl hnd hnm
def rb (K:PySem.W.Frag):Sp:=fun vs H Q _=>∃ (a:Addr)(ns:List Int) (c:Nat),vs=[.ref a,.int c]∧SqL K H a (ns.map V.int)∧c≤8 ∧
 ∀ p l lb (ss:List Str)(bs:List (Str×List Str)) (spare other:Str) H',af H H'→H' p=some (.tup [.ref l,.ref lb,.str spare,.str other])→H l=none→H' l=some (.lst (ss.map V.str))→H lb=none→gN H' lb bs→aN ss bs→bs.length=c→Nm spare→spare∉ss→Nm other→other∉bs.map (·.1)→Q (.ref p) H'
theorem dR:aw ["_law_script", "_law_count", "_law_many", "_law_mixed", "_law_wide", "_law_shades", "_law_titles", "_law_baths", "_law_k", "_law_outs"] ["_law_script", "_law_count"] (ao qD):=sM
theorem uP {f fD fA fW:Addr}{fd fdD fdA fdW:FuncData}(F:Fun K "_law_plain" "_law_plain" qD f fd)
   (T:Txt mg)
   (GD:Cl P w K mg base CX0 1 "_law_draws" ["_law_cell", "_law_many", "_law_bound", "_law_mixed"] jt fD fdD)
   (GA:Cl P w K mg base CX0 1 "_law_at" ["_law_script", "_law_k"] (tJ K) fA fdA)
   (GW:Cl P w K mg base CX0 2 "_law_words" ["_law_cell", "_law_many", "_law_wide", "_law_mixed"] mW fW fdW) :
   aU P w K mg base CX0 4 f fd ["_law_script", "_law_count"] (rb K):=by
 refine oq F dR fun cdv A outer s H vs Q E hr h=>?_;obtain⟨a,ns,c,rfl,ha,hc8,q⟩:=h;have hr1:=hr.mono (j:=1) (by omega);have hr2:=hr.mono (j:=2) (by omega)
 refine⟨_,(aj (pS 2 dR.nd (aH cn ag (aH bp (pC GA hr1 az (aa (pv 0) (aa ag ae))) ag)))
   (aj (pS 3 dR.nd (aH bp (pC GA hr1 az (aa (pv 0) (aa ag ae))) ag))
   (aj (pS 4 dR.nd (pI ak (bo (aa ag (aa ag ae))) (aH bp (aH eR (pC GA hr1 az (aa (pv 0) (aa ag ae))) ag) ag)))
   (aj (l8 (i:=5) dR.nd rfl (Or.inr rfl) (pC GW hr2 az (aa (pC GA hr1 az (aa (pv 0) (aa ag ae))) (aa (aH cn (pv 2) ag) (aa (pv 4) (aa (pv 3) ae))))))
   (aj (pS 6 dR.nd (pC GW hr2 az (aa (pC GA hr1 az (aa (pv 0) (aa ag ae))) (aa (aH cn (pv 1) ag) (aa (pv 4) (aa (pv 3) ae))))))
   (aj (pS 7 dR.nd (bo ae))
   (aj (bC PassesOwn.never rfl (cc rfl T.range (aa (pv 1) ae)) (pN 8 dR.nd) (aj (pS 9 dR.nd (pC GD hr1 az (aa (aH cn (pC GA hr1 az (aa (pv 0) (aa (aH cn ag (pv 8)) ae))) (aH fK (aH fK ag (pv 8)) (pv 3))) (aa (pv 2) (aa (pv 2) (aa (pv 3) ae))))))
   (ah (aP (eW Ap AA AB bR (pv 7) (aa (bQ (aa (pI ak (pv 6) (pv 8)) (aa (fk (N':=["_law_j", "_law_shades"]) (pk:=[none,some 5]) rfl (bW.of (by rfl)) (a8 (pv 9)) (fun s H ex=>(pN 0 (by show(["_law_j", "_law_shades"]:List Str).Nodup;decide))) (fun s H ex=>(pI (ak:IxR _ (hV K)) (pv 1) (pv 0)))) ae))) ae))))))
   (ah (aq (bQ (aa (eI gU (pv 5) ic (eY (pv 2))) (aa (pv 7) (aa (pI ak (pv 5) (pv 2)) (aa (pI ak (pv 6) (pv 1)) ae)))))))))))))),?_⟩
 try dsimp only[aC,aM]
 have hs:=aK;refine au (fun σ' H'=>∃ n:Nat,1≤n∧n≤12∧σ'=[some (.ref a),some (.int c),some (.int n),none,none,none,none,none,none,none]∧H'=H) (fun R hR=>?_) ?_
 . walk_at"";exact dw ha (by decide) ⟨_,rfl,by decide,hR _ _ ⟨(1+atL ns 0 % 12).toNat,by omega,by omega,by rw[B6 (by omega)],rfl⟩⟩
 rintro σ1 H1 ⟨n,hn1,hn,rfl,rfl⟩;refine au (fun σ' H'=>∃ mixed:Int,(mixed=0∨mixed=1)∧σ'=[some (.ref a),some (.int c),some (.int n),some (.int mixed),none,none,none,none,none,none]∧H'=H1) (fun R hR=>?_) ?_
 . walk_at"";exact dw ha (by decide) ⟨_,rfl,by decide,hR _ _ ⟨_,by omega,rfl,rfl⟩⟩
 rintro σ2 H2 ⟨mixed,hmix,rfl,rfl⟩;refine au (fun σ' H'=>∃ wd:Int,(wd=26∨wd=2)∧σ'=[some (.ref a),some (.int c),some (.int n),some (.int mixed),some (.int wd),none,none,none,none,none]∧af H2 H') (fun R hR=>?_) ?_
 . walk_at"";refine⟨by omega,fun p hp=>dw ((af.updN hp).seq ha) (by decide) ⟨_,rfl,by decide,by decide,by decide,_,SqL.of ac,?_⟩⟩;obtain⟨y,hy,e⟩:=g9 [26,2] (x:=atL ns 3 / 2 % 2) (by omega) (by show _ < (2:Int);omega);exact⟨_,e,hR _ _ ⟨y,by simpa using hy,rfl,af.updN hp⟩⟩
 rintro σ3 H3 ⟨wd,hwd,rfl,S3⟩;refine au (fun σ' H'=>∃ l1 ws,σ'=[some (.ref a),some (.int c),some (.int n),some (.int mixed),some (.int wd),some (.ref l1),none,none,none,none]∧af H2 H'∧H' l1=some (.lst (ws.map V.str))∧NmL ws (n+1)) (fun R hR=>?_) ?_
 . walk_at"";exact dw (S3.seq ha) (by decide) ⟨_,_,_,_,rfl,by omega,by omega,hwd,hmix,fun l ws H' hl S' hH hlen hnd hnm=>hR _ _ ⟨l,ws,rfl,S3.trans S',hH,⟨by omega,hnd,hnm⟩⟩⟩
 rintro σ4 H4 ⟨l1,ws,rfl,S4,hH1,hws⟩;refine au (fun σ' H'=>∃ l2 ts,σ'=[some (.ref a),some (.int c),some (.int n),some (.int mixed),some (.int wd),some (.ref l1),some (.ref l2),none,none,none]∧af H4 H'∧H' l2=some (.lst (ts.map V.str))∧NmL ts (c+1)) (fun R hR=>?_) ?_
 . walk_at"";exact dw (S4.seq ha) (by decide) ⟨_,_,_,_,rfl,by omega,by omega,hwd,hmix,fun l ts H' hl S' hH hlen hnd hnm=>hR _ _ ⟨l,ts,rfl,S',hH,⟨by omega,hnd,hnm⟩⟩⟩
 rintro σ5 H5 ⟨l2,ts,rfl,S5,hH2,hts⟩;have hH1:=S5 _ _ hH1;have S5:=S4.trans S5;refine au (fun σ' H'=>∃ p,σ'=[some (.ref a),some (.int c),some (.int n),some (.int mixed),some (.int wd),some (.ref l1),some (.ref l2),some (.ref p),none,none]∧H5 p=none∧H'=upd H5 p (.lst [])) (fun R hR=>?_) ?_
 . walk_at"";exact⟨by omega,fun p hp=>hR _ _ ⟨p,rfl,hp,rfl⟩⟩
 rintro σ6 H6 ⟨p,rfl,hp,rfl⟩
 refine au (fun σ' H'=>∃ (ps:List Addr)(bs:List (Str×List Str))(o8 o9:Option V),σ'=[some (.ref a),some (.int c),some (.int n),some (.int mixed),some (.int wd),some (.ref l1),some (.ref l2),some (.ref p),o8,o9]∧af H5 H'∧H' p=some (.lst (ps.map V.ref)) ∧
   ps.length=c∧bs.length=c∧(∀ (j:Nat) r b,ps[j]?=some r→bs[j]?=some b→jD (hide H' p) r b)∧bs.map (·.1)=ts.take c∧∀ b∈bs,b.2.length=n∧∀ x∈b.2,x∈ws.take n) (fun R hR=>?_) ?_
 . walk_at"";refine⟨by omega,by omega,?_⟩;rw[Au]
   refine bi (H0:=H5) br (fun i σ' H'=>∃ (ps:List Addr)(bs:List (Str×List Str))(o8 o9:Option V),σ'=[some (.ref a),some (.int c),some (.int n),some (.int mixed),some (.int wd),some (.ref l1),some (.ref l2),some (.ref p),o8,o9]∧af H5 H'∧H' p=some (.lst (ps.map V.ref)) ∧
     ps.length=i∧bs.length=i∧(∀ (j:Nat) r b,ps[j]?=some r→bs[j]?=some b→jD (hide H' p) r b)∧bs.map (·.1)=ts.take i∧∀ b∈bs,b.2.length=n∧∀ x∈b.2,x∈ws.take n)
     ⟨[],[],none,none,rfl,af.updN hp,ac,rfl,rfl,(by intro j r b h;simp at h),rfl,(by intro b h;cases h)⟩ (fun _ _ _ _ ⟨_,_,_,_,_,h,_⟩=>h) ?_ ?_
   . rintro i x σ H' hi rfl ⟨ps,bs,o8,o9,rfl,hS,hH,hpl,hbl,hB,hT,hO⟩ R2 hR2
     have ei:(0:Int)+(i:Int)=i:=by omega
     rw[ei]
     have hm9:(1009:Int)*i*mixed < 2 ^ 62:=by rcases hmix with e | e<;>(rw[e];omega)
     refine au (fun σ' H''=>∃ (lo:Addr)(os:List Int),σ'=[some (.ref a),some (.int c),some (.int n),some (.int mixed),some (.int wd),some (.ref l1),some (.ref l2),some (.ref p),some (.int i),some (.ref lo)]∧af H' H''∧H'' lo=some (.lst (os.map V.int))∧os.length=n∧∀ y∈os,0≤y∧y < n) (fun R hR=>?_) ?_
     . walk_at"";refine dw ((S5.trans hS).seq ha) (by omega) ⟨.inl ⟨by omega,by omega⟩,.inl ⟨by omega,by omega⟩,_,rfl,_,_,_,_,rfl,by omega,by omega,by omega,by omega,hmix,fun lo H'' hlo S'' hH''=>hR _ _ ⟨lo,_,rfl,S'',hH'',by rw[eJ,Au],fun y hy=>iG (by omega) _ y hy⟩⟩
     rintro σ2 H2' ⟨lo,os,rfl,S2,hlo,hosl,hosr⟩;have hH1':H2' l1=some (.lst (ws.map V.str)):=S2 _ _ (hS _ _ hH1);have hH2':H2' l2=some (.lst (ts.map V.str)):=S2 _ _ (hS _ _ hH2);have hp2:H2' p=some (.lst (ps.map V.ref)):=S2 _ _ hH;obtain⟨tt,htt⟩:∃ tt,ts[i]?=some tt:=⟨_,zN (by rw[hts.len];omega)⟩;walk_at"";refine⟨.inl ⟨rfl,_,SqL.of hp2⟩,_,SqL.of hH2',_,bZ htt,⟨_,SqL.of hlo⟩,fun D hD=>?_⟩
     have hDp:D≠p:=fun e=>by rw[e,hp2] at hD;cases hD
     refine cG (aG (SqL.of hlo)) (by rw[be,hosl];omega) hD (fun σ=>∃ o,σ=[o,some (.ref l1)]) (fun k=>V.str (gl ws (os.getD k 0))) ⟨none,rfl⟩ ?_ ?_
     . rintro k x σ' H3 hk hx ⟨o,rfl⟩ hS3 R hR;rw[zO] at hx;obtain⟨y,hy,rfl⟩:=Option.map_eq_some_iff.mp hx;have hyr:=hosr y (zS hy);walk_at"";refine⟨_,hS3.seq (SqL.of hH1'),_,oJ hyr.1 (by rw[hws.len];omega),?_⟩
       have e:os.getD k 0=y:=by rw[zQ,hy];rfl
       have:=hR [some (V.int y),some (V.ref l1)] ⟨_,rfl⟩;rw[e] at this;exact this
     . have e:(zW (os.map V.int).length).map (fun k=>V.str (gl ws (os.getD k 0)))=(os.map (gl ws)).map V.str:=by
         rw[Av];refine cF _ os _ _ (by rw[be]) fun k x hx=>?_;rw[zQ,hx];rfl
       rw[e];refine⟨by omega,fun t ht=>?_⟩;have ht2:H2' t=none:=(af.updN hD).free ht
       have htp:t≠p:=fun e=>by rw[e,hp2] at ht2;cases ht2
       have htD:D≠t:=fun e=>by rw[←e,ac] at ht;cases ht
       have S3:af H2' (upd (upd H2' D (.lst ((os.map (gl ws)).map V.str))) t (.tup [.str tt,.ref D])):=(af.updN hD).step ht2;refine⟨_,S3 _ _ hp2,by rw[be];omega,hR2 _ _ ⟨ps++[t],bs++[(tt,os.map (gl ws))],_,_,rfl,((hS.trans S2).trans S3).step hp,?_,?_,?_,?_,?_,?_⟩⟩
       . rw[ac,zU];rfl
       . rw[zP,hpl];rfl
       . rw[zP,hbl];rfl
       . intro j r b hr hb;rw[dZ];by_cases hj:j < i
         . rw[zY (by omega)] at hr hb;exact af.bthAt (af.hide (S2.trans S3)) (hB j r b hr hb)
         . have hj2:j=i:=by
             have:=(List.getElem?_eq_some_iff.mp hr).1;rw[zP,hpl] at this;simp only[zV] at this;omega
           subst hj2;rw[zT (by omega),hpl,AC] at hr;rw[zT (by omega),hbl,AC] at hb;cases hr;cases hb;refine⟨D,?_,?_⟩
           . rw[aW htp];exact ac
           . rw[aW hDp,ai htD];exact ac
       . rw[zU,hT,List.take_add_one,htt];rfl
       . intro b hb
         rcases List.mem_append.mp hb with hb | hb
         . exact hO b hb
         . rw[List.mem_singleton.mp hb];refine⟨by rw[be];exact hosl,fun x hx=>?_⟩;obtain⟨y,hy,rfl⟩:=List.mem_map.mp hx;exact oy (hosr y hy).1 (hosr y hy).2 (by rw[hws.len];omega)
   . rintro σ H' ⟨ps,bs,o8,o9,rfl,hS,hH,hpl,hbl,hB,hT,hO⟩;exact hR _ _ ⟨ps,bs,o8,o9,rfl,hS,hH,hpl,hbl,hB,hT,hO⟩
 rintro σ7 H7 ⟨ps,bs,o8,o9,rfl,hS,hH,hpl,hbl,hB,hT,hO⟩;obtain⟨spare,hsp⟩:∃ x,ws[n]?=some x:=⟨_,zN (by rw[hws.len];omega)⟩;obtain⟨other,hot⟩:∃ x,ts[c]?=some x:=⟨_,zN (by rw[hts.len];omega)⟩;walk_at"";refine⟨_,SqL.of (hS _ _ hH1),fun l hl=>?_⟩;rw[t4 (by rw[hws.len];omega)];have Sl:af H7 (upd H7 l (.lst ((ws.take n).map V.str))):=af.updN hl;refine⟨_,SqL.of (Sl _ _ (hS _ _ hH1)),_,bZ hsp,_,SqL.of (Sl _ _ (hS _ _ hH2)),_,bZ hot,by omega,fun t ht=>?_⟩;have St:=Sl.step (o:=.tup [.ref l,.ref p,.str spare,.str other]) (Sl.free ht)
 have hlt:l≠t:=fun e=>by rw[←e,ac] at ht;cases ht
 have htn:(ts.take c).Nodup:=hts.nd.sublist (Bv _ _);refine q t l p (ws.take n) bs spare other _ ((S5.trans hS).trans St) ac ((S5.trans hS).free hl) (by rw[ai hlt];exact ac) (S5.free hp) ⟨ps,St _ _ hH,by omega,fun j r b hr hb=>af.bthAt (bK.trans St) (hB j r b hr hb)⟩ ⟨?_,?_,?_,?_,?_,?_,?_,?_,?_,?_,?_⟩ hbl ?_ ?_ ?_ ?_
 . rw[Af,hws.len];omega
 . rw[Af,hws.len];omega
 . exact hws.nd.sublist (Bv _ _)
 . exact fun x hx=>(hws.nm x (Bz hx)).good
 . exact fun x hx=>(hws.nm x (Bz hx)).shw
 . omega
 . rw[hT];exact htn
 . intro b hb;exact(hts.nm b.1 (Bz (by rw[←hT];exact Ao hb))).good
 . intro b hb;exact(hts.nm b.1 (Bz (by rw[←hT];exact Ao hb))).shw
 . intro b hb;rw[(hO b hb).1,Af,hws.len];omega
 . exact fun b hb=>(hO b hb).2
 . exact hws.nm _ (zS hsp)
 . exact jC hws.nd hsp
 . exact hts.nm _ (zS hot)
 . rw[hT];exact jC hts.nd hot
theorem gd (k:Str)(ks:List Str) (v:V)(vs:List V):bX (k::ks) (v::vs)=(Sum.inr k,v)::bX ks vs:=rfl
theorem dI:∀ (ks:List Str)(vs:List V) (i:Nat) (k:Str) (v:V),ks.Nodup→ks[i]?=some k→vs[i]?=some v→bG (bX ks vs) (Sum.inr k)=some v
 | [],_,_,_,_,_,h,_=>by simp at h
 | _::_,[],_,_,_,_,_,h=>by simp at h
 | k0::ks,v0::vs,0,k,v,hd,h1,h2=>by
   cases h1;cases h2;rw[gd];exact cr rfl
 | k0::ks,v0::vs,i+1,k,v,hd,h1,h2=>by
   have h1':ks[i]?=some k:=h1;have h2':vs[i]?=some v:=h2;have hm:k∈ks:=zS h1';have hne:k0≠k:=fun e=>(List.nodup_cons.mp hd).1 (by rw[e];exact hm);rw[gd,cb (fun e=>hne (Sum.inr.inj e))];exact dI ks vs i k v (List.nodup_cons.mp hd).2 h1' h2'
theorem bU:∀ (ks:List Str)(vs:List V) (k:Str),k∉ks→bG (bX ks vs) (Sum.inr k)=none
 | [],_,_,_=>rfl
 | _::_,[],_,_=>rfl
 | k0::ks,v0::vs,k,h=>by
   rw[gd,cb (fun e=>h (by rw[←Sum.inr.inj e];exact zZ))];exact bU ks vs k (fun hm=>h (z7 _ hm))
theorem eV {ks:List Str}{vs:List V} (k:Str) (v:V)(h:ks.length=vs.length):bX (ks++[k]) (vs++[v])=bX ks vs++[(Sum.inr k,v)]:=by
 unfold bX;rw[zU,List.zip_append (by rw[be];exact h)];rfl
theorem fV {ks:List Str}{vs:List V}(h:ks.length=vs.length):(bX ks vs).length=ks.length:=by
 unfold bX;rw[Bu,be,h];simp
theorem lN {ks:List Str}{vs:List V}(h:ks.length=vs.length):(bX ks vs).map (·.1)=ks.map Sum.inr:=by
 unfold bX;rw[List.map_fst_zip (by rw[be];omega)]
def ir (ss:List Str)(b:Str×List Str):List (Key×V):=bX ss (b.2.map V.str)
def ii (H:Hp)(d:Addr)(ss:List Str)(bs:List (Str×List Str)):Prop :=
 ∃ ds:List Addr,Rd H d (.dK (bX (bs.map (·.1)) (ds.map V.ref)))∧ds.length=bs.length∧∀ (i:Nat) r b,ds[i]?=some r→bs[i]?=some b→Rd H r (.dK (ir ss b))
theorem af.rd {H H':Hp}{a:Addr}{o:HO}(S:af H H')(h:Rd H a o):Rd H' a o:=by
 rcases h with h | ⟨u,h⟩
 . exact .inl (S _ _ h)
 . exact .inr ⟨u,S _ _ h⟩
theorem af.tabs {H H':Hp}{d:Addr}{ss:List Str}{bs:List (Str×List Str)}(S:af H H')(h:ii H d ss bs):ii H' d ss bs:=by
 obtain⟨ds,h1,h2,h3⟩:=h;exact⟨ds,af.rd S h1,h2,fun i r b hr hb=>af.rd S (h3 i r b hr hb)⟩
theorem bu {α:Type}{l:List α}{i:Nat}{x:α}(h:l[i]?=some x):l.take (i+1)=l.take i++[x]:=by rw[List.take_add_one,h];rfl
theorem eF {l:List Str}{i:Nat}{x:Str}(hd:l.Nodup)(h:l[i]?=some x):x∉l.take i:=jC hd h
theorem fL:aw ["_law_shades", "_law_baths", "_law_tables_here", "_law_title", "_law_outs", "_law_k"] ["_law_shades", "_law_baths"] (ao mU):=sM
structure uv (mg:Str→Option Value):Prop where
 mostS:∃ t,mg "MOST_SHADES"=some (.int 12 t)
 mostB:∃ t,mg "MOST_BATHS"=some (.int 8 t)
theorem rL:∀ (l acc:List Str),(acc++l).Nodup→l.foldl d7 acc=acc++l
 | [],acc,_=>by simp
 | x::l,acc,h=>by
   have hx:x∉acc:=fun hm=>(List.nodup_append.mp h).2.2 x hm x zZ rfl
   have e:d7 acc x=acc++[x]:=by unfold d7;rw[if_neg hx]
   rw[BF,e,rL l (acc++[x]) (by rw[Bj];exact h),Bj];rfl
theorem si {l:List Str}(h:l.Nodup):dP l=l:=by unfold dP;rw[rL l [] h];rfl
theorem t6 {z:Str}(h:a9 z=true):z.length≤8:=by
 unfold a9 at h;rw[Bool.and_eq_true,Bool.and_eq_true] at h;exact of_decide_eq_true h.1.2
def ke (K:PySem.W.Frag):Sp:=fun vs H Q _=>∃ (l:Addr)(ws:List Str),vs=[.ref l]∧SqL K H l (ws.map V.str)∧ws.length≤100∧ws.Nodup∧(∀ x∈ws,a9 x=true)∧∀ H',af H H'→Q .non H'
theorem gT:aw ["texts", "text"] ["texts"] (ao jo):=sM
theorem sH {f fG:Addr}{fd fdG:FuncData}(F:Fun K "check_names" "check_names" jo f fd)(T:Txt mg)(GG:Cl P w K mg base CX0 1 "good_name" ["text"] nr fG fdG) :
   aU P w K mg base CX0 2 f fd ["texts"] (ke K):=by
 refine oq F gT fun cdv A outer s H vs Q E hr h=>?_;obtain⟨l,ws,rfl,hl,hlen,hnd,hnm,q⟩:=h
 refine⟨_,aL (bC PassesOwn.never rfl (a8 (pv 0)) (pN 1 gT.nd)
     (ah (aB (bV (bE (pC GG hr az (aa (pv 1) ae)))) cC am)))
   (ah (aB (ap i6 (al lZ (by rfl) T.len zX (aa (cu (oK rfl) (by rfl) T.set (by decide) (aa (pv 0) ae)) ae)) (al av (by rfl) T.len zX (aa (pv 0) ae)) (ax _)) cC am)),?_⟩
 try dsimp only[aC,aM]
 have hs:=aK;walk_at"";refine⟨⟨_,hl⟩,?_⟩;refine bg (H0:=H) (aG hl) (fun i σ' H'=>∃ o,σ'=[some (.ref l),o]∧af H H') ⟨none,rfl,af.refl H⟩ (fun _ _ _ _ ⟨_,_,h⟩=>h) ?_ ?_
 . rintro i x σ H' hi hx ⟨o,rfl,hS⟩;rw[zO] at hx;obtain⟨z,hz,rfl⟩:=Option.map_eq_some_iff.mp hx;have hzm:=hnm z (zS hz);have h8:=t6 hzm;walk_at"";refine⟨z,rfl,by omega,fun H2 S2=>?_⟩;rw[hzm];exact⟨_,rfl,hS.trans S2⟩
 . rintro σ H' ⟨o,rfl,hS⟩;walk_at"";refine⟨_,hS.seq hl,by omega,fun p hp=>⟨_,ac,_,.inl ((hS.step (hS.free hp)).seq hl),rfl,?_⟩⟩;rw[be,si hnd];refine ay (fun h=>absurd rfl h) (fun _=>q _ (hS.step (hS.free hp)))
def lj (K:PySem.W.Frag):Sp:=fun vs H Q _=>∃ (l:Addr)(ws:List Str),vs=[.ref l]∧SqL K H l (ws.map V.str)∧1≤ws.length∧ws.length≤12∧ws.Nodup∧(∀ x∈ws,a9 x=true)∧∀ H',af H H'→Q .non H'
theorem lh:aw ["shades"] ["shades"] (ao ik):=sM
theorem pH {f fG:Addr}{fd fdG:FuncData}(F:Fun K "check_shades" "check_shades" ik f fd)(T:Txt mg)(TB:uv mg)(GG:Cl P w K mg base CX0 2 "check_names" ["texts"] (ke K) fG fdG) :
   aU P w K mg base CX0 3 f fd ["shades"] (lj K):=by
 refine oq F lh fun cdv A outer s H vs Q E hr h=>?_;obtain⟨l,ws,rfl,hl,hlen1,hlen,hnd,hnm,q⟩:=h;obtain⟨tg,hms⟩:=TB.mostS
 refine⟨_,aL (aB (ap cY (al av (by rfl) T.len zX (aa (pv 0) ae)) ag (ax _)) cC am)
   (aL (aB (ap fw (al av (by rfl) T.len zX (aa (pv 0) ae)) (bc (v:=.int 12) rfl hms ⟨_,rfl⟩) (ax _)) cC am)
   (ah (aP (pC GG hr az (aa (pv 0) ae))))),?_⟩
 try dsimp only[aC,aM]
 have hs:=aK;walk_at"";refine⟨_,.inl hl,?_⟩;rw[be];refine ay (fun h=>absurd h (by omega)) (fun _=>⟨_,.inl hl,?_⟩);rw[be];refine ay (fun h=>absurd h (by omega)) (fun _=>⟨l,ws,rfl,hl,by omega,hnd,hnm,q⟩)
def se (K:PySem.W.Frag):Sp:=fun vs H Q _=>∃ (l lo:Addr)(ss os:List Str),vs=[.ref l,.ref lo]∧SqL K H l (ss.map V.str)∧SqL K H lo (os.map V.str)∧os.length=ss.length∧ss.length≤100∧(∀ x∈os,x∈ss)∧∀ H',af H H'→Q .non H'
theorem jy:aw ["shades", "outs", "shade"] ["shades", "outs"] (ao me):=sM
theorem vy {f:Addr}{fd:FuncData}(F:Fun K "check_outs" "check_outs" me f fd)(T:Txt mg) :
   aU P w K mg base CX0 1 f fd ["shades", "outs"] (se K):=by
 refine oq F jy fun cdv A outer s H vs Q E hr h=>?_;obtain⟨l,lo,ss,os,rfl,hl,hlo,hlen,hlen2,hin,q⟩:=h
 refine⟨_,aL (aB (ap i6 (al av (by rfl) T.len zX (aa (pv 1) ae)) (al av (by rfl) T.len zX (aa (pv 0) ae)) (ax _)) cC am)
   (ah (bC PassesOwn.never rfl (a8 (pv 1)) (pN 2 jy.nd)
     (ah (aB (ap cD (pv 2) (pv 0) (by with_unfolding_all rfl)) cC am)))),?_⟩
 try dsimp only[aC,aM]
 have hs:=aK;walk_at"";refine⟨_,.inl hlo,_,.inl hl,rfl,?_⟩;rw[be,be];refine ay (fun h=>absurd (by rw[hlen]) h) (fun _=>⟨⟨_,hlo⟩,?_⟩);refine bg (H0:=H) (aG hlo) (fun i σ' H'=>∃ o,σ'=[some (.ref l),some (.ref lo),o]∧H'=H) ⟨none,rfl,rfl⟩ (fun _ _ _ _ ⟨_,_,h⟩=>by rw[h];exact af.refl _) ?_ ?_
 . rintro i x σ H' hi hx ⟨o,rfl,rfl⟩;rw[zO] at hx;obtain⟨z,hz,rfl⟩:=Option.map_eq_some_iff.mp hx;walk_at"";refine⟨_,.inl hl,rfl,cR ss,?_⟩;rw[cZ,decide_eq_true (hin z (zS hz))];exact⟨_,rfl⟩
 . rintro σ H' ⟨o,rfl,rfl⟩;exact q _ (af.refl _)
def oG (K:PySem.W.Frag):Sp:=fun vs H Q _=>∃ (l lb:Addr)(ss:List Str)(bs:List (Str×List Str)),vs=[.ref l,.ref lb]∧SqL K H l (ss.map V.str)∧gN H lb bs∧aN ss bs∧∀ H',af H H'→Q .non H'
theorem eK:aw ["shades", "baths", "name", "outs"] ["shades", "baths"] (ao js):=sM
theorem sS {f fG fO:Addr}{fd fdG fdO:FuncData}(F:Fun K "check_baths" "check_baths" js f fd)(T:Txt mg)(TB:uv mg)(GG:Cl P w K mg base CX0 2 "check_names" ["texts"] (ke K) fG fdG)
   (GO:Cl P w K mg base CX0 1 "check_outs" ["shades", "outs"] (se K) fO fdO) :
   aU P w K mg base CX0 3 f fd ["shades", "baths"] (oG K):=by
 refine oq F eK fun cdv A outer s H vs Q E hr h=>?_;obtain⟨l,lb,ss,bs,rfl,hl,⟨ps,hlb,hpl,hB⟩,B,q⟩:=h;obtain⟨tg,hms⟩:=TB.mostB;have hr1:=hr.mono (j:=1) (by omega)
 refine⟨_,aL (aB (ap fw (al av (by rfl) T.len zX (aa (pv 1) ae)) (bc (v:=.int 8) rfl hms ⟨_,rfl⟩) (ax _)) cC am)
   (aj (aP (pC GG hr az (aa (fk (N':=["name", "outs"]) (pk:=[none,none]) rfl (bW.of (by rfl)) (a8 (pv 1)) (fun s H ex=>(cz (n:=2) rfl (aE (pN 0 (by show(["name", "outs"]:List Str).Nodup;decide)) (aE (pN 1 (by show(["name", "outs"]:List Str).Nodup;decide)) bS)):PG _ _ (kD K 2 (bN (bx 0) (bN (bx 1) iC)))))
       (fun s H ex=>pv 0)) ae)))
   (ah (bC PassesOwn.never rfl (a8 (pv 1)) (cz (n:=2) rfl (aE (pN 2 eK.nd) (aE (pN 3 eK.nd) bS)))
     (ah (aP (pC GO hr1 az (aa (pv 0) (aa (pv 3) ae)))))))),?_⟩
 try dsimp only[aC,aM]
 have hs:=aK;walk_at"";have hb8:=B.b8;have hs12:=B.s12;refine⟨_,.inl (SqL.of hlb),?_⟩;rw[be];refine ay (fun h=>absurd h (by omega)) (fun _=>?_);refine cut (fun σ' H'=>σ'=[some (.ref l),some (.ref lb),none,none]∧af H H') ?_ ?_
 . walk_at"";refine⟨⟨_,SqL.of hlb⟩,fun D hD=>?_⟩;refine cG (aG (SqL.of hlb)) (by rw[be];omega) hD (fun σ=>∃ o1 o2,σ=[o1,o2]) (fun k=>V.str (bs.getD k (⟨#[]⟩,[])).1) ⟨none,none,rfl⟩ ?_ ?_
   . rintro k x σ' H3 hk hx ⟨o1,o2,rfl⟩ hS3 R hR;rw[zO] at hx;obtain⟨y,hy,rfl⟩:=Option.map_eq_some_iff.mp hx;obtain⟨b,hb⟩:∃ b,bs[k]?=some b:=⟨_,zN (by rw[be] at hk;omega)⟩;obtain⟨lo,ht,hlo⟩:=hB k y b hy hb;refine dY (hS3 _ _ ht) ?_;walk_at""
     have e:(bs.getD k (⟨#[]⟩,[]))=b:=by rw[zQ,hb];rfl
     have:=hR [some (V.str b.1),some (V.ref lo)] ⟨_,_,rfl⟩;rw[e] at this;exact this
   . have e:(zW (ps.map V.ref).length).map (fun k=>V.str (bs.getD k (⟨#[]⟩,[])).1)=(bs.map (·.1)).map V.str:=by
       rw[Av];refine cF _ bs _ _ (by rw[be,hpl]) fun k x hx=>?_;rw[zQ,hx];rfl
     rw[e];refine⟨D,bs.map (·.1),rfl,SqL.of ac,by rw[be];omega,B.bnd,fun x hx=>?_,fun H' S'=>(af.updN hD).trans S'⟩;obtain⟨b,hb,rfl⟩:=List.mem_map.mp hx;exact B.bnm b hb
 rintro σ1 H1 ⟨rfl,S1⟩;walk_at"";refine⟨⟨_,SqL.of (S1 _ _ hlb)⟩,?_⟩;refine bg (H0:=H) (aG (SqL.of hlb)) (fun i σ' H'=>∃ o2 o3,σ'=[some (.ref l),some (.ref lb),o2,o3]∧af H H') ⟨none,none,rfl,S1⟩ (fun _ _ _ _ ⟨_,_,_,h⟩=>h) ?_ ?_
 . rintro i x σ H' hi hx ⟨o2,o3,rfl,hS⟩;rw[zO] at hx;obtain⟨y,hy,rfl⟩:=Option.map_eq_some_iff.mp hx;obtain⟨b,hb⟩:∃ b,bs[i]?=some b:=⟨_,zN (by rw[be] at hi;omega)⟩;obtain⟨lo,ht,hlo⟩:=hB i y b hy hb;have hbm:b∈bs:=zS hb;refine dY (hS _ _ ht) ?_;walk_at"";exact⟨l,lo,ss,b.2,rfl,hS.seq hl,SqL.of (hS _ _ hlo),B.bln b hbm,by omega,B.bin b hbm,fun H2 S2=>hS.trans S2⟩
 . rintro σ H' ⟨o2,o3,rfl,hS⟩;exact q _ hS
def bv (H:Hp)(C x:Addr)(ss:List Str)(bs:List (Str×List Str)):Prop :=
 ∃ (dx t d:Addr)(so:List Str),H x=some (.ins C dx [("order",.ref t),("tables",.ref d)])∧H t=some (.tup (so.map V.str))∧so.Perm ss∧Aq so=true∧ii H d ss bs
theorem af.book {H H':Hp}{C x:Addr}{ss:List Str}{bs:List (Str×List Str)}(S:af H H')(h:bv H C x ss bs):bv H' C x ss bs:=by
 obtain⟨dx,t,d,so,h1,h2,h3,h4,h5⟩:=h;exact⟨dx,t,d,so,S _ _ h1,S _ _ h2,h3,h4,af.tabs S h5⟩
theorem rT {H:Hp}{x C dx l:Addr}{fs:List (Str×V)}{xs:List V}(hx:H x=some (.ins C dx fs))(h:SqL K H l xs):SqL K (hide H x) l xs:=by
 rcases h with (h | ⟨o,h⟩) | h
 . exact .inl (.inl (by rw[aW (fun e=>by rw[e,hx] at h;cases h)];exact h))
 . exact .inl (.inr ⟨o,by rw[aW (fun e=>by rw[e,hx] at h;cases h)];exact h⟩)
 . exact .inr h
theorem lF {H:Hp}{x C dx lb:Addr}{fs:List (Str×V)}{bs:List (Str×List Str)}(hx:H x=some (.ins C dx fs))(h:gN H lb bs):gN (hide H x) lb bs:=by
 obtain⟨ps,h1,h2,h3⟩:=h;refine⟨ps,by rw[aW (fun e=>by rw[e,hx] at h1;cases h1)];exact h1,h2,fun i p b hp hb=>?_⟩;obtain⟨o,e1,e2⟩:=h3 i p b hp hb;exact⟨o,by rw[aW (fun e=>by rw[e,hx] at e1;cases e1)];exact e1,by rw[aW (fun e=>by rw[e,hx] at e2;cases e2)];exact e2⟩
theorem kI {u:V}:cK (zM "order") u []=[(zM "order",u)]:=rfl
theorem jg {u v:V}:cK (zM "tables") v [(zM "order",u)]=[(zM "order",u),(zM "tables",v)]:=by
 unfold cK;rw[if_neg (by decide)];rfl
theorem f9 {u v:V}:Aj (zM "order") [(zM "order",u),(zM "tables",v)]=some u:=by
 rw[Al,show(zM "order"==zM "order")=true by decide]
theorem cQ {u v:V}:Aj (zM "tables") [(zM "order",u),(zM "tables",v)]=some v:=by
 rw[Al,show(zM "tables"==zM "order")=false by decide];show Aj _ [(zM "tables",v)]=some v;rw[Al,show(zM "tables"==zM "tables")=true by decide]
theorem lC:∀ (ks:List Str)(vs:List V)(acc:List (Key×V)),ks.Nodup→(∀ k∈ks,bG acc (Sum.inr k)=none)→cP acc (bX ks vs)=acc++bX ks vs
 | [],vs,acc,_,_=>by
   show cP acc []=acc++[];rw[AO];rfl
 | k::ks,[],acc,_,_=>by
   show cP acc []=acc++[];rw[AO];rfl
 | k::ks,v::vs,acc,hd,hn=>by
   rw[gd];show cP (dt acc (Sum.inr k) v) (bX ks vs)=_;rw[da _ (hn k zZ),lC ks vs _ (List.nodup_cons.mp hd).2 (fun y hy=>?_),Bj]
   . rfl
   . have hne:¬(Sum.inr y:Key)=Sum.inr k:=fun e=>(List.nodup_cons.mp hd).1 (by rw[←Sum.inr.inj e];exact hy);rw[iH _ _ _ _ (hn k zZ),if_neg hne];exact hn y (z7 _ hy)
theorem jP {ks:List Str}{vs:List V}(h:ks.Nodup):cP [] (bX ks vs)=bX ks vs:=by
 rw[lC ks vs [] h (fun _ _=>rfl)];rfl
def xN (K:PySem.W.Frag)(C:Addr):Sp:=fun vs H Q _=>∃ (x dx l lb:Addr)(ss:List Str)(bs:List (Str×List Str)),vs=[.ref x,.ref l,.ref lb]∧H x=some (.ins C dx [])∧SqL K H l (ss.map V.str)∧gN H lb bs∧aN ss bs ∧
 ∀ H',af (hide H x) H'→bv H' C x ss bs→Q .non H'
theorem iP:aw ["self", "shades", "baths", "name", "outs"] ["self", "shades", "baths"] (ao ra):=sM
theorem eA {A:Around}{k:Nat}(hr:cL k A):A.units+1 < cLine:=B9 (Nat.add_le_add_left (by decide:1≤64) _) hr.units
theorem wu {C f fS fB:Addr}{fd fdS fdB:FuncData}(F:Fun K "__init__" "Book.__init__" ra f fd)(T:Txt mg)(c:Cls K C)(nO:NoAttr K C "order")(nT:NoAttr K C "tables")
   (GS:Cl P w K mg base CX0 3 "check_shades" ["shades"] (lj K) fS fdS)
   (GB:Cl P w K mg base CX0 3 "check_baths" ["shades", "baths"] (oG K) fB fdB) :
   aU P w K mg base CX0 4 f fd ["self", "shades", "baths"] (xN K C):=by
 refine oq F iP fun cdv A outer s H vs Q E hr h=>?_;obtain⟨x,dx,l,lb,ss,bs,rfl,hx,hl,hb,B,q⟩:=h;have hu:=eA hr
 refine⟨_,aj (aP (pC GS hr az (aa (pv 1) ae)))
   (aj (aP (pC GB hr az (aa (pv 1) (aa (pv 2) ae))))
   (aj (eD (pv 0) (cu gu (by rfl) T.tuple (by decide) (aa (al fb (by rfl) T.sorted (by decide) (aa (pv 1) ae)) ae)) rfl)
   (aj (eD (pv 0) ed rfl)
   (ah (bC PassesOwn.never rfl (a8 (pv 2)) (cz (n:=2) rfl (aE (pN 3 iP.nd) (aE (pN 4 iP.nd) bS)))
     (ah (dE hu (bB (pv 0) rfl) (pv 3) (kx rfl (by rfl) T.dict (by rfl) T.zip (aa (pv 1) (aa (pv 4) ae))) rfl))))))),?_⟩
 try dsimp only[aC,aM]
 have hs:=aK;have hl0:=rT hx hl;have hb0:=lF hx hb;generalize hH0:hide H x=H0 at hl0 hb0 q
 have SH:af H0 H:=by rw[←hH0];exact bK
 have hx0:H0 x=none:=by rw[←hH0];unfold hide;rw[if_pos rfl]
 refine cut (fun σ' H'=>σ'=[some (.ref x),some (.ref l),some (.ref lb),none,none]∧af H H') ?_ ?_
 . walk_at"";exact⟨l,ss,rfl,hl,B.s1,B.s12,B.snd,B.snm,fun H' S'=>S'⟩
 rintro σ1 H1 ⟨rfl,S1⟩;refine cut (fun σ' H'=>σ'=[some (.ref x),some (.ref l),some (.ref lb),none,none]∧af H H') ?_ ?_
 . walk_at"";exact⟨l,lb,ss,bs,rfl,S1.seq hl,af.bths S1 hb,B,fun H' S'=>S1.trans S'⟩
 rintro σ2 H2 ⟨rfl,S2⟩;have hs12:=B.s12;refine cut (fun σ' H'=>∃ t so,σ'=[some (.ref x),some (.ref l),some (.ref lb),none,none]∧af H0 H'∧H' x=some (.ins C dx [("order",.ref t)])∧H' t=some (.tup (so.map V.str))∧so.Perm ss∧Aq so=true) ?_ ?_
 . walk_at"";have S02:af H0 H2:=SH.trans S2;have hx2:=S2 _ _ hx;refine⟨ss,S2.seq hl,by omega,fun p so hp hpm hso=>⟨_,.inl ⟨SqL.of ac,fun t ht=>?_⟩⟩⟩
   have hxp:x≠p:=fun e=>by rw[←e,hx2] at hp;cases hp
   have ht2:H2 t=none:=(af.updN hp).free ht
   have hxt:x≠t:=fun e=>by rw[←e,hx2] at ht2;cases ht2
   refine⟨C,dx,[],by rw[ai hxt,ai hxp];exact hx2,c,nO,by decide,((S02.step (S02.free hp)).step (S02.free ht2)).step hx0,t,by rw[ac,kI],so,?_,hpm,hso⟩;rw[ai (Ne.symm hxt)];exact ac
 rintro σ3 H3 ⟨t,so,rfl,S3,hx3,ht3,hpm,hso⟩;refine cut (fun σ' H'=>∃ d,σ'=[some (.ref x),some (.ref l),some (.ref lb),none,none]∧H3 d=none∧H'=upd (upd H3 d (.dK [])) x (.ins C dx [("order",.ref t),("tables",.ref d)])) ?_ ?_
 . walk_at"";intro d hd
   have hxd:x≠d:=fun e=>by rw[←e,hx3] at hd;cases hd
   exact⟨C,dx,_,by rw[ai hxd];exact hx3,c,nT,by rw[zV];decide,d,hd,by rw[jg]⟩
 rintro σ4 H4 ⟨d,rfl,hd3,rfl⟩
 have hxd:x≠d:=fun e=>by rw[←e,hx3] at hd3;cases hd3
 have htx:t≠x:=fun e=>by rw[e,hx3] at ht3;cases ht3
 have htd:t≠d:=fun e=>by rw[←e,ht3] at hd3;cases hd3
 have hd0:H0 d=none:=S3.free hd3;obtain⟨ps,hlb,hpl,hB⟩:=hb0;have hb8:=B.b8;have S4:af H0 (upd (upd H3 d (.dK [])) x (.ins C dx [("order",.ref t),("tables",.ref d)])):=(S3.step hd0).step hx0;walk_at"";refine⟨⟨_,SqL.of (S4 _ _ hlb)⟩,?_⟩
 refine bg (H0:=H0) (aG (SqL.of hlb)) (fun i σ' H'=>∃ (ds:List Addr)(o3 o4:Option V),σ'=[some (.ref x),some (.ref l),some (.ref lb),o3,o4]∧af H0 H'∧H' x=some (.ins C dx [("order",.ref t),("tables",.ref d)])∧H' t=some (.tup (so.map V.str)) ∧
   H' d=some (.dK (bX ((bs.map (·.1)).take i) (ds.map V.ref)))∧ds.length=i∧∀ (j:Nat) r b,ds[j]?=some r→bs[j]?=some b→hide H' d r=some (.dK (ir ss b)))
   ⟨[],none,none,rfl,S4,ac,(by rw[ai htx,ai htd];exact ht3),(by rw[ai (Ne.symm hxd)];exact ac),rfl,(by intro j r b h;simp at h)⟩ (fun _ _ _ _ ⟨_,_,_,_,h,_⟩=>h) ?_ ?_
 . rintro i y σ H' hi hy ⟨ds,o3,o4,rfl,hS,hHx,hHt,hHd,hdl,hD⟩;rw[zO] at hy;obtain⟨pr,hpr,rfl⟩:=Option.map_eq_some_iff.mp hy;rw[be,hpl] at hi;obtain⟨b,hb⟩:∃ b,bs[i]?=some b:=⟨_,zN hi⟩;obtain⟨lo,ht,hlo⟩:=hB i pr b hpr hb;have hbm:b∈bs:=zS hb
   have hk:(bs.map (·.1))[i]?=some b.1:=by rw[zO,hb];rfl
   have hnk:b.1∉(bs.map (·.1)).take i:=eF B.bnd hk
   have hln:((bs.map (·.1)).take i).length=(ds.map V.ref).length:=by rw[Af,be,be,hdl];omega
   have hbl:b.2.length=ss.length:=B.bln b hbm;refine dY (hS _ _ ht) ?_;walk_at"";refine⟨ss,hS.seq hl0,_,SqL.of (hS _ _ hlo),by rw[be];exact hbl.symm,by omega,fun r hr=>?_⟩;rw[jP B.snd]
   have hxr:x≠r:=fun e=>by rw[←e,hHx] at hr;cases hr
   have htr:t≠r:=fun e=>by rw[←e,hHt] at hr;cases hr
   have hrd:r≠d:=fun e=>by rw[e,hHd] at hr;cases hr
   refine⟨C,dx,_,by rw[ai hxr];exact hHx,c,nT,_,cQ,d,rfl,_,.inl ⟨_,Sum.inr b.1,by rw[ai (Ne.symm hrd)];exact hHd,rfl,by rw[fV hln,Af];omega,rfl⟩,(hS.step (hS.free hr)).step hd0,by rw[ai hxd,ai hxr];exact hHx,by rw[ai htd,ai htr];exact hHt,ds++[r],?_,by rw[zP,hdl];rfl,fun j r2 b2 hr2 hb2=>?_⟩
   . rw[ac,da _ (bU _ _ _ hnk),bu hk,zU];exact congrArg (fun z=>some (HO.dK z)) (eV b.1 (V.ref r) hln).symm
   . rw[dZ];by_cases hj:j < i
     . rw[zY (by omega)] at hr2;exact af.hide (af.updN hr) _ _ (hD j r2 b2 hr2 hb2)
     . have hj2:j=i:=by
         have:=(List.getElem?_eq_some_iff.mp hr2).1;rw[zP,hdl] at this;simp only[zV] at this;omega
       subst hj2;rw[zT (by omega),hdl,AC] at hr2;cases hr2;rw[hb] at hb2;cases hb2;rw[aW hrd,ac];rfl
 . rintro σ H' ⟨ds,o3,o4,rfl,hS,hHx,hHt,hHd,hdl,hD⟩;rw[be,hpl] at hHd hdl;refine q H' hS ⟨dx,t,d,so,hHx,hHt,hpm,hso,ds,.inl ?_,hdl,fun j r b hr hb=>.inl (bK _ _ (hD j r b hr hb))⟩;rw[hHd,AH (by rw[be];exact zR _)]
def lkV (ss:List Str)(b:Str×List Str) (z:Str):Str:=match bG (ir ss b) (Sum.inr z) with
 | some (.str y)=>y
 | _=>⟨#[]⟩
theorem mK {ss:List Str}{b:Str×List Str}{z:Str}(hd:ss.Nodup)(hl:b.2.length=ss.length)(hz:z∈ss):bG (ir ss b) (Sum.inr z)=some (V.str (lkV ss b z)):=by
 obtain⟨i,hi⟩:=AJ hz
 have hil:i < b.2.length:=by rw[hl];exact(List.getElem?_eq_some_iff.mp hi).1
 have e:bG (ir ss b) (Sum.inr z)=some (V.str b.2[i]):=dI ss (b.2.map V.str) i z _ hd hi (by rw[zO,zN hil];rfl);unfold lkV;rw[e]
theorem ii.get {H:Hp}{d:Addr}{ss:List Str}{bs:List (Str×List Str)}(B:aN ss bs)(h:ii H d ss bs){b:Str×List Str}(hb:b∈bs):∃ r,kY H d (.str b.1) (some (.ref r))∧Rd H r (.dK (ir ss b)):=by
 obtain⟨ds,h1,h2,h3⟩:=h;obtain⟨i,hi⟩:=AJ hb
 have hil:i < ds.length:=by rw[h2];exact(List.getElem?_eq_some_iff.mp hi).1
 have hr:=zN hil;refine⟨ds[i],.inl ⟨_,Sum.inr b.1,h1,rfl,?_⟩,h3 i _ b hr hi⟩;exact(dI _ _ i _ _ B.bnd (by rw[zO,hi];rfl) (by rw[zO,hr];rfl)).symm
theorem bO {m:Str}{u v:V}(h1:(m==zM "order")=false)(h2:(m==zM "tables")=false):Aj m [(zM "order",u),(zM "tables",v)]=none:=by
 rw[Al,h1];show Aj m [(zM "tables",v)]=none;rw[Al,h2];rfl
def kB (C:Addr):Sp:=fun vs H Q _=>∃ (x:Addr)(ss:List Str)(bs:List (Str×List Str))(b:Str×List Str),vs=[.ref x,.str b.1]∧bv H C x ss bs∧aN ss bs∧b∈bs∧Q .non H
theorem nH:aw ["self", "bath"] ["self", "bath"] (ao jp):=sM
theorem tq {C f:Addr}{fd:FuncData}(F:Fun K "check_bath" "Book.check_bath" jp f fd)(c:Cls K C)(nT:NoAttr K C "tables"):aU P w K mg base CX0 1 f fd ["self", "bath"] (kB C):=by
 refine oq F nH fun cdv A outer s H vs Q E hr h=>?_;obtain⟨x,ss,bs,b,rfl,⟨dx,t,d,so,h1,h2,h3,h4,h5⟩,B,hb,q⟩:=h;have hu:=eA hr;refine⟨_,ah (aB (fc (dA hu (pv 1) (bB (pv 0) rfl))) cC am),?_⟩
 try dsimp only[aC,aM]
 obtain⟨r,hg,hr⟩:=ii.get B h5 hb;walk_at"";exact⟨C,dx,_,h1,c,nT,_,cQ,d,rfl,_,hg,q⟩
def iX (C:Addr):Sp:=fun vs H Q _=>∃ (x:Addr)(ss:List Str)(bs:List (Str×List Str)),vs=[.ref x]∧bv H C x ss bs∧aN ss bs∧∀ l so,H l=none→so.Perm ss→Aq so=true→Q (.ref l) (upd H l (.lst (so.map V.str)))
theorem tH:aw ["self"] ["self"] (ao jG):=sM
theorem pD {C f:Addr}{fd:FuncData}(F:Fun K "shades" "Book.shades" jG f fd)(T:Txt mg)(c:Cls K C)(nO:NoAttr K C "order"):aU P w K mg base CX0 1 f fd ["self"] (iX C):=by
 refine oq F tH fun cdv A outer s H vs Q E hr h=>?_;obtain⟨x,ss,bs,rfl,⟨dx,t,d,so,h1,h2,h3,h4,h5⟩,B,q⟩:=h;refine⟨_,ah (aq (cu dU (by rfl) T.list (by decide) (aa (bB (pv 0) rfl) ae))),?_⟩
 try dsimp only[aC,aM]
 walk_at"";exact⟨C,dx,_,h1,c,nO,_,f9,t,rfl,_,.inr (SqT.of h2),fun l hl=>q l so hl h3 h4⟩
def kh (C:Addr):Sp:=fun vs H Q _=>∃ (x:Addr)(ss:List Str)(bs:List (Str×List Str)),vs=[.ref x]∧bv H C x ss bs∧aN ss bs∧∀ l ns,H l=none→ns.Perm (bs.map (·.1))→Aq ns=true→Q (.ref l) (upd H l (.lst (ns.map V.str)))
theorem vW:aw ["self"] ["self"] (ao mf):=sM
theorem sU {C f:Addr}{fd:FuncData}(F:Fun K "baths" "Book.baths" mf f fd)(T:Txt mg)(c:Cls K C)(nT:NoAttr K C "tables"):aU P w K mg base CX0 1 f fd ["self"] (kh C):=by
 refine oq F vW fun cdv A outer s H vs Q E hr h=>?_;obtain⟨x,ss,bs,rfl,⟨dx,t,d,so,h1,h2,h3,h4,ds,h5,h6,h7⟩,B,q⟩:=h;have hb8:=B.b8;refine⟨_,ah (aq (al (dS rfl) (by rfl) T.sorted (by decide) (aa (bB (pv 0) rfl) ae))),?_⟩
 try dsimp only[aC,aM]
 walk_at"";refine⟨C,dx,_,h1,c,nT,_,cQ,d,rfl,bs.map (·.1),_,h5,lN (by rw[be,be,h6]),by rw[be];omega,fun l ns hl hp hs=>q l ns hl hp hs⟩
def jZ (C:Addr):Sp:=fun vs H Q _=>∃ (x:Addr)(ss:List Str)(bs:List (Str×List Str))(b:Str×List Str),vs=[.ref x,.str b.1]∧bv H C x ss bs∧aN ss bs∧b∈bs ∧
 ∀ l so,H l=none→so.Perm ss→Aq so=true→Q (.ref l) (upd H l (.lst ((so.map (lkV ss b)).map V.str)))
theorem uZ:aw ["self", "bath"] ["self", "bath"] (ao my):=sM
theorem sW {C f fC:Addr}{fd fdC:FuncData}(F:Fun K "table" "Book.table" my f fd)(c:Cls K C)(nO:NoAttr K C "order")(nT:NoAttr K C "tables")
   (GC:Cm P w K mg base CX0 1 C "check_bath" ["self", "bath"] (kB C) fC fdC):aU P w K mg base CX0 2 f fd ["self", "bath"] (jZ C):=by
 refine oq F uZ fun cdv A outer s H vs Q E hr h=>?_;obtain⟨x,ss,bs,b,rfl,hbk,B,hb,q⟩:=h;have hu:=eA hr
 refine⟨_,aL (aP (pM (pv 0) c GC hr az (aa (pv 1) ae)))
   (ah (aq (fk (N':=["shade", "self", "bath"]) (pk:=[none,some 0,some 1]) rfl (bW.of (by rfl)) (xE (bB (pv 0) rfl)) (fun s H ex=>pN 0 (by show(["shade", "self", "bath"]:List Str).Nodup;decide))
       (fun s H ex=>cv hu (cv hu ((bB (pv 1) rfl):PE _ _ (xb K (kP 1) "tables")) (pv 2) (fun _ _=>rfl)) (pv 0) (fun _ _=>rfl))))),?_⟩
 try dsimp only[aC,aM]
 obtain⟨dx,t,d,so,h1,h2,h3,h4,h5⟩:=hbk;have hs:=aK;walk_at"";refine⟨dx,_,h1,bO (by decide) (by decide),x,ss,bs,b,rfl,⟨dx,t,d,so,h1,h2,h3,h4,h5⟩,B,hb,C,dx,_,h1,c,nO,_,f9,t,rfl,⟨_,SqT.of h2⟩,fun D hD=>?_⟩;have hsl:so.length=ss.length:=h3.length_eq;have hs12:=B.s12;refine cG (qo (SqT.of h2)) (by rw[be];omega) hD (fun σ=>∃ o,σ=[o,some (.ref x),some (.str b.1)]) (fun k=>V.str (lkV ss b (so.getD k ⟨#[]⟩))) ⟨none,rfl⟩ ?_ ?_
 . rintro k y σ' H3 hk hy ⟨o,rfl⟩ hS3 R hR;rw[zO] at hy;obtain⟨z,hz,rfl⟩:=Option.map_eq_some_iff.mp hy;have hzs:z∈ss:=h3.mem_iff.mp (zS hz);obtain⟨r,hg,hr⟩:=ii.get B (af.tabs hS3 h5) hb;walk_at"";refine⟨C,dx,_,hS3 _ _ h1,c,nT,_,cQ,d,rfl,_,hg,r,rfl,V.str (lkV ss b z),.inl ⟨_,Sum.inr z,hr,rfl,(mK B.snd (B.bln b hb) hzs).symm⟩,?_⟩
   have e:so.getD k ⟨#[]⟩=z:=by rw[zQ,hz];rfl
   have:=hR [some (V.str z),some (V.ref x),some (V.str b.1)] ⟨_,rfl⟩;rw[e] at this;exact this
 . have e:(zW (so.map V.str).length).map (fun k=>V.str (lkV ss b (so.getD k ⟨#[]⟩)))=(so.map (lkV ss b)).map V.str:=by
     rw[Av];refine cF _ so _ _ (by rw[be]) fun k y hy=>?_;rw[zQ,hy];rfl
   rw[e];exact q D so hD h3 h4
def lg (C:Addr):Sp:=fun vs H Q _=>∃ (x:Addr)(ss:List Str)(bs:List (Str×List Str)) (z:Str),vs=[.ref x,.str z]∧bv H C x ss bs∧z∈ss∧Q .non H
theorem lz:aw ["self", "shade"] ["self", "shade"] (ao ia):=sM
theorem pR {C f:Addr}{fd:FuncData}(F:Fun K "check_shade" "Book.check_shade" ia f fd)(c:Cls K C)(nO:NoAttr K C "order"):aU P w K mg base CX0 1 f fd ["self", "shade"] (lg C):=by
 refine oq F lz fun cdv A outer s H vs Q E hr h=>?_;obtain⟨x,ss,bs,z,rfl,⟨dx,t,d,so,h1,h2,h3,h4,h5⟩,hz,q⟩:=h;refine⟨_,ah (aB (ap cD (pv 1) (bB (pv 0) rfl) (by with_unfolding_all rfl)) cC am),?_⟩
 try dsimp only[aC,aM]
 have hzo:z∈so:=h3.mem_iff.mpr hz;walk_at"";refine⟨C,dx,_,h1,c,nO,_,f9,t,rfl,_,.inr (SqT.of h2),rfl,cR so,?_⟩;rw[cZ,decide_eq_true hzo];exact q
def qp (C:Addr):Sp:=fun vs H Q _=>∃ (x:Addr)(ss:List Str)(bs:List (Str×List Str))(b:Str×List Str) (z:Str),vs=[.ref x,.str b.1,.str z]∧bv H C x ss bs∧aN ss bs∧b∈bs∧z∈ss∧Q (.str (lkV ss b z)) H
theorem xJ:aw ["self", "bath", "shade"] ["self", "bath", "shade"] (ao vD):=sM
theorem w6 {C f fC fS:Addr}{fd fdC fdS:FuncData}(F:Fun K "out" "Book.out" vD f fd)(c:Cls K C)(nT:NoAttr K C "tables")
   (GC:Cm P w K mg base CX0 1 C "check_bath" ["self", "bath"] (kB C) fC fdC)
   (GS:Cm P w K mg base CX0 1 C "check_shade" ["self", "shade"] (lg C) fS fdS):aU P w K mg base CX0 2 f fd ["self", "bath", "shade"] (qp C):=by
 refine oq F xJ fun cdv A outer s H vs Q E hr h=>?_;obtain⟨x,ss,bs,b,z,rfl,hbk,B,hb,hz,q⟩:=h;have hu:=eA hr
 refine⟨_,aL (aP (pM (pv 0) c GC hr az (aa (pv 1) ae)))
   (aL (aP (pM (pv 0) c GS hr az (aa (pv 2) ae)))
   (ah (aq (cv hu (cv hu (bB (pv 0) rfl) (pv 1) (fun _ _=>rfl)) (pv 2) (fun _ _=>rfl))))),?_⟩
 try dsimp only[aC,aM]
 obtain⟨dx,t,d,so,h1,h2,h3,h4,h5⟩:=hbk;obtain⟨r,hg,hr⟩:=ii.get B h5 hb;walk_at"";refine⟨dx,_,h1,bO (by decide) (by decide),x,ss,bs,b,rfl,⟨dx,t,d,so,h1,h2,h3,h4,h5⟩,B,hb,dx,_,h1,bO (by decide) (by decide),x,ss,bs,z,rfl,⟨dx,t,d,so,h1,h2,h3,h4,h5⟩,hz,?_⟩;exact⟨C,dx,_,h1,c,nT,_,cQ,d,rfl,_,hg,r,rfl,_,.inl ⟨_,Sum.inr z,hr,rfl,(mK B.snd (B.bln b hb) hz).symm⟩,q⟩
theorem u6:aw ["_law_shades", "_law_baths"] ["_law_shades", "_law_baths"] (ao mH):=sM
def Fz (H H':Hp):Prop:=(∀ b o,H b=some o→(∀ kvs,o≠.dK kvs)→H' b=some o)∧(∀ b o,Rd H b o→Rd H' b o)
theorem af.fz {H H':Hp}(S:af H H'):Fz H H':=⟨fun b o h _=>S b o h,fun b o h=>af.rd S h⟩
theorem Fz.refl (H:Hp):Fz H H:=⟨fun _ _ h _=>h,fun _ _ h=>h⟩
theorem Fz.trans {H H1 H2:Hp}(a:Fz H H1)(b:Fz H1 H2):Fz H H2:=⟨fun c o h n=>b.1 c o (a.1 c o h n) n,fun c o h=>b.2 c o (a.2 c o h)⟩
theorem tT {H:Hp}{d:Addr}{kvs:List (Key×V)}{u:Obj}(h:H d=some (.dK kvs)):Fz H (upd H d (.frz u (.dK kvs))):=by
 refine⟨fun b o hb n=>?_,fun b o hb=>?_⟩
 . have hne:b≠d:=fun e=>n kvs (by rw[e,h] at hb;cases hb;rfl);rw[ai hne];exact hb
 . by_cases e:b=d
   . subst e
     rcases hb with hb | ⟨v,hb⟩
     . rw[h] at hb;cases hb;exact .inr ⟨u,ac⟩
     . rw[h] at hb;cases hb
   . rcases hb with hb | ⟨v,hb⟩
     . exact .inl (by rw[ai e];exact hb)
     . exact .inr ⟨v,by rw[ai e];exact hb⟩
theorem Fz.tabs {H H':Hp}{d:Addr}{ss:List Str}{bs:List (Str×List Str)}(S:Fz H H')(h:ii H d ss bs):ii H' d ss bs:=by
 obtain⟨ds,h1,h2,h3⟩:=h;exact⟨ds,S.2 _ _ h1,h2,fun i r b hr hb=>S.2 _ _ (h3 i r b hr hb)⟩
theorem Fz.book {H H':Hp}{C x:Addr}{ss:List Str}{bs:List (Str×List Str)}(S:Fz H H')(h:bv H C x ss bs):bv H' C x ss bs:=by
 obtain⟨dx,t,d,so,h1,h2,h3,h4,h5⟩:=h;exact⟨dx,t,d,so,S.1 _ _ h1 (fun _ e=>by cases e),S.1 _ _ h2 (fun _ e=>by cases e),h3,h4,Fz.tabs S h5⟩
theorem Fz.seq {H H':Hp}{a:Addr}{xs:List V}(S:Fz H H')(h:SqL K H a xs):SqL K H' a xs:=by
 rcases h with h | h
 . exact .inl (S.2 _ _ h)
 . exact .inr h
def dc (H:Hp)(d:Addr)(ss ns:List Str)(lk:Str→Str→Str):Prop :=
 ∃ kvs:List (Key×V),Rd H d (.dK kvs)∧kvs.map (·.1)=ns.map Sum.inr∧∀ n∈ns,∃ r kv,bG kvs (Sum.inr n)=some (.ref r)∧Rd H r (.dK kv)∧∀ z∈ss,bG kv (Sum.inr z)=some (.str (lk n z))
theorem Fz.tabG {H H':Hp}{d:Addr}{ss ns:List Str}{lk:Str→Str→Str}(S:Fz H H')(h:dc H d ss ns lk):dc H' d ss ns lk:=by
 obtain⟨kvs,h1,h2,h3⟩:=h;refine⟨kvs,S.2 _ _ h1,h2,fun n hn=>?_⟩;obtain⟨r,kv,e1,e2,e3⟩:=h3 n hn;exact⟨r,kv,e1,S.2 _ _ e2,e3⟩
theorem dc.get {H:Hp}{d:Addr}{ss ns:List Str}{lk:Str→Str→Str}(h:dc H d ss ns lk){n z:Str}(hn:n∈ns)(hz:z∈ss):∃ r,kY H d (.str n) (some (.ref r))∧kY H r (.str z) (some (.str (lk n z))):=by
 obtain⟨kvs,h1,h2,h3⟩:=h;obtain⟨r,kv,e1,e2,e3⟩:=h3 n hn;exact⟨r,.inl ⟨_,Sum.inr n,h1,rfl,e1.symm⟩,.inl ⟨_,Sum.inr z,e2,rfl,(e3 z hz).symm⟩⟩
def lkB (ss:List Str)(bs:List (Str×List Str)) (n z:Str):Str:=match bs.find? (fun b=>decide (b.1=n)) with
 | some b=>lkV ss b z
 | none=>⟨#[]⟩
theorem eE {ss:List Str}:∀ {bs:List (Str×List Str)}{b:Str×List Str} (z:Str),(bs.map (·.1)).Nodup→b∈bs→lkB ss bs b.1 z=lkV ss b z
 | [],_,_,_,h=>by cases h
 | a::bs,b,z,hd,h=>by
   unfold lkB;by_cases e:a.1=b.1
   . rw[List.find?_cons_of_pos (by simp[e])]
     rcases List.mem_cons.mp h with rfl | hm
     . rfl
     . exact absurd (Ao (f:=(·.1)) hm) (by rw[Ac,BH] at hd;rw[←e];exact hd.1)
   . rw[List.find?_cons_of_neg (by simp[e])]
     have hm:b∈bs:=by
       rcases List.mem_cons.mp h with rfl | hm
       . exact absurd rfl e
       . exact hm
     rw[Ac,BH] at hd;exact eE z hd.2 hm
theorem ii.toG {H:Hp}{d:Addr}{ss:List Str}{bs:List (Str×List Str)}(B:aN ss bs)(h:ii H d ss bs):dc H d ss (bs.map (·.1)) (lkB ss bs):=by
 obtain⟨ds,h1,h2,h3⟩:=h;refine⟨_,h1,lN (by rw[be,be,h2]),fun n hn=>?_⟩;obtain⟨b,hb,rfl⟩:=List.mem_map.mp hn;obtain⟨i,hi⟩:=AJ hb
 have hil:i < ds.length:=by rw[h2];exact(List.getElem?_eq_some_iff.mp hi).1
 have hr:=zN hil;refine⟨ds[i],_,dI _ _ i _ _ B.bnd (by rw[zO,hi];rfl) (by rw[zO,hr];rfl),h3 i _ b hr hi,fun z hz=>?_⟩;rw[eE z B.bnd hb];exact mK B.snd (B.bln b hb) hz
theorem wf {ss:List Str}{bs:List (Str×List Str)}{b:Str×List Str}{z:Str}(B:aN ss bs)(hb:b∈bs)(hz:z∈ss):lkV ss b z∈ss:=by
 obtain⟨i,hi⟩:=AJ hz;have hl:=B.bln b hb
 have hil:i < b.2.length:=by rw[hl];exact(List.getElem?_eq_some_iff.mp hi).1
 have e:bG (ir ss b) (Sum.inr z)=some (V.str b.2[i]):=dI ss (b.2.map V.str) i z _ B.snd hi (by rw[zO,zN hil];rfl)
 have e2:lkV ss b z=b.2[i]:=by unfold lkV;rw[e]
 rw[e2];exact B.bin b hb _ (AR hil)
theorem rF {ss:List Str}{bs:List (Str×List Str)}(B:aN ss bs):∀ n∈bs.map (·.1),∀ z∈ss,lkB ss bs n z∈ss:=fun n hn z hz=>by
 obtain⟨b,hb,rfl⟩:=List.mem_map.mp hn;rw[eE z B.bnd hb];exact wf B hb hz
theorem fh {J:It}{n:Nat}{vs:Nat→V→Prop}{g:TG}{tc:TT}{te:TE}{D:Addr}{Q:Hp→Prop}{σ:St}{H:Hp}(S:d6 J H n vs)(hn:n≤sizeLine)(hD:H D=none)(Pσ:St→Prop)(bt:Nat→Bool)(out:Nat→V)
   (h0:Pσ σ)(step:∀ i x σ' H',i < n→vs i x→Pσ σ'→af H H'→∀ (R1:V→St→Hp→Prop)(R0:St→Hp→Prop),(bt i=true→∀ σ2,Pσ σ2→R1 (out i) σ2 H')→(bt i=false→∀ σ2,Pσ σ2→R0 σ2 H')→g x σ' H' fun σ2 H3=>tc σ2 H3 fun b H3'=>if b=true then te σ2 H3' fun v H4=>R1 v σ2 H4 else R0 σ2 H3')
   (fin:Q (upd H D (.lst (((zW n).filter bt).map out)))):mr J g tc te D Q σ (upd H D (.lst [])):=by
 refine⟨fun i m σ' H'=>m=n - i∧i≤n∧Pσ σ'∧H'=upd H D (.lst (((zW i).filter bt).map out)),⟨n,by simp,AF _,h0,rfl⟩,?_⟩;rintro i m σ' H' ⟨rfl,hi,p,rfl⟩;have sm:af H (upd H D (.lst (((zW i).filter bt).map out))):=af.updN hD;by_cases hlt:i < n
 . refine .inr ⟨S.go i _ hlt sm,fun σ2 H2=>Pσ σ2∧H2=upd H D (.lst (((zW (i+1)).filter bt).map out)),fun σ2 H2 ⟨p',e⟩=>⟨n - (i+1),by omega,rfl,hlt,p',e⟩,fun x H2 y=>?_⟩;obtain⟨e,hv⟩:=S.yld i _ x H2 hlt sm y;subst e
   have hlen:((zW i).filter bt).length≤i:=by
     have:=A4 bt (zW i)
     rwa [A1] at this
   refine step i x σ' _ hlt hv p sm (fun v σ2 H4=>∃ xs,H4 D=some (.lst xs)∧xs.length < sizeLine∧Pσ σ2∧upd H4 D (.lst (xs++[v]))=upd H D (.lst (((zW (i+1)).filter bt).map out))) (fun σ2 H4=>Pσ σ2∧H4=upd H D (.lst (((zW (i+1)).filter bt).map out))) (fun hb σ2 p2=>?_) (fun hb σ2 p2=>⟨p2,?_⟩)
   . refine⟨((zW i).filter bt).map out,ac,by rw[be];omega,p2,?_⟩;rw[gP,Bg,AW,AZ (by simpa using hb),Bh,zU,Bt]
   . rw[Bg,AW,BJ (by simpa using hb),Bh,AO]
 . have e:i=n:=by omega
   subst e;exact .inl ⟨S.stop _ sm,fin⟩
def cf (H:Hp)(ps:List Addr)(L:List (List V)):Prop:=ps.length=L.length∧∀ (i:Nat) p e,ps[i]?=some p→L[i]?=some e→H p=some (.tup e)
theorem cf.same {H H':Hp}{ps:List Addr}{L:List (List V)}(S:af H H')(h:cf H ps L):cf H' ps L:=⟨h.1,fun i p e hp he=>S _ _ (h.2 i p e hp he)⟩
theorem cf.snoc {H:Hp}{ps:List Addr}{L:List (List V)}{t:Addr}{e:List V}(h:cf H ps L)(ht:H t=some (.tup e)):cf H (ps++[t]) (L++[e]):=by
 refine⟨by rw[zP,zP,h.1];rfl,fun i p e2 hp he=>?_⟩;by_cases hi:i < ps.length
 . rw[zY hi] at hp;rw[zY (by rw[←h.1];exact hi)] at he;exact h.2 i p e2 hp he
 . have hj:i=ps.length:=by
     have:=(List.getElem?_eq_some_iff.mp hp).1;rw[zP,zV] at this;omega
   subst hj;rw[zT (zR _),AC] at hp;rw[zT (by rw[h.1];exact zR _),h.1,AC] at he;cases hp;cases he;exact ht
theorem iB {J:It}{n:Nat}{vs:Nat→V→Prop}{g:TG}{tc:TT}{te:TE}{D:Addr}{Q:Hp→Prop}{σ:St}{H:Hp}(S:d6 J H n vs)(hn:n≤sizeLine)(hD:H D=none)(Pσ:St→Prop)(bt:Nat→Bool)(out:Nat→List V)
   (h0:Pσ σ)(step:∀ i x σ' H',i < n→vs i x→Pσ σ'→af H H'→∀ (R1:V→St→Hp→Prop)(R0:St→Hp→Prop),(bt i=true→∀ t σ2,Pσ σ2→H' t=none→R1 (.ref t) σ2 (upd H' t (.tup (out i))))→(bt i=false→∀ σ2,Pσ σ2→R0 σ2 H')→g x σ' H' fun σ2 H3=>tc σ2 H3 fun b H3'=>if b=true then te σ2 H3' fun v H4=>R1 v σ2 H4 else R0 σ2 H3')
   (fin:∀ ps H',af H H'→H' D=some (.lst (ps.map V.ref))→cf H' ps (((zW n).filter bt).map out)→Q H'):mr J g tc te D Q σ (upd H D (.lst [])):=by
 refine⟨fun i m σ' H'=>m=n - i∧i≤n∧Pσ σ'∧∃ ps,af H H'∧H' D=some (.lst (ps.map V.ref))∧cf (hide H' D) ps (((zW i).filter bt).map out),⟨n,by simp,AF _,h0,[],af.updN hD,ac,rfl,by intro i p e h;simp at h⟩,?_⟩;rintro i m σ' H' ⟨rfl,hi,p,ps,sm,hHD,hT⟩;by_cases hlt:i < n
 . refine .inr ⟨S.go i _ hlt sm,fun σ2 H2=>Pσ σ2∧∃ ps,af H H2∧H2 D=some (.lst (ps.map V.ref))∧cf (hide H2 D) ps (((zW (i+1)).filter bt).map out),fun σ2 H2 ⟨p',e⟩=>⟨n - (i+1),by omega,rfl,hlt,p',e⟩,fun x H2 y=>?_⟩;obtain⟨e,hv⟩:=S.yld i _ x H2 hlt sm y;subst e
   have hlen:ps.length≤i:=by
     have:=A4 bt (zW i);rw[A1] at this;rw[hT.1,be];exact this
   refine step i x σ' _ hlt hv p sm (fun v σ2 H4=>∃ xs,H4 D=some (.lst xs)∧xs.length < sizeLine∧Pσ σ2∧∃ ps,af H (upd H4 D (.lst (xs++[v])))∧upd H4 D (.lst (xs++[v])) D=some (.lst (ps.map V.ref))∧cf (hide (upd H4 D (.lst (xs++[v]))) D) ps (((zW (i+1)).filter bt).map out)) (fun σ2 H4=>Pσ σ2∧∃ ps,af H H4∧H4 D=some (.lst (ps.map V.ref))∧cf (hide H4 D) ps (((zW (i+1)).filter bt).map out)) (fun hb t σ2 p2 ht=>?_) (fun hb σ2 p2=>⟨p2,ps,sm,hHD,?_⟩)
   . have htD:t≠D:=fun e=>by rw[e,hHD] at ht;cases ht
     refine⟨ps.map V.ref,by rw[ai (Ne.symm htD)];exact hHD,by rw[be];omega,p2,ps++[t],(sm.step (sm.free ht)).step hD,by rw[ac,zU];rfl,?_⟩;rw[Bg,AW,AZ (by simpa using hb),Bh,zU,Bt,dZ];exact(cf.same (af.hide (af.updN ht)) hT).snoc (by rw[aW htD];exact ac)
   . rw[Bg,AW,BJ (by simpa using hb),Bh,AO];exact hT
 . have e:i=n:=by omega
   subst e;exact .inl ⟨S.stop _ sm,fin ps H' sm hHD (hT.same bK)⟩
def iR (C cN:Addr):Sp:=fun vs H Q E=>∃ (x:Addr)(ss:List Str)(bs:List (Str×List Str)) (z:Str),vs=[.ref x,.str z]∧bv H C x ss bs∧aN ss bs∧Shw z∧(z∈bs.map (·.1)→Q .non H)∧(z∉bs.map (·.1)→E (.ref cN) none H)
theorem oqX {P:Program}{w:World}{K:PySem.W.Frag}{mg:Str→Option Value}{base:Heap}{x qual:Str}{st:Stmt}{f:Addr}{fd:FuncData}{N ps:List Str}{k:Nat}{sp:Sp}(F:Fun K x qual st f fd)(S:aw N ps (ao st))(hbody:∀ (cdv:Value)(A:Around)(outer:List Env)(s:Shared)(H:Hp)(vs:List V)(Q:VK)(E:XK),cL k (A.deeper (Cy qual (ao st) s.heap.objs.size f cdv))→sp vs H Q E→∃ t,PSs (eO (CX1 P w) P w K mg base N qual (ao st) f cdv A outer s H E) (dF st) t∧t { nx:=fun _ H'=>Q .non H',rt:=Q } (start N vs) H)(len:∀ vs H Q E,sp vs H Q E→vs.length=ps.length:=by intro vs H Q E h;repeat (first | (obtain⟨rfl,_⟩:=h;rfl) | obtain⟨_,h⟩:=h)):aU P w K mg base (CX1 P w) (k+1) f fd ps sp:=F.okX S len hbody
theorem pA {C f cN:Addr}{fd:FuncData}(F:Fun K "check_bath" "Book.check_bath" jp f fd)(c:Cls K C)(nT:NoAttr K C "tables")(XN:ExcC K cN)(mN:mg "NoBath"=some (.ref cN)):aU P w K mg base (CX1 P w) 1 f fd ["self", "bath"] (iR C cN):=by
 refine oqX F nH fun cdv A outer s H vs Q E hr h=>?_;obtain⟨x,ss,bs,z,rfl,⟨dx,t,d,so,h1,h2,h3,h4,h5⟩,B,hz,q,qe⟩:=h;have hu:=eA hr;refine⟨_,ah (aB (fc (dA hu (pv 1) (bB (pv 0) rfl))) (ah (bA rfl rfl mN XN.exc z9 (aa (fg (pv 1)) ae) df)) am),?_⟩
 try dsimp only[aC,aM]
 by_cases hm:z∈bs.map (·.1)
 . obtain⟨b,hb,rfl⟩:=List.mem_map.mp hm;obtain⟨r,hg,hr⟩:=ii.get B h5 hb;walk_at"";exact⟨C,dx,_,h1,c,nT,_,cQ,d,rfl,_,hg,q hm⟩
 . obtain⟨ds,e1,e2,e3⟩:=h5;walk_at"";refine⟨C,dx,_,h1,c,nT,_,cQ,d,rfl,none,.inl ⟨_,Sum.inr z,e1,rfl,(bU _ _ _ hm).symm⟩,?_⟩;exact⟨hz.1,hz.2,fun y=>⟨by decide,qe hm⟩⟩
def jN (C cS:Addr):Sp:=fun vs H Q E=>∃ (x:Addr)(ss:List Str)(bs:List (Str×List Str)) (y:Str),vs=[.ref x,.str y]∧bv H C x ss bs∧Shw y∧(y∈ss→Q .non H)∧(y∉ss→E (.ref cS) none H)
theorem ot {C f cS:Addr}{fd:FuncData}(F:Fun K "check_shade" "Book.check_shade" ia f fd)(c:Cls K C)(nO:NoAttr K C "order")(XS:ExcC K cS)(mS:mg "NoShade"=some (.ref cS)):aU P w K mg base (CX1 P w) 1 f fd ["self", "shade"] (jN C cS):=by
 refine oqX F lz fun cdv A outer s H vs Q E hr h=>?_;obtain⟨x,ss,bs,y,rfl,⟨dx,t,d,so,h1,h2,h3,h4,h5⟩,hy,q,qe⟩:=h;refine⟨_,ah (aB (ap cD (pv 1) (bB (pv 0) rfl) (by with_unfolding_all rfl)) (ah (bA rfl rfl mS XS.exc z9 (aa (fg (pv 1)) ae) df)) am),?_⟩
 try dsimp only[aC,aM]
 by_cases hm:y∈ss
 . have hyo:y∈so:=h3.mem_iff.mpr hm;walk_at"";refine⟨C,dx,_,h1,c,nO,_,f9,t,rfl,_,.inr (SqT.of h2),rfl,cR so,?_⟩;rw[cZ,decide_eq_true hyo];exact q hm
 . have hyo:y∉so:=fun h=>hm (h3.mem_iff.mp h);walk_at"";refine⟨C,dx,_,h1,c,nO,_,f9,t,rfl,_,.inr (SqT.of h2),rfl,cR so,?_⟩;rw[cZ,decide_eq_false hyo];exact⟨hy.1,hy.2,fun w=>⟨by decide,qe hm⟩⟩
def GN (ws:List Str):Prop:=ws.Nodup∧∀ x∈ws,a9 x=true
def GO (ss os:List Str):Prop:=os.length=ss.length∧∀ x∈os,x∈ss
structure GB (ss:List Str)(bs:List (Str×List Str)):Prop where
 b8:bs.length≤8
 gn:GN (bs.map (·.1))
 go:∀ b∈bs,GO ss b.2
structure GS (ss:List Str):Prop where
 s1:1≤ss.length
 s12:ss.length≤12
 gn:GN ss
structure nD (ss:List Str)(bs:List (Str×List Str)):Prop where
 sl:ss.length≤100
 sh:∀ x∈ss,Shw x
 bl:bs.length≤100
 bh:∀ b∈bs,Shw b.1
 ol:∀ b∈bs,b.2.length≤100
 oh:∀ b∈bs,∀ x∈b.2,Shw x
theorem aN.of {ss:List Str}{bs:List (Str×List Str)}(X:nD ss bs)(a:GS ss)(b:GB ss bs):aN ss bs :=
 ⟨a.s1,a.s12,a.gn.1,a.gn.2,X.sh,b.b8,b.gn.1,fun x hx=>b.gn.2 _ (Ao hx),X.bh,fun x hx=>(b.go x hx).1,fun x hx=>(b.go x hx).2⟩
theorem aN.txt {ss:List Str}{bs:List (Str×List Str)}(B:aN ss bs):nD ss bs :=
 ⟨by have:=B.s12;omega,B.snw,by have:=B.b8;omega,B.bnw,fun b hb=>by have:=B.s12;rw[B.bln b hb];omega,fun b hb x hx=>B.snw x (B.bin b hb x hx)⟩
theorem aN.gs {ss:List Str}{bs:List (Str×List Str)}(B:aN ss bs):GS ss:=⟨B.s1,B.s12,B.snd,B.snm⟩
theorem aN.gb {ss:List Str}{bs:List (Str×List Str)}(B:aN ss bs):GB ss bs :=
 ⟨B.b8,⟨B.bnd,fun x hx=>by obtain⟨b,hb,rfl⟩:=List.mem_map.mp hx;exact B.bnm b hb⟩,fun b hb=>⟨B.bln b hb,B.bin b hb⟩⟩
theorem pe:∀ (l acc:List Str),(∀ x∈l.foldl d7 acc,x∈acc∨x∈l)∧(acc.Nodup→(l.foldl d7 acc).Nodup)∧(l.foldl d7 acc).length≤acc.length+l.length
 | [],acc=>⟨fun x hx=>.inl hx,fun h=>h,zR _⟩
 | y::l,acc=>by
   obtain⟨h1,h2,h3⟩:=pe l (d7 acc y);rw[BF];refine⟨fun x hx=>?_,fun hd=>h2 ?_,?_⟩
   . rcases h1 x hx with q | q
     . unfold d7 at q
       split at q
       . exact .inl q
       . rcases List.mem_append.mp q with q | q
         . exact .inl q
         . rw[List.mem_singleton.mp q];exact .inr zZ
     . exact .inr (z7 _ q)
   . unfold d7
     split
     . exact hd
     . rename_i hn;exact gQ hd hn
   . have:=nW acc y;rw[Az];omega
theorem wt {l:List Str}(h:¬l.Nodup):(dP l).length≠l.length:=fun e=>h (by
 have key:∀ (l acc:List Str),acc.Nodup→(l.foldl d7 acc).length=acc.length+l.length→(acc++l).Nodup:=by
   intro l
   induction l with
   | nil=>intro acc hd _;rw[AO];exact hd
   | cons y l ih =>
     intro acc hd he;rw[BF,Az] at he;by_cases hy:y∈acc
     . have e1:d7 acc y=acc:=by unfold d7;rw[if_pos hy]
       rw[e1] at he;have:=(pe l acc).2.2;omega
     . have e1:d7 acc y=acc++[y]:=by unfold d7;rw[if_neg hy]
       rw[e1] at he;have:=ih (acc++[y]) (gQ hd hy) (by rw[he,zP,zV];omega);rw[Bj] at this;exact this
 exact key l [] Cw (by unfold dP at e;rw[e,BX,Nat.zero_add]))
def iA (K:PySem.W.Frag)(cB:Addr):Sp:=fun vs H Q E=>∃ (l:Addr)(ws:List Str),vs=[.ref l]∧SqL K H l (ws.map V.str)∧ws.length≤100∧(∀ x∈ws,Shw x)∧(GN ws→∀ H',af H H'→Q .non H')∧(¬GN ws→∀ H',af H H'→E (.ref cB) none H')
theorem qE {f fG cB:Addr}{fd fdG:FuncData}(F:Fun K "check_names" "check_names" jo f fd)(T:Txt mg)(XB:ExcC K cB)(mB:mg "BadBook"=some (.ref cB))(GG:Cl P w K mg base CX0 1 "good_name" ["text"] nr fG fdG) :
   aU P w K mg base (CX1 P w) 2 f fd ["texts"] (iA K cB):=by
 refine oqX F gT fun cdv A outer s H vs Q E hr h=>?_;obtain⟨l,ws,rfl,hl,hlen,hsh,q,qe⟩:=h
 refine⟨_,aL (bC PassesOwn.leaving rfl (a8 (pv 0)) (pN 1 gT.nd)
     (ah (aB (bV (bE (pC GG hr az (aa (pv 1) ae)))) (ah (bA rfl rfl mB XB.exc z9 (aa (fg (pv 1)) ae) df)) am)))
   (ah (aB (ap i6 (al lZ (by rfl) T.len zX (aa (cu (oK rfl) (by rfl) T.set (by decide) (aa (pv 0) ae)) ae)) (al av (by rfl) T.len zX (aa (pv 0) ae)) (ax _)) (ah (bA rfl rfl mB XB.exc z9 (aa aA ae) df)) am)),?_⟩
 try dsimp only[aC,aM]
 have hs:=aK;walk_at"";refine⟨⟨_,hl⟩,?_⟩;refine bg (H0:=H) (aG hl) (fun i σ' H'=>∃ o,σ'=[some (.ref l),o]∧af H H'∧∀ x∈ws.take i,a9 x=true) ⟨none,rfl,af.refl H,fun x hx=>by simp at hx⟩ (fun _ _ _ _ ⟨_,_,h,_⟩=>h) ?_ ?_
 . rintro i x σ H' hi hx ⟨o,rfl,hS,hb⟩;rw[zO] at hx;obtain⟨z,hz,rfl⟩:=Option.map_eq_some_iff.mp hx;have hzm:=zS hz;have hzs:=hsh z hzm;walk_at"";refine⟨z,rfl,hzs.1,fun H2 S2=>?_⟩;by_cases hg:a9 z=true
   . rw[hg];refine⟨_,rfl,ay (fun h=>by cases h) (fun _=>⟨hS.trans S2,fun x hx=>?_⟩)⟩;rw[bu hz] at hx
     rcases List.mem_append.mp hx with hx | hx
     . exact hb x hx
     . rw[List.mem_singleton.mp hx];exact hg
   . have hg':a9 z=false:=by simpa using hg
     rw[hg'];exact⟨_,rfl,ay (fun _=>⟨hzs.1,hzs.2,fun y=>⟨by decide,qe (fun g=>hg (g.2 z hzm)) _ (hS.trans S2)⟩⟩) (fun h=>absurd rfl h)⟩
 . rintro σ H' ⟨o,rfl,hS,hb⟩;rw[be,AI] at hb;walk_at"";refine⟨_,hS.seq hl,by omega,fun p hp=>⟨_,ac,_,.inl ((hS.step (hS.free hp)).seq hl),rfl,?_⟩⟩;rw[be];by_cases hnd:ws.Nodup
   . rw[si hnd];exact ay (fun h=>absurd rfl h) (fun _=>q ⟨hnd,hb⟩ _ (hS.step (hS.free hp)))
   . have:=wt hnd;exact ay (fun _=>⟨by decide,qe (fun g=>hnd g.1) _ (hS.step (hS.free hp))⟩) (fun h=>absurd (by omega:(dP ws).length=ws.length) this)
def jF (K:PySem.W.Frag)(cB:Addr):Sp:=fun vs H Q E=>∃ (l:Addr)(ws:List Str),vs=[.ref l]∧SqL K H l (ws.map V.str)∧ws.length≤100∧(∀ x∈ws,Shw x)∧(GS ws→∀ H',af H H'→Q .non H')∧(¬GS ws→∀ H',af H H'→E (.ref cB) none H')
theorem oz {f fG cB:Addr}{fd fdG:FuncData}(F:Fun K "check_shades" "check_shades" ik f fd)(T:Txt mg)(TB:uv mg)(XB:ExcC K cB)(mB:mg "BadBook"=some (.ref cB))(GG:Cl P w K mg base (CX1 P w) 2 "check_names" ["texts"] (iA K cB) fG fdG) :
   aU P w K mg base (CX1 P w) 3 f fd ["shades"] (jF K cB):=by
 refine oqX F lh fun cdv A outer s H vs Q E hr h=>?_;obtain⟨l,ws,rfl,hl,hlen,hsh,q,qe⟩:=h;obtain⟨tg,hms⟩:=TB.mostS
 refine⟨_,aL (aB (ap cY (al av (by rfl) T.len zX (aa (pv 0) ae)) ag (ax _)) (ah (bA rfl rfl mB XB.exc z9 (aa aA ae) df)) am)
   (aL (aB (ap fw (al av (by rfl) T.len zX (aa (pv 0) ae)) (bc (v:=.int 12) rfl hms ⟨_,rfl⟩) (ax _)) (ah (bA rfl rfl mB XB.exc z9 (aa aA ae) df)) am)
   (ah (aP (pC GG hr bD (aa (pv 0) ae))))),?_⟩
 try dsimp only[aC,aM]
 have hs:=aK;walk_at"";refine⟨_,.inl hl,?_⟩;rw[be];refine ay (fun h=>⟨by decide,qe (fun g=>by have:=g.s1;omega) H (af.refl H)⟩) (fun h1=>⟨_,.inl hl,?_⟩);rw[be];refine ay (fun h=>⟨by decide,qe (fun g=>by have:=g.s12;omega) H (af.refl H)⟩) (fun h2=>?_);exact⟨l,ws,rfl,hl,hlen,hsh,fun g H' S=>q ⟨by omega,by omega,g⟩ H' S,fun g H' S=>qe (fun g2=>g g2.gn) H' S⟩
def nK (K:PySem.W.Frag)(cB:Addr):Sp:=fun vs H Q E=>∃ (l lo:Addr)(ss os:List Str),vs=[.ref l,.ref lo]∧SqL K H l (ss.map V.str)∧SqL K H lo (os.map V.str)∧os.length≤100∧(∀ x∈os,Shw x)∧(GO ss os→∀ H',af H H'→Q .non H')∧(¬GO ss os→∀ H',af H H'→E (.ref cB) none H')
theorem sD {f cB:Addr}{fd:FuncData}(F:Fun K "check_outs" "check_outs" me f fd)(T:Txt mg)(XB:ExcC K cB)(mB:mg "BadBook"=some (.ref cB)) :
   aU P w K mg base (CX1 P w) 1 f fd ["shades", "outs"] (nK K cB):=by
 refine oqX F jy fun cdv A outer s H vs Q E hr h=>?_;obtain⟨l,lo,ss,os,rfl,hl,hlo,hlen,hsh,q,qe⟩:=h
 refine⟨_,aL (aB (ap i6 (al av (by rfl) T.len zX (aa (pv 1) ae)) (al av (by rfl) T.len zX (aa (pv 0) ae)) (ax _)) (ah (bA rfl rfl mB XB.exc z9 (aa aA ae) df)) am)
   (ah (bC PassesOwn.leaving rfl (a8 (pv 1)) (pN 2 jy.nd)
     (ah (aB (ap cD (pv 2) (pv 0) (by with_unfolding_all rfl)) (ah (bA rfl rfl mB XB.exc z9 (aa (fg (pv 2)) ae) df)) am)))),?_⟩
 try dsimp only[aC,aM]
 have hs:=aK;walk_at"";refine⟨_,.inl hlo,_,.inl hl,rfl,?_⟩;rw[be,be];refine ay (fun h=>⟨by decide,qe (fun g=>h (by rw[g.1])) H (af.refl H)⟩) (fun hle=>⟨⟨_,hlo⟩,?_⟩)
 have hle':os.length=ss.length:=by omega
 refine bg (H0:=H) (aG hlo) (fun i σ' H'=>∃ o,σ'=[some (.ref l),some (.ref lo),o]∧H'=H∧∀ x∈os.take i,x∈ss) ⟨none,rfl,rfl,fun x hx=>by simp at hx⟩ (fun _ _ _ _ ⟨_,_,h,_⟩=>by rw[h];exact af.refl _) ?_ ?_
 . rintro i x σ H' hi hx ⟨o,rfl,rfl,hb⟩;rw[zO] at hx;obtain⟨z,hz,rfl⟩:=Option.map_eq_some_iff.mp hx;have hzm:=zS hz;walk_at"";refine⟨_,.inl hl,rfl,cR ss,?_⟩;rw[cZ];by_cases hin:z∈ss
   . rw[decide_eq_true hin];intro x hx;rw[bu hz] at hx
     rcases List.mem_append.mp hx with hx | hx
     . exact hb x hx
     . rw[List.mem_singleton.mp hx];exact hin
   . rw[decide_eq_false hin];exact⟨(hsh z hzm).1,(hsh z hzm).2,fun y=>⟨by decide,qe (fun g=>hin (g.2 z hzm)) _ (af.refl _)⟩⟩
 . rintro σ H' ⟨o,rfl,rfl,hb⟩;rw[be,AI] at hb;exact q ⟨hle',hb⟩ _ (af.refl _)
def lK (K:PySem.W.Frag)(cB:Addr):Sp:=fun vs H Q E=>∃ (l lb:Addr)(ss:List Str)(bs:List (Str×List Str)),vs=[.ref l,.ref lb]∧SqL K H l (ss.map V.str)∧gN H lb bs∧nD ss bs∧(GB ss bs→∀ H',af H H'→Q .non H')∧(¬GB ss bs→∀ H',af H H'→E (.ref cB) none H')
theorem qS {f fG fO cB:Addr}{fd fdG fdO:FuncData}(F:Fun K "check_baths" "check_baths" js f fd)(T:Txt mg)(TB:uv mg)(XB:ExcC K cB)(mB:mg "BadBook"=some (.ref cB))(GG:Cl P w K mg base (CX1 P w) 2 "check_names" ["texts"] (iA K cB) fG fdG)
   (GO_:Cl P w K mg base (CX1 P w) 1 "check_outs" ["shades", "outs"] (nK K cB) fO fdO) :
   aU P w K mg base (CX1 P w) 3 f fd ["shades", "baths"] (lK K cB):=by
 refine oqX F eK fun cdv A outer s H vs Q E hr h=>?_;obtain⟨l,lb,ss,bs,rfl,hl,⟨ps,hlb,hpl,hB⟩,X,q,qe⟩:=h;obtain⟨tg,hms⟩:=TB.mostB;have hr1:=hr.mono (j:=1) (by omega)
 refine⟨_,aL (aB (ap fw (al av (by rfl) T.len zX (aa (pv 1) ae)) (bc (v:=.int 8) rfl hms ⟨_,rfl⟩) (ax _)) (ah (bA rfl rfl mB XB.exc z9 (aa aA ae) df)) am)
   (aj (aP (pC GG hr bD (aa (fk (N':=["name", "outs"]) (pk:=[none,none]) rfl (bW.of (by rfl)) (a8 (pv 1)) (fun s H ex=>(cz (n:=2) rfl (aE (pN 0 (by show(["name", "outs"]:List Str).Nodup;decide)) (aE (pN 1 (by show(["name", "outs"]:List Str).Nodup;decide)) bS)):PG _ _ (kD K 2 (bN (bx 0) (bN (bx 1) iC)))))
       (fun s H ex=>pv 0)) ae)))
   (ah (bC PassesOwn.leaving rfl (a8 (pv 1)) (cz (n:=2) rfl (aE (pN 2 eK.nd) (aE (pN 3 eK.nd) bS)))
     (ah (aP (pC GO_ hr1 bD (aa (pv 0) (aa (pv 3) ae)))))))),?_⟩
 try dsimp only[aC,aM]
 have hs:=aK;have hbl:=X.bl;walk_at"";refine⟨_,.inl (SqL.of hlb),?_⟩;rw[be];refine ay (fun h=>⟨by decide,qe (fun g=>by have:=g.b8;omega) H (af.refl H)⟩) (fun h8=>?_)
 have hb8:bs.length≤8:=by omega
 refine cut (fun σ' H'=>σ'=[some (.ref l),some (.ref lb),none,none]∧af H H'∧GN (bs.map (·.1))) ?_ ?_
 . walk_at"";refine⟨⟨_,SqL.of hlb⟩,fun D hD=>?_⟩;refine cG (aG (SqL.of hlb)) (by rw[be];omega) hD (fun σ=>∃ o1 o2,σ=[o1,o2]) (fun k=>V.str (bs.getD k (⟨#[]⟩,[])).1) ⟨none,none,rfl⟩ ?_ ?_
   . rintro k x σ' H3 hk hx ⟨o1,o2,rfl⟩ hS3 R hR;rw[zO] at hx;obtain⟨y,hy,rfl⟩:=Option.map_eq_some_iff.mp hx;obtain⟨b,hb⟩:∃ b,bs[k]?=some b:=⟨_,zN (by rw[be] at hk;omega)⟩;obtain⟨lo,ht,hlo⟩:=hB k y b hy hb;refine dY (hS3 _ _ ht) ?_;walk_at""
     have e:(bs.getD k (⟨#[]⟩,[]))=b:=by rw[zQ,hb];rfl
     have:=hR [some (V.str b.1),some (V.ref lo)] ⟨_,_,rfl⟩;rw[e] at this;exact this
   . have e:(zW (ps.map V.ref).length).map (fun k=>V.str (bs.getD k (⟨#[]⟩,[])).1)=(bs.map (·.1)).map V.str:=by
       rw[Av];refine cF _ bs _ _ (by rw[be,hpl]) fun k x hx=>?_;rw[zQ,hx];rfl
     rw[e];refine⟨D,bs.map (·.1),rfl,SqL.of ac,by rw[be];omega,fun x hx=>?_,fun g H' S'=>⟨(af.updN hD).trans S',g⟩,fun g H' S'=>qe (fun g2=>g g2.gn) H' ((af.updN hD).trans S')⟩;obtain⟨b,hb,rfl⟩:=List.mem_map.mp hx;exact X.bh b hb
 rintro σ1 H1 ⟨rfl,S1,hgn⟩;walk_at"";refine⟨⟨_,SqL.of (S1 _ _ hlb)⟩,?_⟩;refine bg (H0:=H) (aG (SqL.of hlb)) (fun i σ' H'=>∃ o2 o3,σ'=[some (.ref l),some (.ref lb),o2,o3]∧af H H'∧∀ b∈bs.take i,GO ss b.2) ⟨none,none,rfl,S1,fun x hx=>by simp at hx⟩ (fun _ _ _ _ ⟨_,_,_,h,_⟩=>h) ?_ ?_
 . rintro i x σ H' hi hx ⟨o2,o3,rfl,hS,hall⟩;rw[zO] at hx;obtain⟨y,hy,rfl⟩:=Option.map_eq_some_iff.mp hx;obtain⟨b,hb⟩:∃ b,bs[i]?=some b:=⟨_,zN (by rw[be] at hi;omega)⟩;obtain⟨lo,ht,hlo⟩:=hB i y b hy hb;have hbm:b∈bs:=zS hb;refine dY (hS _ _ ht) ?_;walk_at"";refine⟨l,lo,ss,b.2,rfl,hS.seq hl,SqL.of (hS _ _ hlo),X.ol b hbm,X.oh b hbm,fun g H2 S2=>⟨hS.trans S2,fun x hx=>?_⟩,fun g H2 S2=>qe (fun g2=>g (g2.go b hbm)) H2 (hS.trans S2)⟩;rw[bu hb] at hx
   rcases List.mem_append.mp hx with hx | hx
   . exact hall x hx
   . rw[List.mem_singleton.mp hx];exact g
 . rintro σ H' ⟨o2,o3,rfl,hS,hall⟩;rw[be,hpl,AI] at hall;exact q ⟨hb8,hgn,hall⟩ _ hS
def cV (H H':Hp):Hp:=fun a=>match H a with | none=>H' a | some _=>none
theorem eM {H H':Hp}{a:Addr}(h:H a=none):cV H H' a=H' a:=by
 unfold cV;rw[h]
theorem ln {H H':Hp}:af (cV H H') H':=fun a o e=>by
 unfold cV at e
 split at e
 . exact e
 . cases e
theorem gK {H G H':Hp}(S:af H G):af (cV G H') (cV H H'):=fun a o e=>by
 cases hG:G a with
 | none=>rw[eM hG] at e;rw[eM (S.free hG)];exact e
 | some u=>unfold cV at e;rw[hG] at e;cases e
def nb (K:PySem.W.Frag)(C cB:Addr):Sp:=fun vs H Q E=>∃ (x dx l lb:Addr)(ss:List Str)(bs:List (Str×List Str)),vs=[.ref x,.ref l,.ref lb]∧H x=some (.ins C dx [])∧SqL K H l (ss.map V.str)∧gN H lb bs∧nD ss bs ∧
 (aN ss bs→∀ H',af (hide H x) H'→bv (cV (hide H x) H') C x ss bs→Q .non H')∧(¬aN ss bs→∀ H',af H H'→E (.ref cB) none H')
theorem vG {C f fS fB cB:Addr}{fd fdS fdB:FuncData}(F:Fun K "__init__" "Book.__init__" ra f fd)(T:Txt mg)(c:Cls K C)(nO:NoAttr K C "order")(nT:NoAttr K C "tables")
   (GS:Cl P w K mg base (CX1 P w) 3 "check_shades" ["shades"] (jF K cB) fS fdS)
   (GB:Cl P w K mg base (CX1 P w) 3 "check_baths" ["shades", "baths"] (lK K cB) fB fdB) :
   aU P w K mg base (CX1 P w) 4 f fd ["self", "shades", "baths"] (nb K C cB):=by
 refine oqX F iP fun cdv A outer s H vs Q E hr h=>?_;obtain⟨x,dx,l,lb,ss,bs,rfl,hx,hl,hb,X,q,qe⟩:=h;have hu:=eA hr
 refine⟨_,aj (aP (pC GS hr bD (aa (pv 1) ae)))
   (aj (aP (pC GB hr bD (aa (pv 1) (aa (pv 2) ae))))
   (aj (eD (pv 0) (cu gu (by rfl) T.tuple (by decide) (aa (al fb (by rfl) T.sorted (by decide) (aa (pv 1) ae)) ae)) rfl)
   (aj (eD (pv 0) ed rfl)
   (ah (bC PassesOwn.leaving rfl (a8 (pv 2)) (cz (n:=2) rfl (aE (pN 3 iP.nd) (aE (pN 4 iP.nd) bS)))
     (ah (dE hu (bB (pv 0) rfl) (pv 3) (kx rfl (by rfl) T.dict (by rfl) T.zip (aa (pv 1) (aa (pv 4) ae))) rfl))))))),?_⟩
 try dsimp only[aC,aM]
 have hs:=aK;have hl0:=rT hx hl;have hb0:=lF hx hb;generalize hH0:hide H x=H0 at hl0 hb0 q
 have SH:af H0 H:=by rw[←hH0];exact bK
 have hx0:H0 x=none:=by rw[←hH0];unfold hide;rw[if_pos rfl]
 refine cut (fun σ' H'=>σ'=[some (.ref x),some (.ref l),some (.ref lb),none,none]∧af H H'∧DM.GS ss) ?_ ?_
 . walk_at"";exact⟨l,ss,rfl,hl,X.sl,X.sh,fun g H' S'=>⟨S',g⟩,fun g H' S'=>qe (fun B=>g B.gs) H' S'⟩
 rintro σ1 H1 ⟨rfl,S1,hgs⟩;refine cut (fun σ' H'=>σ'=[some (.ref x),some (.ref l),some (.ref lb),none,none]∧af H H'∧DM.GB ss bs) ?_ ?_
 . walk_at"";exact⟨l,lb,ss,bs,rfl,S1.seq hl,af.bths S1 hb,X,fun g H' S'=>⟨S1.trans S',g⟩,fun g H' S'=>qe (fun B=>g B.gb) H' (S1.trans S')⟩
 rintro σ2 H2 ⟨rfl,S2,hgb⟩;have B:aN ss bs:=aN.of X hgs hgb;have q:=q B;have hs12:=B.s12;refine cut (fun σ' H'=>∃ t so,σ'=[some (.ref x),some (.ref l),some (.ref lb),none,none]∧af H0 H'∧H' x=some (.ins C dx [("order",.ref t)])∧H' t=some (.tup (so.map V.str))∧so.Perm ss∧Aq so=true∧H0 t=none) ?_ ?_
 . walk_at"";have S02:af H0 H2:=SH.trans S2;have hx2:=S2 _ _ hx;refine⟨ss,S2.seq hl,by omega,fun p so hp hpm hso=>⟨_,.inl ⟨SqL.of ac,fun t ht=>?_⟩⟩⟩
   have hxp:x≠p:=fun e=>by rw[←e,hx2] at hp;cases hp
   have ht2:H2 t=none:=(af.updN hp).free ht
   have hxt:x≠t:=fun e=>by rw[←e,hx2] at ht2;cases ht2
   refine⟨C,dx,[],by rw[ai hxt,ai hxp];exact hx2,c,nO,by decide,((S02.step (S02.free hp)).step (S02.free ht2)).step hx0,t,by rw[ac,kI],so,?_,hpm,hso,S02.free ht2⟩;rw[ai (Ne.symm hxt)];exact ac
 rintro σ3 H3 ⟨t,so,rfl,S3,hx3,ht3,hpm,hso,ht0⟩;refine cut (fun σ' H'=>∃ d,σ'=[some (.ref x),some (.ref l),some (.ref lb),none,none]∧H3 d=none∧H'=upd (upd H3 d (.dK [])) x (.ins C dx [("order",.ref t),("tables",.ref d)])) ?_ ?_
 . walk_at"";intro d hd
   have hxd:x≠d:=fun e=>by rw[←e,hx3] at hd;cases hd
   exact⟨C,dx,_,by rw[ai hxd];exact hx3,c,nT,by rw[zV];decide,d,hd,by rw[jg]⟩
 rintro σ4 H4 ⟨d,rfl,hd3,rfl⟩
 have hxd:x≠d:=fun e=>by rw[←e,hx3] at hd3;cases hd3
 have htx:t≠x:=fun e=>by rw[e,hx3] at ht3;cases ht3
 have htd:t≠d:=fun e=>by rw[←e,ht3] at hd3;cases hd3
 have hd0:H0 d=none:=S3.free hd3;obtain⟨ps,hlb,hpl,hB⟩:=hb0;have hb8:=B.b8;have S4:af H0 (upd (upd H3 d (.dK [])) x (.ins C dx [("order",.ref t),("tables",.ref d)])):=(S3.step hd0).step hx0;walk_at"";refine⟨⟨_,SqL.of (S4 _ _ hlb)⟩,?_⟩
 refine bg (H0:=H0) (aG (SqL.of hlb)) (fun i σ' H'=>∃ (ds:List Addr)(o3 o4:Option V),σ'=[some (.ref x),some (.ref l),some (.ref lb),o3,o4]∧af H0 H'∧H' x=some (.ins C dx [("order",.ref t),("tables",.ref d)])∧H' t=some (.tup (so.map V.str)) ∧
   H' d=some (.dK (bX ((bs.map (·.1)).take i) (ds.map V.ref)))∧ds.length=i∧∀ (j:Nat) r b,ds[j]?=some r→bs[j]?=some b→hide H' d r=some (.dK (ir ss b))∧H0 r=none)
   ⟨[],none,none,rfl,S4,ac,(by rw[ai htx,ai htd];exact ht3),(by rw[ai (Ne.symm hxd)];exact ac),rfl,(by intro j r b h;simp at h)⟩ (fun _ _ _ _ ⟨_,_,_,_,h,_⟩=>h) ?_ ?_
 . rintro i y σ H' hi hy ⟨ds,o3,o4,rfl,hS,hHx,hHt,hHd,hdl,hD⟩;rw[zO] at hy;obtain⟨pr,hpr,rfl⟩:=Option.map_eq_some_iff.mp hy;rw[be,hpl] at hi;obtain⟨b,hb⟩:∃ b,bs[i]?=some b:=⟨_,zN hi⟩;obtain⟨lo,ht,hlo⟩:=hB i pr b hpr hb;have hbm:b∈bs:=zS hb
   have hk:(bs.map (·.1))[i]?=some b.1:=by rw[zO,hb];rfl
   have hnk:b.1∉(bs.map (·.1)).take i:=eF B.bnd hk
   have hln:((bs.map (·.1)).take i).length=(ds.map V.ref).length:=by rw[Af,be,be,hdl];omega
   have hbl:b.2.length=ss.length:=B.bln b hbm;refine dY (hS _ _ ht) ?_;walk_at"";refine⟨ss,hS.seq hl0,_,SqL.of (hS _ _ hlo),by rw[be];exact hbl.symm,by omega,fun r hr=>?_⟩;rw[jP B.snd]
   have hxr:x≠r:=fun e=>by rw[←e,hHx] at hr;cases hr
   have htr:t≠r:=fun e=>by rw[←e,hHt] at hr;cases hr
   have hrd:r≠d:=fun e=>by rw[e,hHd] at hr;cases hr
   refine⟨C,dx,_,by rw[ai hxr];exact hHx,c,nT,_,cQ,d,rfl,_,.inl ⟨_,Sum.inr b.1,by rw[ai (Ne.symm hrd)];exact hHd,rfl,by rw[fV hln,Af];omega,rfl⟩,(hS.step (hS.free hr)).step hd0,by rw[ai hxd,ai hxr];exact hHx,by rw[ai htd,ai htr];exact hHt,ds++[r],?_,by rw[zP,hdl];rfl,fun j r2 b2 hr2 hb2=>?_⟩
   . rw[ac,da _ (bU _ _ _ hnk),bu hk,zU];exact congrArg (fun z=>some (HO.dK z)) (eV b.1 (V.ref r) hln).symm
   . rw[dZ];by_cases hj:j < i
     . rw[zY (by omega)] at hr2;exact⟨af.hide (af.updN hr) _ _ (hD j r2 b2 hr2 hb2).1,(hD j r2 b2 hr2 hb2).2⟩
     . have hj2:j=i:=by
         have:=(List.getElem?_eq_some_iff.mp hr2).1;rw[zP,hdl] at this;simp only[zV] at this;omega
       subst hj2;rw[zT (by omega),hdl,AC] at hr2;cases hr2;rw[hb] at hb2;cases hb2;refine⟨?_,hS.free hr⟩;rw[aW hrd,ac];rfl
 . rintro σ H' ⟨ds,o3,o4,rfl,hS,hHx,hHt,hHd,hdl,hD⟩;rw[be,hpl] at hHd hdl;refine q H' hS ⟨dx,t,d,so,(eM hx0).trans hHx,(eM ht0).trans hHt,hpm,hso,ds,.inl ?_,hdl,fun j r b hr hb=>.inl ((eM (hD j r b hr hb).2).trans (bK _ _ (hD j r b hr hb).1))⟩;rw[eM hd0,hHd,AH (by rw[be];exact zR _)]
theorem xj {so:List Str}{n z:Str}{f:Str→Str}(hd:so.Nodup)(hz:z∈so):lkV so (n,so.map f) z=f z:=by
 obtain⟨i,hi⟩:=AJ hz;have e:bG (ir so (n,so.map f)) (Sum.inr z)=some (V.str (f z)):=dI so ((so.map f).map V.str) i z _ hd hi (by rw[zO,zO,hi];rfl);unfold lkV;rw[e]
def chB (ss so:List Str)(bs:List (Str×List Str)) (t:Str)(os:List Str) (n:Str):Str×List Str:=(n,if n=t then os else so.map (lkB ss bs n))
structure kQ (ss so ns:List Str)(bs:List (Str×List Str)):Prop where
 ps:so.Perm ss
 ts:Aq so=true
 pn:ns.Perm (bs.map (·.1))
 tn:Aq ns=true
theorem uK {ss:List Str}{b:Str×List Str}{z:Str}(hd:ss.Nodup)(hl:b.2.length=ss.length)(hz:z∈ss):lkV ss b z∈b.2:=by
 obtain⟨i,hi⟩:=AJ hz
 have hil:i < b.2.length:=by rw[hl];exact(List.getElem?_eq_some_iff.mp hi).1
 have e:bG (ir ss b) (Sum.inr z)=some (V.str b.2[i]):=dI ss (b.2.map V.str) i z _ hd hi (by rw[zO,zN hil];rfl);unfold lkV;rw[e];exact AR hil
theorem sC {ss so ns:List Str}{bs:List (Str×List Str)}{t:Str}{os:List Str}(B:aN ss bs)(h:kQ ss so ns bs)(hl:os.length=ss.length)(hin:∀ x∈os,x∈ss):aN so (ns.map (chB ss so bs t os)):=by
 have hsl:=h.ps.length_eq
 have hnl:ns.length=bs.length:=by rw[h.pn.length_eq,be]
 have e:(ns.map (chB ss so bs t os)).map (·.1)=ns:=by
   rw[Av];exact List.map_id ns
 refine⟨by rw[hsl];exact B.s1,by rw[hsl];exact B.s12,h.ps.nodup_iff.mpr B.snd,fun x hx=>B.snm x (h.ps.mem_iff.mp hx),fun x hx=>B.snw x (h.ps.mem_iff.mp hx),by rw[be,hnl];exact B.b8,by rw[e];exact h.pn.nodup_iff.mpr B.bnd,fun b hb=>?_,fun b hb=>?_,fun b hb=>?_,fun b hb=>?_⟩
 . obtain⟨n,hn,rfl⟩:=List.mem_map.mp hb;obtain⟨b2,hb2,e2⟩:=List.mem_map.mp (h.pn.mem_iff.mp hn);show a9 n=true;rw[←e2];exact B.bnm b2 hb2
 . obtain⟨n,hn,rfl⟩:=List.mem_map.mp hb;obtain⟨b2,hb2,e2⟩:=List.mem_map.mp (h.pn.mem_iff.mp hn);show Shw n;rw[←e2];exact B.bnw b2 hb2
 . obtain⟨n,hn,rfl⟩:=List.mem_map.mp hb;unfold chB;by_cases c:n=t
   . rw[if_pos c,hl,hsl]
   . rw[if_neg c,be]
 . obtain⟨n,hn,rfl⟩:=List.mem_map.mp hb;obtain⟨b2,hb2,e2⟩:=List.mem_map.mp (h.pn.mem_iff.mp hn);unfold chB;by_cases c:n=t
   . rw[if_pos c];exact fun x hx=>h.ps.mem_iff.mpr (hin x hx)
   . rw[if_neg c];intro x hx;obtain⟨z,hz,rfl⟩:=List.mem_map.mp hx;rw[←e2,eE z B.bnd hb2];exact h.ps.mem_iff.mpr (B.bin b2 hb2 _ (uK B.snd (B.bln b2 hb2) (h.ps.mem_iff.mp hz)))
theorem xg {ss so ns:List Str}{bs:List (Str×List Str)}{t:Str}{os:List Str}(B:aN ss bs)(h:kQ ss so ns bs){n z:Str}(hz:z∈so):lkV so (chB ss so bs t os n) z=if n=t then lkV so (t,os) z else lkB ss bs n z:=by
 unfold chB;by_cases c:n=t
 . rw[if_pos c,if_pos c,c]
 . rw[if_neg c,if_neg c];exact xj (h.ps.nodup_iff.mpr B.snd) hz
theorem lP:aw ["self", "bath", "outs", "baths"] ["self", "bath", "outs"] (ao iW):=sM
def kF (K:PySem.W.Frag)(C cN cB:Addr):Sp:=fun vs H Q E=>∃ (x lu:Addr)(ss os:List Str)(bs:List (Str×List Str)) (z:Str),vs=[.ref x,.str z,.ref lu]∧bv H C x ss bs∧aN ss bs∧Shw z∧H lu=some (.lst (os.map V.str))∧os.length≤100∧(∀ v∈os,Shw v) ∧
 (z∉bs.map (·.1)→E (.ref cN) none H)∧(z∈bs.map (·.1)→¬GO ss os→∀ H',af H H'→E (.ref cB) none H')∧(z∈bs.map (·.1)→GO ss os→∀ y so ns H',H y=none→af H H'→kQ ss so ns bs→aN so (ns.map (chB ss so bs z os))→bv (cV H H') C y so (ns.map (chB ss so bs z os))→Q (.ref y) H')
theorem nC {C f fI fC fS fB fTb cN cB:Addr}{fd fdI fdC fdS fdB fdTb:FuncData}(F:Fun K "changed" "Book.changed" iW f fd)(T:Txt mg)(c:Cls K C)(M:Mk K C fI)
   (GI:aU P w K mg base (CX1 P w) 4 fI fdI ["self", "shades", "baths"] (nb K C cB))(bI:em K fdI ["self", "shades", "baths"] [])(mC:mg "Book"=some (.ref C))
   (GC:Cm P w K mg base (CX1 P w) 1 C "check_bath" ["self", "bath"] (iR C cN) fC fdC)
   (GS:Cm P w K mg base CX0 1 C "shades" ["self"] (iX C) fS fdS)
   (GB:Cm P w K mg base CX0 1 C "baths" ["self"] (kh C) fB fdB)
   (GTb:Cm P w K mg base CX0 2 C "table" ["self", "bath"] (jZ C) fTb fdTb) :
   aU P w K mg base (CX1 P w) 6 f fd ["self", "bath", "outs"] (kF K C cN cB):=by
 refine oqX F lP fun cdv A outer s H vs Q E hr h=>?_;obtain⟨x,lu,ss,os,bs,z,rfl,hbk,B,hz,hlu,hol,hsh,qn,qe,q⟩:=h;have hr1:=hr.mono (j:=1) (by omega);have hr2:=hr.mono (j:=2) (by omega)
 refine⟨_,aj (aP (pM (pv 0) c GC hr1 bD (aa (pv 1) ae)))
   (aj (jw (i:=3) (N':=["name", "outs", "bath", "self"]) (pk:=[none,some 2,some 1,some 0]) lP.nd rfl (Or.inl rfl) rfl (bW.of (by rfl)) (a8 (pM0 (pv 0) c GB hr1 az)) (fun s H ex=>pN 0 (by show(["name", "outs", "bath", "self"]:List Str).Nodup;decide))
       (fun s H ex=>bQ (aa (pv 0) (aa (t8 (ap bM (pv 0) (pv 2) (ax _)) (pv 1) (pM (pv 3) c GTb hr2 az (aa (pv 0) ae))) ae))))
   (ah (aq (ni M GI hr rfl mC bI .nil bD (aa (pM0 (pv 0) c GS hr1 az) (aa (pv 3) ae)))))),?_⟩
 try dsimp only[aC,aM]
 have hs:=aK;have hb8:=B.b8;have hs12:=B.s12;obtain⟨dx,t,d',so,h1,h2,h3,h4,h5⟩:=hbk;have hbk:bv H C x ss bs:=⟨dx,t,d',so,h1,h2,h3,h4,h5⟩;refine cut (fun σ' H'=>σ'=[some (.ref x),some (.str z),some (.ref lu),none]∧H'=H∧z∈bs.map (·.1)) ?_ ?_
 . walk_at"";refine⟨dx,_,h1,bO (by decide) (by decide),x,ss,bs,z,rfl,hbk,B,hz,fun h=>⟨rfl,h⟩,qn⟩
 rintro σ1 H1 ⟨rfl,rfl,hzm⟩;obtain⟨b0,hb0,rfl⟩:=List.mem_map.mp hzm;refine cut (fun σ' H'=>∃ lb ns,σ'=[some (.ref x),some (.str b0.1),some (.ref lu),some (.ref lb)]∧af H1 H'∧ns.Perm (bs.map (·.1))∧Aq ns=true∧gN H' lb (ns.map (chB ss so bs b0.1 os))) ?_ ?_
 . walk_at"";refine⟨dx,_,h1,bO (by decide) (by decide),x,ss,bs,rfl,hbk,B,fun l ns hl hp2 hs2=>?_⟩
   have hnl:ns.length=bs.length:=by rw[hp2.length_eq,be]
   have Sa:af H1 (upd H1 l (.lst (ns.map V.str))):=af.updN hl;refine⟨l,rfl,⟨_,SqL.of ac⟩,fun D hD=>?_⟩;generalize hGG:upd H1 l (.lst (ns.map V.str))=G at Sa hD
   have hGl:G l=some (.lst (ns.map V.str)):=by rw[←hGG];exact ac
   have hD1:H1 D=none:=Sa.free hD
   refine rq (H0:=G) (aG (SqL.of hGl)) (by rw[be];omega) (fun i xs σ' H'=>(∃ o,σ'=[o,some (.ref lu),some (.str b0.1),some (.ref x)])∧af G H'∧H' D=some (.lst xs)∧∃ qs:List Addr,xs=qs.map V.ref∧qs.length=i∧∀ (j:Nat) p n,qs[j]?=some p→ns[j]?=some n→jD (hide H' D) p (chB ss so bs b0.1 os n))
     ⟨⟨none,rfl⟩,af.updN hD,ac,[],rfl,rfl,(by intro j p b h;simp at h)⟩ (fun i xs σ' H' ⟨_,h1,_,qs,h2,h3,_⟩=>⟨h1,by rw[h2,be];exact h3⟩) ?_ ?_
   . rintro i xs σ' H' y hi hy ⟨⟨o1,rfl⟩,hS,hHD,qs,rfl,hql,hqB⟩ R hR;rw[zO] at hy;obtain⟨n,hn,rfl⟩:=Option.map_eq_some_iff.mp hy;have hnm:n∈ns:=zS hn;obtain⟨b,hb,rfl⟩:=List.mem_map.mp (hp2.mem_iff.mp hnm);have S1':af H1 H':=Sa.trans hS
     have last:∀ (v8:Addr)(H3:Hp)(t:Addr),af H' H3→H3 t=none→H3 v8=some (.lst ((chB ss so bs b0.1 os b.1).2.map V.str))→v8≠D→R (.ref t) [some (.str b.1),some (.ref lu),some (.str b0.1),some (.ref x)] (upd H3 t (.tup [.str b.1,.ref v8])):=fun v8 H3 t S3 ht hv hvD=>by
       have ht':H' t=none:=S3.free ht;have S4:=S3.step (o:=.tup [.str b.1,.ref v8]) ht'
       have htD:t≠D:=fun e=>by rw[e,hHD] at ht';cases ht'
       have hvt:v8≠t:=fun e=>by rw[←e,hv] at ht;cases ht
       refine hR _ _ _ (S4 _ _ hHD) ⟨⟨_,rfl⟩,(hS.trans S4).step hD,ac,qs++[t],by rw[zU];rfl,by rw[zP,hql];rfl,fun j p2 n2 hp2 hn2=>?_⟩;rw[dZ];by_cases hj:j < i
       . rw[zY (by omega)] at hp2;exact af.bthAt (af.hide S4) (hqB j p2 n2 hp2 hn2)
       . have hj2:j=i:=by
           have:=(List.getElem?_eq_some_iff.mp hp2).1;rw[zP,hql] at this;simp only[zV] at this;omega
         subst hj2;rw[zT (by omega),hql,AC] at hp2;cases hp2;rw[hn] at hn2;cases hn2;refine⟨v8,?_,?_⟩
         . rw[aW htD];exact ac
         . rw[aW hvD,ai hvt];exact hv
     walk_at"";refine⟨rfl,ay (fun hc=>⟨by omega,fun t ht=>?_⟩) (fun hc=>?_)⟩
     . refine last lu H' t (af.refl _) ht ?_ (fun e=>by rw[e,hD1] at hlu;cases hlu);unfold chB;rw[if_pos hc];exact S1' _ _ hlu
     . refine⟨dx,_,S1' _ _ h1,bO (by decide) (by decide),x,ss,bs,b,rfl,af.book S1' hbk,B,hb,fun l2 so2 hl2 hp3 hs3=>⟨by omega,fun t ht=>?_⟩⟩;have e2:so2=so:=cy hs3 h4 (hp3.trans h3.symm);subst e2;refine last l2 _ t (af.updN hl2) ht ?_ (fun e=>by rw[e,hHD] at hl2;cases hl2);unfold chB;rw[if_neg hc,ac];have e3:lkB ss bs b.1=lkV ss b:=funext fun z=>eE z B.bnd hb;rw[e3]
   . rintro xs σ' H' ⟨_,hS,hHD,qs,rfl,hql,hqB⟩;rw[be] at hql;refine⟨Sa.trans hS,ns,hp2,hs2,qs,hHD,by rw[be];exact hql,fun i p b hp hb=>?_⟩;rw[zO] at hb;obtain⟨n,hn,rfl⟩:=Option.map_eq_some_iff.mp hb;exact af.bthAt bK (hqB i p n hp hn)
 rintro σ2 H2 ⟨lb,ns,rfl,S2,hns,hsn,hB2⟩;have CI:kQ ss so ns bs:=⟨h3,h4,hns,hsn⟩;walk_at"";refine⟨dx,_,S2 _ _ h1,bO (by decide) (by decide),x,ss,bs,rfl,af.book S2 hbk,B,fun l so2 hl hp3 hs3 y dy hy hdy hne=>?_⟩;have e2:so2=so:=cy hs3 h4 (hp3.trans h3.symm);subst e2;generalize hGG:upd H2 l (.lst (so2.map V.str))=G at hy hdy
 have hGl:G l=some (.lst (so2.map V.str)):=by rw[←hGG];exact ac
 have Sa:af H2 G:=by rw[←hGG];exact af.updN hl
 have S5:af G (upd (upd G dy (.own y)) y (.ins C dy [])):=(af.updN hdy).step hy;have hsl:so2.length=ss.length:=h3.length_eq
 have hnl:ns.length=bs.length:=by rw[hns.length_eq,be]
 have XT:nD so2 (ns.map (chB ss so2 bs b0.1 os)):=by
   refine⟨by omega,fun v hv=>B.snw v (h3.mem_iff.mp hv),by rw[be];omega,fun b hb=>?_,fun b hb=>?_,fun b hb v hv=>?_⟩
   . obtain⟨n,hn,rfl⟩:=List.mem_map.mp hb;obtain⟨b2,hb2,e2⟩:=List.mem_map.mp (hns.mem_iff.mp hn);show Shw n;rw[←e2];exact B.bnw b2 hb2
   . obtain⟨n,hn,rfl⟩:=List.mem_map.mp hb;unfold chB;by_cases e:n=b0.1
     . rw[if_pos e];exact hol
     . rw[if_neg e,be];omega
   . obtain⟨n,hn,rfl⟩:=List.mem_map.mp hb;unfold chB at hv;by_cases e:n=b0.1
     . rw[if_pos e] at hv;exact hsh v hv
     . rw[if_neg e] at hv;obtain⟨u,hu,rfl⟩:=List.mem_map.mp hv;obtain⟨b2,hb2,rfl⟩:=List.mem_map.mp (hns.mem_iff.mp hn);rw[eE u B.bnd hb2];exact B.snw _ (B.bin b2 hb2 _ (uK B.snd (B.bln b2 hb2) (h3.mem_iff.mp hu)))
 have S6:af H1 (hide (upd (upd G dy (.own y)) y (.ins C dy [])) y):=(S2.trans Sa).trans (fun u o e=>by
   rw[aW (aF e hy)];exact S5 u o e)
 have hgo:aN so2 (ns.map (chB ss so2 bs b0.1 os))→GO ss os:=fun B2=>by
   have hm:(chB ss so2 bs b0.1 os b0.1)∈ns.map (chB ss so2 bs b0.1 os):=Ao (hns.mem_iff.mpr (Ao hb0))
   have e1:(chB ss so2 bs b0.1 os b0.1).2=os:=by unfold chB;rw[if_pos rfl]
   have l1:=B2.bln _ hm;have l2:=B2.bin _ hm;rw[e1] at l1 l2;exact⟨by omega,fun v hv=>h3.mem_iff.mp (l2 v hv)⟩
 refine⟨y,dy,l,lb,so2,ns.map (chB ss so2 bs b0.1 os),rfl,ac,SqL.of (S5 _ _ hGl),af.bths (Sa.trans S5) hB2,XT,fun B2 H3 S3 hbk=>⟨rfl,q hzm (hgo B2) y so2 ns H3 ((S2.trans Sa).free hy) (S6.trans S3) CI B2 (af.book (gK S6) hbk)⟩,fun nB H3 S3=>qe hzm (fun g=>nB (sC B CI g.1 g.2)) H3 ((S2.trans (Sa.trans S5)).trans S3)⟩
abbrev Bk:=List Str×List (Str×List Str)
structure Hs where
 cl:List (Str×Str)
 day:Int
 dp:List (Int×Str×Str×Str)
 bk:List (Int×Bk)
def clV (cl:List (Str×Str)):List (Key×V):=cl.map fun c=>(Sum.inr c.1,V.str c.2)
def bkV (bk:List (Int×Bk))(rs:List Addr):List (Key×V):=(bk.zip rs).map fun e=>(Sum.inl e.1.1,V.ref e.2)
structure Ad where
 x:Addr
 dx:Addr
 d1:Addr
 ls:Addr
 db:Addr
def hid (H:Hp)(A:Ad):Hp:=fun b=>if b=A.x∨b=A.d1∨b=A.ls∨b=A.db then none else H b
theorem aZ {H:Hp}{A:Ad}:af (hid H A) H:=fun b o e=>by
 unfold hid at e
 split at e
 . cases e
 . exact e
theorem ck {H H':Hp}{A:Ad}(S:af H H'):af (hid H A) (hid H' A):=fun b o e=>by
 unfold hid at e ⊢
 split at e
 . cases e
 . rename_i h;rw[if_neg h];exact S b o e
def hfs (A:Ad) (day:Int):List (Str×V):=[("first_shades",.ref A.d1),("day_now",.int day),("standing",.ref A.ls),("books_from",.ref A.db)]
structure aI (H:Hp)(C CB:Addr)(A:Ad)(W:Hp)(ss:List Str) (h:Hs):Prop where
 ins:H A.x=some (.ins C A.dx (hfs A h.day))
 cl:H A.d1=some (.dK (clV h.cl))
 dp:∃ ps:List Addr,H A.ls=some (.lst (ps.map V.ref))∧ps.length=h.dp.length∧∀ (i:Nat) p e,ps[i]?=some p→h.dp[i]?=some e→W p=some (.tup [.int e.1,.str e.2.1,.str e.2.2.1,.str e.2.2.2])
 bk:∃ rs:List Addr,H A.db=some (.dK (bkV h.bk rs))∧rs.length=h.bk.length∧∀ (i:Nat) r e,rs[i]?=some r→h.bk[i]?=some e→bv W CB r e.2.1 e.2.2
 ne:A.d1≠A.db
 sub:af W (hid H A)
def dH (H W W':Hp):Prop:=af W W'∧∀ b o,W b=none→H b=some o→W' b=none
theorem dH.refl (H W:Hp):dH H W W:=⟨af.refl W,fun _ _ h _=>h⟩
structure bH (ss:List Str)(names:List Str) (h:Hs):Prop where
 cnd:(h.cl.map (·.1)).Nodup
 csh:∀ c∈h.cl,c.2∈ss
 cnm:∀ c∈h.cl,a9 c.1=true
 d1:1≤h.day
 d4:h.day≤400
 dl:h.dp.length≤1000
 dd:∀ e∈h.dp,1≤e.1∧e.1≤h.day
 ds:∀ e∈h.dp,e.2.2.2∈ss
 k1:∃ b r,h.bk=(1,b)::r
 ks:h.bk.Pairwise (fun a b=>a.1 < b.1)
 kd:∀ e∈h.bk,1≤e.1∧e.1≤h.day
 kl:h.bk.length≤400
 kb:∀ e∈h.bk,aN e.2.1 e.2.2∧(∀ n,n∈e.2.2.map (·.1)↔n∈names)∧∀ z,z∈e.2.1↔z∈ss
def aR:List (Int×Bk)→Int→Bk
 | [],_=>([],[])
 | [e],_=>e.2
 | e::e2::r,d=>if e2.1≤d then aR (e2::r) d else e.2
theorem ju:∀ (bk:List (Int×Bk)) (d M:Int)(b:Bk),bk.Pairwise (fun a b=>a.1 < b.1)→(M,b)∈bk→M≤d→(∀ e∈bk,e.1≤d→e.1≤M)→aR bk d=b
 | [],_,_,_,_,h,_,_=>by cases h
 | [e],d,M,b,_,h,_,_=>by rw[List.mem_singleton] at h;rw[←h];rfl
 | e::e2::r,d,M,b,hp,h,hM,hx=>by
   have hp2:=List.pairwise_cons.mp hp;unfold aR;by_cases h2:e2.1≤d
   . rw[if_pos h2]
     rcases List.mem_cons.mp h with h | h
     . have h3:=hp2.1 e2 zZ;have h4:=hx e2 (z7 _ zZ) h2;rw[←h] at h3;exact absurd h3 (by show ¬(M < e2.1);omega)
     . exact ju (e2::r) d M b hp2.2 h hM fun e he=>hx e (z7 _ he)
   . rw[if_neg h2]
     rcases List.mem_cons.mp h with h | h
     . rw[←h]
     . rcases List.mem_cons.mp h with h | h
       . rw[←h] at h2;exact absurd hM h2
       . have:=(List.pairwise_cons.mp hp2.2).1 _ h;exact absurd hM (by show ¬(M≤d);have h5:e2.1 < M:=this;omega)
theorem eo {cl:List (Str×Str)}{c:Str×Str}(hd:(cl.map (·.1)).Nodup)(h:c∈cl):bG (clV cl) (Sum.inr c.1)=some (V.str c.2):=by
 induction cl with
 | nil=>cases h
 | cons a r ih =>
   rw[Ac,BH] at hd;unfold clV bG;rw[Ac,A9];by_cases e:a.1=c.1
   . rcases List.mem_cons.mp h with h | h
     . rw[h];simp
     . exact absurd (Ao (f:=(·.1)) h) (by rw[←e];exact hd.1)
   . rcases List.mem_cons.mp h with h | h
     . exact absurd (by rw[h]) e
     . have:=ih hd.2 h;unfold clV bG at this;simp only[Sum.inr.injEq,e,decide_false];exact this
theorem bL {cl:List (Str×Str)}{z:Str}(h:z∉cl.map (·.1)):bG (clV cl) (Sum.inr z)=none:=by
 unfold bG clV;rw[Option.map_eq_none_iff,List.find?_eq_none];intro kv hkv;obtain⟨c,hc,rfl⟩:=List.mem_map.mp hkv;simp only[Sum.inr.injEq,decide_eq_true_eq];exact fun e=>h (by rw[←e];exact Ao hc)
theorem gI {H:Hp}{A:Ad}{b:Addr}{o:HO}(h:hid H A b=some o):H b=some o∧b≠A.x∧b≠A.d1∧b≠A.ls∧b≠A.db:=by
 unfold hid at h
 split at h
 . cases h
 . rename_i hn;exact⟨h,fun e=>hn (.inl e),fun e=>hn (.inr (.inl e)),fun e=>hn (.inr (.inr (.inl e))),fun e=>hn (.inr (.inr (.inr e)))⟩
theorem af.house {H H':Hp}{C CB:Addr}{A:Ad}{W:Hp}{ss:List Str}{h:Hs}(S:af H H')(hh:aI H C CB A W ss h):aI H' C CB A W ss h:=by
 obtain⟨h1,h2,⟨ps,h3,h4,h5⟩,⟨rs,h6,h7,h8⟩,h9,h10⟩:=hh;exact⟨S _ _ h1,S _ _ h2,⟨ps,S _ _ h3,h4,h5⟩,⟨rs,S _ _ h6,h7,h8⟩,h9,h10.trans (ck S)⟩
theorem mo {H:Hp}{A:Ad}{b:Addr}{o:HO}(b1:b≠A.x)(b2:b≠A.d1)(b3:b≠A.ls)(b4:b≠A.db):hid (upd H b o) A=upd (hid H A) b o:=by
 funext y;unfold hid;by_cases hy:y=A.x∨y=A.d1∨y=A.ls∨y=A.db
 . rw[if_pos hy]
   have hyb:y≠b:=fun e=>by rw[e] at hy;rcases hy with z | z | z | z;exact b1 z;exact b2 z;exact b3 z;exact b4 z
   rw[ai hyb,if_pos hy]
 . rw[if_neg hy];by_cases e:y=b
   . rw[e,ac,ac]
   . rw[ai e,ai e,if_neg hy]
theorem aI.upd {H:Hp}{C CB:Addr}{A:Ad}{W:Hp}{ss:List Str}{h:Hs}{b:Addr}{u o:HO}(hh:aI H C CB A W ss h)(hb:hid H A b=some u)(hw:W b=none):aI (L2.upd H b o) C CB A W ss h:=by
 obtain⟨hb0,b1,b2,b3,b4⟩:=gI hb;obtain⟨h1,h2,⟨ps,h3,h4,h5⟩,⟨rs,h6,h7,h8⟩,h9,h10⟩:=hh;refine⟨by rw[ai (Ne.symm b1)];exact h1,by rw[ai (Ne.symm b2)];exact h2,⟨ps,by rw[ai (Ne.symm b3)];exact h3,h4,h5⟩,⟨rs,by rw[ai (Ne.symm b4)];exact h6,h7,h8⟩,h9,?_⟩;rw[mo b1 b2 b3 b4]
 exact fun y v e=>by rw[ai (aF e hw)];exact h10 y v e
theorem aI.up {H:Hp}{C CB:Addr}{A:Ad}{W:Hp}{ss:List Str}{h:Hs}(hh:aI H C CB A W ss h):af W H:=hh.sub.trans aZ
theorem dJ {A:Ad}{d:Int}:Aj (zM "first_shades") (hfs A d)=some (.ref A.d1):=rfl
theorem vP {A:Ad}{d:Int}:Aj (zM "day_now") (hfs A d)=some (.int d):=rfl
theorem fH {A:Ad}{d:Int}:Aj (zM "standing") (hfs A d)=some (.ref A.ls):=rfl
theorem kM {A:Ad}{d:Int}:Aj (zM "books_from") (hfs A d)=some (.ref A.db):=rfl
theorem ee {A:Ad}{d:Int}{m:Str}(h1:(m==zM "first_shades")=false)(h2:(m==zM "day_now")=false)(h3:(m==zM "standing")=false)(h4:(m==zM "books_from")=false):Aj m (hfs A d)=none:=by
 unfold hfs;rw[Al,h1];show Aj m [(zM "day_now",V.int d),(zM "standing",V.ref A.ls),(zM "books_from",V.ref A.db)]=none;rw[Al,h2];show Aj m [(zM "standing",V.ref A.ls),(zM "books_from",V.ref A.db)]=none;rw[Al,h3];show Aj m [(zM "books_from",V.ref A.db)]=none;rw[Al,h4];rfl
structure Hx (K:PySem.W.Frag)(mg:Str→Option Value)(C:Addr):Prop where
 c:Cls K C
 n1:NoAttr K C "first_shades"
 n2:NoAttr K C "day_now"
 n3:NoAttr K C "standing"
 n4:NoAttr K C "books_from"
 fd:∃ t,mg "FIRST_DAY"=some (.int 1 t)
 ld:∃ t,mg "LAST_DAY"=some (.int 400 t)
 mc:∃ t,mg "MOST_CLOTHS"=some (.int 50 t)
 md:∃ t,mg "MOST_DIPS"=some (.int 1000 t)
 max:mg "max"=none
def jA (cND:Addr):Sp:=fun vs H Q E=>∃ d:Int,vs=[.int d]∧((1≤d∧d≤400)→Q .non H)∧(¬(1≤d∧d≤400)→E (.ref cND) none H)
theorem yh:aw ["day"] ["day"] (ao uy):=sM
theorem wy {f:Addr}{fd:FuncData}{CH CB cND:Addr}(F:Fun K "check_day" "check_day" uy f fd)
   (T:Txt mg)(hX:Hx K mg CH)(cB:Cls K CB)(XND:ExcC K cND)(mND:mg "NoDay"=some (.ref cND)) :
   aU P w K mg base (CX1 P w) 1 f fd ["day"] (jA cND):=by
 refine oqX F yh fun cdv A outer s H vs Q E hr h=>?_;obtain⟨d,rfl,q,qe⟩:=h;obtain⟨_,hfd⟩:=hX.fd;obtain⟨_,hld⟩:=hX.ld;refine⟨_,(ah (aB (PW.pt (d8 (ap cY (pv 0) (bc (v:=.int 1) rfl hfd ⟨_,rfl⟩) (ax _)) (cM (ap fw (pv 0) (bc (v:=.int 400) rfl hld ⟨_,rfl⟩) (ax _))))) (ah (bA rfl rfl mND XND.exc z9 (aa aA ae) df)) am)),?_⟩
 try dsimp only[aC,aM]
 walk_at"";refine ay (fun h=>⟨by decide,qe (by omega)⟩) (fun h1=>ay (fun h=>⟨by decide,qe (by omega)⟩) (fun h2=>q (by omega)))
def vf (CH CB cNC:Addr):Sp:=fun vs H Q E=>∃ (A:Ad)(W:Hp)(ss:List Str) (h:Hs) (z:Str),vs=[.ref A.x,.str z]∧aI H CH CB A W ss h∧Shw z∧(h.cl.map (·.1)).Nodup∧(z∈h.cl.map (·.1)→Q .non H)∧(z∉h.cl.map (·.1)→E (.ref cNC) none H)
theorem ze:aw ["self", "cloth"] ["self", "cloth"] (ao j9):=sM
theorem yE {f:Addr}{fd:FuncData}{CH CB cNC:Addr}(F:Fun K "check_cloth" "House.check_cloth" j9 f fd)
   (T:Txt mg)(hX:Hx K mg CH)(cB:Cls K CB)(XNC:ExcC K cNC)(mNC:mg "NoCloth"=some (.ref cNC)) :
   aU P w K mg base (CX1 P w) 1 f fd ["self", "cloth"] (vf CH CB cNC):=by
 refine oqX F ze fun cdv A outer s H vs Q E hr h=>?_;obtain⟨A0,W,ss,h,z,rfl,hh,hz,hnd,q,qe⟩:=h;have hu:=eA hr;refine⟨_,(ah (aB (fc (dA hu (pv 1) (bB (pv 0) rfl))) (ah (bA rfl rfl mNC XNC.exc z9 (aa (fg (pv 1)) ae) df)) am)),?_⟩
 try dsimp only[aC,aM]
 by_cases hm:z∈h.cl.map (·.1)
 . obtain⟨c,hc,rfl⟩:=List.mem_map.mp hm;walk_at"";exact⟨CH,A0.dx,_,hh.ins,hX.c,hX.n1,_,dJ,A0.d1,rfl,_,.inl ⟨_,Sum.inr c.1,.inl hh.cl,rfl,(eo hnd hc).symm⟩,q hm⟩
 . walk_at"";exact⟨CH,A0.dx,_,hh.ins,hX.c,hX.n1,_,dJ,A0.d1,rfl,none,.inl ⟨_,Sum.inr z,.inl hh.cl,rfl,(bL hm).symm⟩,hz.1,hz.2,fun y=>⟨by decide,qe hm⟩⟩
def rJ (CH CB cND cLa:Addr):Sp:=fun vs H Q E=>∃ (A:Ad)(W:Hp)(ss:List Str) (h:Hs) (d:Int),vs=[.ref A.x,.int d]∧aI H CH CB A W ss h∧((1≤d∧d≤400)→h.day≤d→Q .non H)∧(¬(1≤d∧d≤400)→E (.ref cND) none H)∧((1≤d∧d≤400)→d < h.day→E (.ref cLa) none H)
theorem yU:aw ["self", "day"] ["self", "day"] (ao qW):=sM
theorem yz {f fCD:Addr}{fd fdCD:FuncData}{CH CB cLa cND:Addr}(F:Fun K "check_day_to_do" "House.check_day_to_do" qW f fd)
   (T:Txt mg)(hX:Hx K mg CH)(cB:Cls K CB)(XLa:ExcC K cLa)(mLa:mg "Late"=some (.ref cLa))
   (GCD:Cl P w K mg base (CX1 P w) 1 "check_day" ["day"] (jA cND) fCD fdCD) :
   aU P w K mg base (CX1 P w) 2 f fd ["self", "day"] (rJ CH CB cND cLa):=by
 refine oqX F yU fun cdv A outer s H vs Q E hr h=>?_;obtain⟨A0,W,ss,h,d,rfl,hh,q,qd,ql⟩:=h;have hr1:=hr.mono (j:=1) (by omega)
 refine⟨_,(aj (aP (pC GCD hr1 bD (aa (pv 1) ae)))
   (ah (aB (ap cY (pv 1) (bB (pv 0) rfl) (ax _)) (ah (bA rfl rfl mLa XLa.exc z9 (aa aA ae) df)) am))),?_⟩
 try dsimp only[aC,aM]
 refine au (fun σ' H'=>(1≤d∧d≤400)∧σ'=[some (.ref A0.x),some (.int d)]∧H'=H) (fun R hR=>?_) ?_
 . walk_at"";exact⟨d,rfl,fun hd=>hR _ _ ⟨hd,rfl,rfl⟩,qd⟩
 rintro σ1 H1 ⟨hd,rfl,rfl⟩;walk_at"";exact⟨CH,A0.dx,_,hh.ins,hX.c,hX.n2,_,vP,_,rfl,ay (fun h1=>⟨by decide,ql hd h1⟩) (fun h1=>q hd (by omega))⟩
theorem mh {bk:List (Int×Bk)}{rs:List Addr}(h:rs.length=bk.length):(bkV bk rs).length=bk.length:=by
 unfold bkV;rw[be,Bu,h,CF]
theorem rX:∀ {bk:List (Int×Bk)}{rs:List Addr}{i:Nat}{e:Int×Bk}{r:Addr},bk.Pairwise (fun a b=>a.1 < b.1)→bk[i]?=some e→rs[i]?=some r→bG (bkV bk rs) (Sum.inl e.1)=some (V.ref r)
 | [],_,i,_,_,_,h,_=>by simp at h
 | a::bk,[],i,_,_,_,_,h=>by simp at h
 | a::bk,r0::rs,0,e,r,_,h1,h2=>by
   simp only[List.getElem?_cons_zero,Option.some.injEq] at h1 h2;subst h1 h2;unfold bkV bG;simp
 | a::bk,r0::rs,i+1,e,r,hp,h1,h2=>by
   simp only[List.getElem?_cons_succ] at h1 h2;have hp2:=List.pairwise_cons.mp hp;have hlt:=hp2.1 e (zS h1);have ih:=rX hp2.2 h1 h2;unfold bkV bG at ih ⊢;rw[A5,Ac,A9]
   have hne:¬(a.1=e.1):=by omega
   simp only[Sum.inl.injEq,hne,decide_false];exact ih
def gM (CH CB cND:Addr):Sp:=fun vs H Q E=>∃ (A:Ad)(W:Hp)(ss names:List Str) (h:Hs) (d:Int),vs=[.ref A.x,.int d]∧aI H CH CB A W ss h∧bH ss names h∧((1≤d∧d≤400)→∀ r H',af H H'→bv W CB r (aR h.bk d).1 (aR h.bk d).2→Q (.ref r) H')∧(¬(1≤d∧d≤400)→E (.ref cND) none H)
theorem wP:aw ["self", "day"] ["self", "day"] (ao qZ):=sM
theorem vg {f fCD:Addr}{fd fdCD:FuncData}{CH CB cND:Addr}(F:Fun K "book" "House.book" qZ f fd)
   (T:Txt mg)(hX:Hx K mg CH)(cB:Cls K CB)
   (GCD:Cl P w K mg base (CX1 P w) 1 "check_day" ["day"] (jA cND) fCD fdCD) :
   aU P w K mg base (CX1 P w) 2 f fd ["self", "day"] (gM CH CB cND):=by
 refine oqX F wP fun cdv A outer s H vs Q E hr h=>?_;obtain⟨A0,W,ss,names,h,d,rfl,hh,ho,q,qd⟩:=h;have hu:=eA hr;have hr1:=hr.mono (j:=1) (by omega)
 refine⟨_,(aj (aP (pC GCD hr1 bD (aa (pv 1) ae)))
   (ah (aq (cv hu (bB (pv 0) rfl) (al (tV rfl) (by rfl) hX.max (by decide) (aa (wq (eQ (N':=["start", "day"]) (pk:=[none,some 1]) rfl (bW.of (by rfl)) (mz (bB (pv 0) rfl)) (fun s H ex=>(pN 0 (by show(["start", "day"]:List Str).Nodup;decide))) (fun s H ex=>(ap sj (pv 0) (pv 1) (ax _))) (fun s H ex=>(pv 0)))) ae)) (fun _ _=>rfl))))),?_⟩
 try dsimp only[aC,aM]
 have hs:=aK;refine au (fun σ' H'=>(1≤d∧d≤400)∧σ'=[some (.ref A0.x),some (.int d)]∧H'=H) (fun R hR=>?_) ?_
 . walk_at"";exact⟨d,rfl,fun hd=>hR _ _ ⟨hd,rfl,rfl⟩,qd⟩
 rintro σ1 H1 ⟨hd,rfl,rfl⟩;obtain⟨rs,hdb,hrl,hrB⟩:=hh.bk;have hkl:=ho.kl
 have hnf:∀ o u,H1 A0.db≠some (.frz o u):=fun o u e=>by rw[hdb] at e;cases e
 have hkm:(bkV h.bk rs).map (·.1)=h.bk.map (fun e=>Sum.inl e.1):=by
   unfold bkV;rw[Av];have:(fun e:(Int×Bk)×Addr=>(Sum.inl e.1.1:Key))=(fun e=>(Sum.inl e.1:Key))∘Prod.fst:=rfl;show(h.bk.zip rs).map (fun e=>(Sum.inl e.1.1:Key))=_;rw[this,←Av,List.map_fst_zip (by omega)]
 walk_at"";refine⟨CH,A0.dx,_,hh.ins,hX.c,hX.n4,_,kM,CH,A0.dx,_,hh.ins,hX.c,hX.n4,_,kM,A0.db,rfl,_,.inl ⟨hdb,fun o D hD=>?_⟩⟩
 have hDb:D≠A0.db:=fun e=>by rw[e,ac] at hD;cases hD
 refine fh (fN (H1:=upd H1 A0.db (.frz o (.dK (bkV h.bk rs)))) ac) (by rw[mh hrl];omega) hD (fun σ=>∃ o,σ=[o,some (.int d)]) (fun i=>decide ((h.bk.getD i (0,([],[]))).1≤d)) (fun i=>V.int (h.bk.getD i (0,([],[]))).1) ⟨none,rfl⟩ ?_ ?_
 . rintro i x σ' H3 hi ⟨k,v,hk,rfl⟩ ⟨o2,rfl⟩ hS R1 R0 h1 h0;rw[mh hrl] at hi;obtain⟨e,he⟩:∃ e,h.bk[i]?=some e:=⟨_,zN hi⟩
   have ek:k=Sum.inl e.1:=by
     have:=congrArg (fun l=>l[i]?) hkm;simp only[zO,hk,he] at this
     simpa using this
   subst ek
   have eg:h.bk.getD i (0,([],[]))=e:=by rw[zQ,he];rfl
   rw[eg] at h1 h0;walk_at"";refine⟨_,rfl,ay (fun hle=>h1 (decide_eq_true (by simpa using hle)) _ ⟨_,rfl⟩) (fun hle=>h0 (decide_eq_false (by simpa using hle)) _ ⟨_,rfl⟩)⟩
 . refine .inr ⟨A0.db,o,_,by rw[ai (Ne.symm hDb)];exact ac,hnf,?_⟩
   have hD1:H1 D=none:=by rw[ai hDb] at hD;exact hD
   have SF:∀ L:List V,af H1 (upd (upd (upd H1 A0.db (.frz o (.dK (bkV h.bk rs)))) D (.lst L)) A0.db (.dK (bkV h.bk rs))):=fun L b ob e=>by
     by_cases hb:b=A0.db
     . rw[hb,hdb] at e;rw[hb,ac];exact e
     . rw[ai hb,ai (aF e hD1),ai hb];exact e
   rw[mh hrl]
   have eL:((zW h.bk.length).filter (fun i=>decide ((h.bk.getD i (0,([],[]))).1≤d))).map (fun i=>V.int (h.bk.getD i (0,([],[]))).1)=(((zW h.bk.length).filter (fun i=>decide ((h.bk.getD i (0,([],[]))).1≤d))).map (fun i=>(h.bk.getD i (0,([],[]))).1)).map V.int:=by rw[Av];rfl
   rw[eL]
   have mem:∀ M,M∈((zW h.bk.length).filter (fun i=>decide ((h.bk.getD i (0,([],[]))).1≤d))).map (fun i=>(h.bk.getD i (0,([],[]))).1)↔∃ (i:Nat)(e:Int×Bk),h.bk[i]?=some e∧e.1≤d∧e.1=M:=fun M=>by
     rw[List.mem_map];constructor
     . rintro⟨i,hi,rfl⟩;obtain⟨h1,h2⟩:=List.mem_filter.mp hi;have hl:=List.mem_range.mp h1;refine⟨i,h.bk.getD i (0,([],[])),?_,by simpa using h2,rfl⟩;rw[zQ,zN hl];rfl
     . rintro⟨i,e,h1,h2,rfl⟩
       have eg:h.bk.getD i (0,([],[]))=e:=by rw[zQ,h1];rfl
       exact⟨i,List.mem_filter.mpr ⟨List.mem_range.mpr (List.getElem?_eq_some_iff.mp h1).1,by rw[eg];exact decide_eq_true h2⟩,by rw[eg]⟩
   refine⟨_,SqL.of (by rw[ai hDb];exact ac),?_,fun M hM hmax=>?_⟩
   . obtain⟨b0,r0,hb0⟩:=ho.k1;exact BN ((mem 1).mpr ⟨0,(1,b0),by rw[hb0];rfl,hd.1,rfl⟩)
   . obtain⟨i,e,he,hle,rfl⟩:=(mem M).mp hM;obtain⟨r,hr0⟩:∃ r,rs[i]?=some r:=⟨_,zN (by rw[hrl];exact(List.getElem?_eq_some_iff.mp he).1)⟩;refine⟨A0.db,rfl,V.ref r,.inl ⟨_,Sum.inl e.1,.inl ac,rfl,(rX ho.ks he hr0).symm⟩,q hd r _ (SF _) ?_⟩
     rw[ju h.bk d e.1 e.2 ho.ks (zS he) hle fun e2 he2 hle2=>by
       obtain⟨j,hj⟩:=AJ he2
       exact hmax _ ((mem e2.1).mpr ⟨j,e2,hj,hle2,rfl⟩)]
     exact hrB i r e hr0 he
def l6 (CH CB:Addr):Sp:=fun vs H Q E=>∃ (A:Ad)(W:Hp)(ss names:List Str) (h:Hs),vs=[.ref A.x]∧aI H CH CB A W ss h∧bH ss names h∧(∀ r H',af H H'→bv W CB r (aR h.bk 400).1 (aR h.bk 400).2→Q (.ref r) H')
theorem yf:aw ["self"] ["self"] (ao kA):=sM
theorem wV {f fHB:Addr}{fd fdHB:FuncData}{CH CB cND:Addr}(F:Fun K "newest_book" "House.newest_book" kA f fd)
   (T:Txt mg)(hX:Hx K mg CH)(cB:Cls K CB)
   (GHB:Cm P w K mg base (CX1 P w) 2 CH "book" ["self", "day"] (gM CH CB cND) fHB fdHB) :
   aU P w K mg base (CX1 P w) 3 f fd ["self"] (l6 CH CB):=by
 refine oqX F yf fun cdv A outer s H vs Q E hr h=>?_;obtain⟨A0,W,ss,names,h,rfl,hh,ho,q⟩:=h;obtain⟨_,hld⟩:=hX.ld;have cH:=hX.c;have hr2:=hr.mono (j:=2) (by omega);refine⟨_,(ah (aq (pM (pv 0) cH GHB hr2 bD (aa (bc (v:=.int 400) rfl hld ⟨_,rfl⟩) ae)))),?_⟩
 try dsimp only[aC,aM]
 walk_at"";exact⟨A0.dx,_,hh.ins,ee (by decide) (by decide) (by decide) (by decide),A0,W,ss,names,h,400,rfl,hh,ho,fun _=>q,fun hn=>absurd (by omega) hn⟩
def aX (dp:List (Int×Str×Str×Str)) (c:Str) (d:Int):List (Int×Str×Str):=(dp.filter fun e=>decide (e.2.1=c)&&decide (e.1≤d)).map fun e=>(e.1,e.2.2.1,e.2.2.2)
def bf (dp:List (Int×Str×Str×Str)) (d:Int):List (Str×Str):=(dp.filter fun e=>decide (e.1=d)).map fun e=>(e.2.1,e.2.2.1)
def aV (h:Hs) (c:Str) (d:Int):Str:=match (aX h.dp c d).getLast? with
 | some e=>e.2.2
 | none=>((h.cl.lookup c).getD ⟨#[]⟩)
abbrev d0:Int×Str×Str×Str:=(0,⟨#[]⟩,⟨#[]⟩,⟨#[]⟩)
theorem fo {α β:Type}(l:List α)(dflt:α)(p:α→Bool)(f:α→β):(((zW l.length).filter (fun i=>p (l.getD i dflt))).map (fun i=>f (l.getD i dflt)))=(l.filter p).map f:=by
 have e:l=(zW l.length).map (fun i=>l.getD i dflt):=by
   refine Ci fun i=>?_;rw[zO];by_cases hi:i < l.length
   . rw[B5 hi,zN hi];show _=some (l.getD i dflt);rw[zQ,zN hi];rfl
   . rw[Be (by omega),Be (by simpa using hi)];rfl
 conv=>rhs;rw[e]
 rw[List.filter_map,Av];rfl
def hJ (CH CB cNC cND:Addr):Sp:=fun vs H Q E=>∃ (A:Ad)(W:Hp)(ss names:List Str) (h:Hs) (z:Str) (d:Int),vs=[.ref A.x,.str z,.int d]∧aI H CH CB A W ss h∧bH ss names h∧Shw z∧(z∈h.cl.map (·.1)→(1≤d∧d≤400)→∀ l ps H',af H H'→H l=none→H' l=some (.lst (ps.map V.ref))→cf H' ps ((aX h.dp z d).map fun e=>[.int e.1,.str e.2.1,.str e.2.2])→Q (.ref l) H')∧(z∉h.cl.map (·.1)→E (.ref cNC) none H)∧(z∈h.cl.map (·.1)→¬(1≤d∧d≤400)→E (.ref cND) none H)
theorem uk:aw ["self", "cloth", "day"] ["self", "cloth", "day"] (ao mM):=sM
theorem sN {f fHC fCD:Addr}{fd fdHC fdCD:FuncData}{CH CB cNC cND:Addr}(F:Fun K "trail" "House.trail" mM f fd)
   (T:Txt mg)(hX:Hx K mg CH)(cB:Cls K CB)
   (GHC:Cm P w K mg base (CX1 P w) 1 CH "check_cloth" ["self", "cloth"] (vf CH CB cNC) fHC fdHC)
   (GCD:Cl P w K mg base (CX1 P w) 1 "check_day" ["day"] (jA cND) fCD fdCD) :
   aU P w K mg base (CX1 P w) 2 f fd ["self", "cloth", "day"] (hJ CH CB cNC cND):=by
 refine oqX F uk fun cdv A outer s H vs Q E hr h=>?_;obtain⟨A0,W,ss,names,h,z,d,rfl,hh,ho,hz,q,qc,qd⟩:=h;have cH:=hX.c;have hr1:=hr.mono (j:=1) (by omega)
 refine⟨_,(aj (aP (pM (pv 0) cH GHC hr1 bD (aa (pv 1) ae)))
   (aj (aP (pC GCD hr1 bD (aa (pv 2) ae)))
   (ah (aq (eQ (N':=["when", "dipped", "bath", "out", "cloth", "day"]) (pk:=[none,none,none,none,some 1,some 2]) rfl (bW.of (by rfl)) (a8 (bB (pv 0) rfl)) (fun s H ex=>((cz (n:=4) rfl (aE (pN 0 (by show(["when", "dipped", "bath", "out", "cloth", "day"]:List Str).Nodup;decide)) (aE (pN 1 (by show(["when", "dipped", "bath", "out", "cloth", "day"]:List Str).Nodup;decide)) (aE (pN 2 (by show(["when", "dipped", "bath", "out", "cloth", "day"]:List Str).Nodup;decide)) (aE (pN 3 (by show(["when", "dipped", "bath", "out", "cloth", "day"]:List Str).Nodup;decide)) bS))))):PG _ _ (kD K 4 (bN (bx 0) (bN (bx 1) (bN (bx 2) (bN (bx 3) iC))))))) (fun s H ex=>(PW.pt (im (ap bM (pv 1) (pv 4) (ax _)) (gi (ap sj (pv 0) (pv 5) (ax _)))))) (fun s H ex=>(bQ (aa (pv 0) (aa (pv 2) (aa (pv 3) ae)))))))))),?_⟩
 try dsimp only[aC,aM]
 have hs:=aK;refine au (fun σ' H'=>z∈h.cl.map (·.1)∧σ'=[some (.ref A0.x),some (.str z),some (.int d)]∧H'=H) (fun R hR=>?_) ?_
 . walk_at"";exact⟨A0.dx,_,hh.ins,ee (by decide) (by decide) (by decide) (by decide),A0,W,ss,h,z,rfl,hh,hz,ho.cnd,fun hm=>hR _ _ ⟨hm,rfl,rfl⟩,qc⟩
 rintro σ1 H1 ⟨hm,rfl,rfl⟩;refine au (fun σ' H'=>(1≤d∧d≤400)∧σ'=[some (.ref A0.x),some (.str z),some (.int d)]∧H'=H1) (fun R hR=>?_) ?_
 . walk_at"";exact⟨d,rfl,fun hd=>hR _ _ ⟨hd,rfl,rfl⟩,qd hm⟩
 rintro σ2 H2 ⟨hd,rfl,rfl⟩;obtain⟨ps,hls,hpl,hpT⟩:=hh.dp;have hdl:=ho.dl;walk_at"";refine⟨CH,A0.dx,_,hh.ins,hX.c,hX.n3,_,fH,A0.ls,rfl,⟨_,SqL.of hls⟩,fun D hD=>?_⟩;refine iB (aG (SqL.of hls)) (by rw[be];omega) hD (fun σ=>∃ o1 o2 o3 o4,σ=[o1,o2,o3,o4,some (.str z),some (.int d)]) (fun i=>(fun e:Int×Str×Str×Str=>decide (e.2.1=z)&&decide (e.1≤d)) (h.dp.getD i d0)) (fun i=>(fun e:Int×Str×Str×Str=>[V.int e.1,.str e.2.2.1,.str e.2.2.2]) (h.dp.getD i d0)) ⟨none,none,none,none,rfl⟩ ?_ ?_
 . rintro i x σ' H3 hi hx ⟨o1,o2,o3,o4,rfl⟩ hS R1 R0 h1 h0;rw[zO] at hx;obtain⟨p,hp,rfl⟩:=Option.map_eq_some_iff.mp hx;obtain⟨e,he⟩:∃ e,h.dp[i]?=some e:=⟨_,zN (by rw[be] at hi;omega)⟩;have ht:=hS _ _ (hh.up _ _ (hpT i p e hp he))
   have eg:h.dp.getD i d0=e:=by rw[zQ,he];rfl
   simp only[eg] at h1 h0;refine vh ht ?_;walk_at"";refine⟨rfl,ay (fun hc=>ay (fun hle=>⟨by omega,fun p hp=>h1 (by simp[hc,hle]) p _ ⟨_,_,_,_,rfl⟩ hp⟩) (fun hle=>h0 (by simp[hle]) _ ⟨_,_,_,_,rfl⟩)) (fun hc=>h0 (by simp[hc]) _ ⟨_,_,_,_,rfl⟩)⟩
 . intro qs H' S' hHD hT;rw[be,hpl,fo h.dp d0 (fun e=>decide (e.2.1=z)&&decide (e.1≤d)) (fun e=>[V.int e.1,.str e.2.2.1,.str e.2.2.2])] at hT;refine q hm hd D qs H' S' hD hHD ?_;unfold aX;rw[Av];exact hT
def gY (CH CB cND:Addr):Sp:=fun vs H Q E=>∃ (A:Ad)(W:Hp)(ss names:List Str) (h:Hs) (d:Int),vs=[.ref A.x,.int d]∧aI H CH CB A W ss h∧bH ss names h∧((1≤d∧d≤400)→∀ l ps H',af H H'→H l=none→H' l=some (.lst (ps.map V.ref))→cf H' ps ((bf h.dp d).map fun e=>[.str e.1,.str e.2])→Q (.ref l) H')∧(¬(1≤d∧d≤400)→E (.ref cND) none H)
theorem wC:aw ["self", "day"] ["self", "day"] (ao qO):=sM
theorem ub {f fCD:Addr}{fd fdCD:FuncData}{CH CB cND:Addr}(F:Fun K "dips" "House.dips" qO f fd)
   (T:Txt mg)(hX:Hx K mg CH)(cB:Cls K CB)
   (GCD:Cl P w K mg base (CX1 P w) 1 "check_day" ["day"] (jA cND) fCD fdCD) :
   aU P w K mg base (CX1 P w) 2 f fd ["self", "day"] (gY CH CB cND):=by
 refine oqX F wC fun cdv A outer s H vs Q E hr h=>?_;obtain⟨A0,W,ss,names,h,d,rfl,hh,ho,q,qd⟩:=h;have hr1:=hr.mono (j:=1) (by omega)
 refine⟨_,(aj (aP (pC GCD hr1 bD (aa (pv 1) ae)))
   (ah (aq (eQ (N':=["when", "cloth", "bath", "out", "day"]) (pk:=[none,none,none,none,some 1]) rfl (bW.of (by rfl)) (a8 (bB (pv 0) rfl)) (fun s H ex=>((cz (n:=4) rfl (aE (pN 0 (by show(["when", "cloth", "bath", "out", "day"]:List Str).Nodup;decide)) (aE (pN 1 (by show(["when", "cloth", "bath", "out", "day"]:List Str).Nodup;decide)) (aE (pN 2 (by show(["when", "cloth", "bath", "out", "day"]:List Str).Nodup;decide)) (aE (pN 3 (by show(["when", "cloth", "bath", "out", "day"]:List Str).Nodup;decide)) bS))))):PG _ _ (kD K 4 (bN (bx 0) (bN (bx 1) (bN (bx 2) (bN (bx 3) iC))))))) (fun s H ex=>(ap bM (pv 0) (pv 4) (ax _))) (fun s H ex=>(bQ (aa (pv 1) (aa (pv 2) ae)))))))),?_⟩
 try dsimp only[aC,aM]
 have hs:=aK;refine au (fun σ' H'=>(1≤d∧d≤400)∧σ'=[some (.ref A0.x),some (.int d)]∧H'=H) (fun R hR=>?_) ?_
 . walk_at"";exact⟨d,rfl,fun hd=>hR _ _ ⟨hd,rfl,rfl⟩,qd⟩
 rintro σ2 H2 ⟨hd,rfl,rfl⟩;obtain⟨ps,hls,hpl,hpT⟩:=hh.dp;have hdl:=ho.dl;walk_at"";refine⟨CH,A0.dx,_,hh.ins,hX.c,hX.n3,_,fH,A0.ls,rfl,⟨_,SqL.of hls⟩,fun D hD=>?_⟩;refine iB (aG (SqL.of hls)) (by rw[be];omega) hD (fun σ=>∃ o1 o2 o3 o4,σ=[o1,o2,o3,o4,some (.int d)]) (fun i=>(fun e:Int×Str×Str×Str=>decide (e.1=d)) (h.dp.getD i d0)) (fun i=>(fun e:Int×Str×Str×Str=>[V.str e.2.1,.str e.2.2.1]) (h.dp.getD i d0)) ⟨none,none,none,none,rfl⟩ ?_ ?_
 . rintro i x σ' H3 hi hx ⟨o1,o2,o3,o4,rfl⟩ hS R1 R0 h1 h0;rw[zO] at hx;obtain⟨p,hp,rfl⟩:=Option.map_eq_some_iff.mp hx;obtain⟨e,he⟩:∃ e,h.dp[i]?=some e:=⟨_,zN (by rw[be] at hi;omega)⟩;have ht:=hS _ _ (hh.up _ _ (hpT i p e hp he))
   have eg:h.dp.getD i d0=e:=by rw[zQ,he];rfl
   simp only[eg] at h1 h0;refine vh ht ?_;walk_at"";refine⟨rfl,ay (fun hle=>⟨by omega,fun p hp=>h1 (by simp[hle]) p _ ⟨_,_,_,_,rfl⟩ hp⟩) (fun hle=>h0 (by simp[hle]) _ ⟨_,_,_,_,rfl⟩)⟩
 . intro qs H' S' hHD hT;rw[be,hpl,fo h.dp d0 (fun e=>decide (e.1=d)) (fun e=>[V.str e.2.1,.str e.2.2.1])] at hT;refine q hd D qs H' S' hD hHD ?_;unfold bf;rw[Av];exact hT
theorem dk {cl:List (Str×Str)}{c:Str×Str}(hd:(cl.map (·.1)).Nodup)(h:c∈cl):cl.lookup c.1=some c.2:=by
 induction cl with
 | nil=>cases h
 | cons a r ih =>
   rw[Ac,BH] at hd;rw[Al];by_cases e:c.1=a.1
   . rw[show(c.1==a.1)=true from beq_iff_eq.mpr e]
     rcases List.mem_cons.mp h with h | h
     . rw[h]
     . exact absurd (Ao (f:=(·.1)) h) (by rw[e];exact hd.1)
   . rw[show(c.1==a.1)=false from beq_eq_false_iff_ne.mpr e]
     rcases List.mem_cons.mp h with h | h
     . exact absurd (by rw[h]) e
     . exact ih hd.2 h
def gZ (CH CB cNC cND:Addr):Sp:=fun vs H Q E=>∃ (A:Ad)(W:Hp)(ss names:List Str) (h:Hs) (z:Str) (d:Int),vs=[.ref A.x,.str z,.int d]∧aI H CH CB A W ss h∧bH ss names h∧Shw z∧(z∈h.cl.map (·.1)→(1≤d∧d≤400)→∀ H',af H H'→Q (.str (aV h z d)) H')∧(z∉h.cl.map (·.1)→E (.ref cNC) none H)∧(z∈h.cl.map (·.1)→¬(1≤d∧d≤400)→E (.ref cND) none H)
theorem pf:aw ["self", "cloth", "day", "trail"] ["self", "cloth", "day"] (ao nj):=sM
theorem sy {f fHT:Addr}{fd fdHT:FuncData}{CH CB cNC cND:Addr}(F:Fun K "shade" "House.shade" nj f fd)
   (T:Txt mg)(hX:Hx K mg CH)(cB:Cls K CB)
   (GHT:Cm P w K mg base (CX1 P w) 2 CH "trail" ["self", "cloth", "day"] (hJ CH CB cNC cND) fHT fdHT) :
   aU P w K mg base (CX1 P w) 3 f fd ["self", "cloth", "day"] (gZ CH CB cNC cND):=by
 refine oqX F pf fun cdv A outer s H vs Q E hr h=>?_;obtain⟨A0,W,ss,names,h,z,d,rfl,hh,ho,hz,q,qc,qd⟩:=h;have hu:=eA hr;have cH:=hX.c;have hr2:=hr.mono (j:=2) (by omega)
 refine⟨_,(aj (pS 3 pf.nd (pM (pv 0) cH GHT hr2 bD (aa (pv 1) (aa (pv 2) ae))))
   (aj (aB (ap bM (al av (by rfl) T.len zX (aa (pv 3) ae)) ag (ax _)) (ah (aq (cv hu (bB (pv 0) rfl) (pv 1) (fun _ _=>rfl)))) am)
   (ah (aq (pI aJ (pI ak (pv 3) (eG dj ag)) ag))))),?_⟩
 try dsimp only[aC,aM]
 have hs:=aK;refine au (fun σ' H'=>∃ l ps,(z∈h.cl.map (·.1))∧(1≤d∧d≤400)∧σ'=[some (.ref A0.x),some (.str z),some (.int d),some (.ref l)]∧af H H'∧H' l=some (.lst (ps.map V.ref))∧cf H' ps ((aX h.dp z d).map fun e=>[.int e.1,.str e.2.1,.str e.2.2])) (fun R hR=>?_) ?_
 . walk_at"";exact⟨A0.dx,_,hh.ins,ee (by decide) (by decide) (by decide) (by decide),A0,W,ss,names,h,z,d,rfl,hh,ho,hz,fun hm hd l ps H' S' hl hH hT=>hR _ _ ⟨l,ps,hm,hd,rfl,S',hH,hT⟩,qc,qd⟩
 rintro σ1 H1 ⟨l,ps,hm,hd,rfl,S1,hl1,hT⟩;have q:=q hm hd;refine au (fun σ' H'=>aX h.dp z d≠[]∧σ'=[some (.ref A0.x),some (.str z),some (.int d),some (.ref l)]∧H'=H1) (fun R hR=>?_) ?_
 . obtain⟨c,hc,rfl⟩:=List.mem_map.mp hm;walk_at"";have hpl:=hT.1;rw[be] at hpl;refine⟨_,.inl (SqL.of hl1),rfl,?_⟩;rw[be,hpl];refine ay (fun h0=>?_) (fun h0=>hR _ _ ⟨fun e=>h0 (by rw[e];rfl),rfl,rfl⟩);have e0:aX h.dp c.1 d=[]:=List.length_eq_zero_iff.mp (by omega);refine⟨CH,A0.dx,_,S1 _ _ hh.ins,hX.c,hX.n1,_,dJ,_,rfl,_,.inl ⟨_,Sum.inr c.1,.inl (S1 _ _ hh.cl),rfl,(eo ho.cnd hc).symm⟩,?_⟩
   have es:aV h c.1 d=c.2:=by
     unfold aV;rw[e0];show(h.cl.lookup c.1).getD _=_;rw[dk ho.cnd hc];rfl
   have:=q H1 S1;rw[es] at this;exact this
 rintro σ2 H2 ⟨hne,rfl,rfl⟩;have hpl:=hT.1;rw[be] at hpl;have hlast:(aX h.dp z d).getLast?=some ((aX h.dp z d).getLast hne):=AL hne;have hps:ps≠[]:=fun e=>hne (List.length_eq_zero_iff.mp (by rw[←hpl,e];rfl));walk_at""
 have ea:atI (ps.map V.ref) (-1)=some (V.ref (ps.getLast hps)):=by
   have e:ps.map V.ref=ps.dropLast.map V.ref++[V.ref (ps.getLast hps)]:=by
     rw[←Bt,←zU,Ah hps]
   rw[e];exact eX _ _
 have ht:=hT.2 (ps.length - 1) (ps.getLast hps) [.int ((aX h.dp z d).getLast hne).1,.str ((aX h.dp z d).getLast hne).2.1,.str ((aX h.dp z d).getLast hne).2.2] (by rw[Br];exact zN _) (by rw[zO,hpl,Br,zN (by have:=List.length_pos_iff.mpr hne;omega)];rfl);refine⟨_,SqL.of hl1,_,ea,_,rfl,_,SqT.of ht,V.str ((aX h.dp z d).getLast hne).2.2,rfl,?_⟩
 have es:aV h z d=((aX h.dp z d).getLast hne).2.2:=by
   unfold aV;rw[hlast]
 rw[←es];exact q H2 S1
theorem pF1 {v:V}:cK (zM "first_shades") v []=[(zM "first_shades",v)]:=rfl
theorem pF2 {v u:V}:cK (zM "day_now") u [(zM "first_shades",v)]=[(zM "first_shades",v),(zM "day_now",u)]:=by
 show(if zM "first_shades"=zM "day_now" then _ else _)=_;rw[if_neg (by decide)];rfl
theorem pF3 {v u t:V}:cK (zM "standing") t [(zM "first_shades",v),(zM "day_now",u)]=[(zM "first_shades",v),(zM "day_now",u),(zM "standing",t)]:=by
 unfold cK;rw[if_neg (by decide)];unfold cK;rw[if_neg (by decide)];rfl
theorem pF4 {v u t r:V}:cK (zM "books_from") r [(zM "first_shades",v),(zM "day_now",u),(zM "standing",t)]=[(zM "first_shades",v),(zM "day_now",u),(zM "standing",t),(zM "books_from",r)]:=by
 unfold cK;rw[if_neg (by decide)];unfold cK;rw[if_neg (by decide)];unfold cK;rw[if_neg (by decide)];rfl
theorem pFd {A:Ad}{d e:Int}:cK (zM "day_now") (.int e) (hfs A d)=hfs A e:=by
 unfold hfs cK;rw[if_neg (by decide)];unfold cK;rw[if_pos rfl]
def sg (CH CB:Addr):Sp:=fun vs H Q _=>∃ (x dx bk:Addr)(W:Hp)(ss:List Str)(bs:List (Str×List Str)),vs=[.ref x,.ref bk]∧H x=some (.ins CH dx [])∧af W (hide H x)∧bv W CB bk ss bs∧∀ (A:Ad) H',A.x=x→af (hide H x) (hid H' A)→aI H' CH CB A W ss ⟨[],1,[],[(1,(ss,bs))]⟩→Q .non H'
theorem xf:aw ["self", "book"] ["self", "book"] (ao pQ):=sM
theorem uO {f:Addr}{fd:FuncData}{CH CB :Addr}(F:Fun K "__init__" "House.__init__" pQ f fd)
   (T:Txt mg)(hX:Hx K mg CH)(cB:Cls K CB)  :
   aU P w K mg base CX0 1 f fd ["self", "book"] (sg CH CB):=by
 refine oq F xf fun cdv A outer s H vs Q E hr h=>?_;obtain⟨x,dx,bk,W,ss,bs,rfl,hx,hW,hbk,q⟩:=h;obtain⟨_,hfd⟩:=hX.fd
 refine⟨_,(aj (eD (pv 0) ed rfl)
   (aj (eD (pv 0) (bc (v:=.int 1) rfl hfd ⟨_,rfl⟩) rfl)
   (aj (eD (pv 0) (bo ae) rfl)
   (ah (eD (pv 0) (xa (uC (bc (v:=.int 1) rfl hfd ⟨_,rfl⟩) (pv 1) ww) rfl rfl (by simp) (by decide)) rfl))))),?_⟩
 try dsimp only[aC,aM]
 have hs:=aK
 have hx0:hide H x x=none:=by unfold hide;rw[if_pos rfl]
 refine au (fun σ' H'=>∃ d1,σ'=[some (.ref x),some (.ref bk)]∧H d1=none∧H'=upd (upd H d1 (.dK [])) x (.ins CH dx [("first_shades",.ref d1)])) (fun R hR=>?_) ?_
 . walk_at"";intro d hd
   have hxd:x≠d:=fun e=>by rw[←e,hx] at hd;cases hd
   exact⟨CH,dx,_,by rw[ai hxd];exact hx,hX.c,hX.n1,by decide,hR _ _ ⟨d,rfl,hd,by rw[pF1]⟩⟩
 rintro σ1 H1 ⟨d1,rfl,hd1,rfl⟩
 have hxd1:x≠d1:=fun e=>by rw[←e,hx] at hd1;cases hd1
 refine au (fun σ' H'=>σ'=[some (.ref x),some (.ref bk)]∧H'=upd (upd H d1 (.dK [])) x (.ins CH dx [("first_shades",.ref d1),("day_now",.int 1)])) (fun R hR=>?_) ?_
 . walk_at"";exact⟨CH,dx,_,ac,hX.c,hX.n2,by simp,hR _ _ ⟨rfl,by rw[pF2,gP]⟩⟩
 rintro σ2 H2 ⟨rfl,rfl⟩;refine au (fun σ' H'=>∃ ls,σ'=[some (.ref x),some (.ref bk)]∧upd (upd H d1 (.dK [])) x (.ins CH dx [("first_shades",.ref d1),("day_now",.int 1)]) ls=none∧H'=upd (upd (upd (upd H d1 (.dK [])) x (.ins CH dx [("first_shades",.ref d1),("day_now",.int 1)])) ls (.lst [])) x (.ins CH dx [("first_shades",.ref d1),("day_now",.int 1),("standing",.ref ls)])) (fun R hR=>?_) ?_
 . walk_at"";refine⟨by omega,fun ls hls=>?_⟩
   have hxl:x≠ls:=fun e=>by rw[←e,ac] at hls;cases hls
   exact⟨CH,dx,_,by rw[ai hxl];exact ac,hX.c,hX.n3,by simp,hR _ _ ⟨ls,rfl,hls,by rw[pF3]⟩⟩
 rintro σ3 H3 ⟨ls,rfl,hls,rfl⟩
 have hxl:x≠ls:=fun e=>by rw[←e,ac] at hls;cases hls
 have hlsH:ls≠d1:=fun e=>by rw[e,ai (Ne.symm hxd1),ac] at hls;cases hls
 have hlsN:H ls=none:=by rw[ai (Ne.symm hxl),ai hlsH] at hls;exact hls
 walk_at"";intro p hp
 have hxp:x≠p:=fun e=>by rw[←e,ac] at hp;cases hp
 have hlp:ls≠p:=fun e=>by rw[←e,ai (Ne.symm hxl),ac] at hp;cases hp
 have hdp:d1≠p:=fun e=>by rw[←e,ai (Ne.symm hxd1),ai (Ne.symm hlsH),ai (Ne.symm hxd1),ac] at hp;cases hp
 have hpN:H p=none:=by rw[ai (Ne.symm hxp),ai (Ne.symm hlp),ai (Ne.symm hxp),ai (Ne.symm hdp)] at hp;exact hp
 refine⟨ac,[(Sum.inl 1,V.ref bk)],rfl,by simp,CH,dx,_,by rw[ai hxp,ai hxp,ac],hX.c,hX.n4,by simp,?_⟩;rw[pF4];have e1:cP [] [((Sum.inl 1:Key),V.ref bk)]=[(Sum.inl 1,V.ref bk)]:=rfl;rw[e1]
 have S:af (hide H x) (hid (upd (upd (upd (upd (upd (upd (upd H d1 (.dK [])) x (.ins CH dx [("first_shades",.ref d1),("day_now",.int 1)])) ls (.lst [])) x (.ins CH dx [("first_shades",.ref d1),("day_now",.int 1),("standing",.ref ls)])) p (.dK [])) p (.dK [(Sum.inl 1,V.ref bk)])) x (.ins CH dx [("first_shades",.ref d1),("day_now",.int 1),("standing",.ref ls),("books_from",.ref p)])) ⟨x,dx,d1,ls,p⟩):=fun b o e=>by
   have hbx:b≠x:=fun z=>by rw[z,hx0] at e;cases e
   rw[aW hbx] at e;have h1:b≠d1:=aF e hd1;have h2:b≠ls:=aF e hlsN;have h3:b≠p:=aF e hpN;unfold hid;rw[if_neg (fun z=>by rcases z with z | z | z | z;exact hbx z;exact h1 z;exact h2 z;exact h3 z)];rw[ai hbx,ai h3,ai h3,ai hbx,ai h2,ai hbx,ai h1];exact e
 refine q ⟨x,dx,d1,ls,p⟩ _ rfl S ⟨ac,?_,⟨[],?_,rfl,by intro i p e h;simp at h⟩,⟨[bk],?_,rfl,?_⟩,hdp,hW.trans S⟩
 . show upd _ x _ d1=_;rw[ai (Ne.symm hxd1),ai hdp,ai hdp,ai (Ne.symm hxd1),ai (Ne.symm hlsH),ai (Ne.symm hxd1),ac];rfl
 . show upd _ x _ ls=_;rw[ai (Ne.symm hxl),ai hlp,ai hlp,ai (Ne.symm hxl),ac];rfl
 . show upd _ x _ p=_;rw[ai (Ne.symm hxp),ac];rfl
 . intro i r e hr he
   rcases i with _ | i
   . cases hr;cases he;exact hbk
   . simp at hr
theorem nY:∀ {bk:List (Int×Bk)}{d:Int},bk≠[]→∃ e∈bk,aR bk d=e.2
 | [],_,h=>absurd rfl h
 | [e],d,_=>⟨e,zZ,rfl⟩
 | e::e2::r,d,_=>by
   unfold aR;by_cases h2:e2.1≤d
   . rw[if_pos h2];obtain⟨x,hx,hxe⟩:=nY (bk:=e2::r) (d:=d) (by simp);exact⟨x,z7 _ hx,hxe⟩
   . rw[if_neg h2];exact⟨e,zZ,rfl⟩
theorem bH.on {ss names:List Str}{h:Hs}(ho:bH ss names h) (d:Int):aN (aR h.bk d).1 (aR h.bk d).2∧(∀ n,n∈(aR h.bk d).2.map (·.1)↔n∈names)∧∀ z,z∈(aR h.bk d).1↔z∈ss:=by
 obtain⟨b,r,hb⟩:=ho.k1;obtain⟨e,he,hbk⟩:=nY (bk:=h.bk) (d:=d) (by rw[hb];simp);rw[hbk];exact ho.kb e he
theorem uF {cl:List (Str×Str)}{c z:Str}(h:c∉cl.map (·.1)):dt (clV cl) (Sum.inr c) (V.str z)=clV (cl++[(c,z)]):=by
 rw[da _ (bL h)];unfold clV;rw[zU];rfl
theorem rp {cl:List (Str×Str)}:(clV cl).length=cl.length:=be ..
theorem gg {H:Hp}{A:Ad}{b:Addr}{o:HO}(h:b=A.x∨b=A.d1∨b=A.ls∨b=A.db):hid (upd H b o) A=hid H A:=by
 funext y;unfold hid;by_cases hy:y=A.x∨y=A.d1∨y=A.ls∨y=A.db
 . rw[if_pos hy,if_pos hy]
 . rw[if_neg hy,if_neg hy];exact ai fun e=>hy (by rw[e];exact h)
theorem aI.xd {H:Hp}{C CB:Addr}{A:Ad}{W:Hp}{ss:List Str}{h:Hs}(hh:aI H C CB A W ss h):A.x≠A.d1∧A.x≠A.ls∧A.x≠A.db∧A.d1≠A.ls∧A.ls≠A.db:=by
 obtain⟨h1,h2,⟨ps,h3,_⟩,⟨rs,h6,_⟩,_,_⟩:=hh;refine⟨fun e=>?_,fun e=>?_,fun e=>?_,fun e=>?_,fun e=>?_⟩
 . rw[e,h2] at h1;cases h1
 . rw[e,h3] at h1;cases h1
 . rw[e,h6] at h1;cases h1
 . rw[e,h3] at h2;cases h2
 . rw[e,h6] at h3;cases h3
def kn (CH CB cBN cKn cNS cFu:Addr):Sp:=fun vs H Q E=>∃ (A:Ad)(W:Hp)(ss names:List Str) (h:Hs) (c z:Str),vs=[.ref A.x,.str c,.str z]∧aI H CH CB A W ss h∧bH ss names h∧h.cl.length≤1000∧Shw c∧Shw z∧(a9 c=false→∀ H',af H H'→E (.ref cBN) none H')∧(a9 c=true→c∈h.cl.map (·.1)→∀ H',af H H'→E (.ref cKn) none H')∧(a9 c=true→c∉h.cl.map (·.1)→z∉ss→∀ H',af H H'→E (.ref cNS) none H')∧(a9 c=true→c∉h.cl.map (·.1)→z∈ss→50≤h.cl.length→∀ H',af H H'→E (.ref cFu) none H')∧(a9 c=true→c∉h.cl.map (·.1)→z∈ss→h.cl.length < 50→∀ H',af (hid H A) (hid H' A)→aI H' CH CB A W ss { h with cl:=h.cl++[(c,z)] }→Q .non H')
theorem tY:aw ["self", "cloth", "shade"] ["self", "cloth", "shade"] (ao mD):=sM
theorem sP {f fGd fHN fMH:Addr}{fd fdGd fdHN fdMH:FuncData}{CH CB cBN cFu cKn cNS:Addr}(F:Fun K "bring" "House.bring" mD f fd)
   (T:Txt mg)(hX:Hx K mg CH)(cB:Cls K CB)(XBN:ExcC K cBN)(mBN:mg "BadName"=some (.ref cBN))(XKn:ExcC K cKn)(mKn:mg "Known"=some (.ref cKn))(XFu:ExcC K cFu)(mFu:mg "Full"=some (.ref cFu))
   (GGd:Cl P w K mg base CX0 1 "good_name" ["text"] nr fGd fdGd)
   (GHN:Cm P w K mg base (CX1 P w) 3 CH "newest_book" ["self"] (l6 CH CB) fHN fdHN)
   (GMH:Cm P w K mg base (CX1 P w) 1 CB "check_shade" ["self", "shade"] (jN CB cNS) fMH fdMH) :
   aU P w K mg base (CX1 P w) 5 f fd ["self", "cloth", "shade"] (kn CH CB cBN cKn cNS cFu):=by
 refine oqX F tY fun cdv A outer s H vs Q E hr h=>?_;obtain⟨A0,W,ss,names,h,c,z,rfl,hh,ho,hcl,hc,hz,qb,qk,qs,qf,q⟩:=h;have hu:=eA hr;obtain⟨_,hmc⟩:=hX.mc;have cH:=hX.c;have hr1:=hr.mono (j:=1) (by omega);have hr3:=hr.mono (j:=3) (by omega)
 refine⟨_,(aj (aB (bV (bE (pC GGd hr1 az (aa (pv 1) ae)))) (ah (bA rfl rfl mBN XBN.exc z9 (aa (fg (pv 1)) ae) df)) am)
   (aj (aB (fc (uS hu (pv 1) (bB (pv 0) rfl))) (ah (bA rfl rfl mKn XKn.exc z9 (aa (fg (pv 1)) ae) df)) am)
   (aj (aP (ig (pM0 (pv 0) cH GHN hr3 bD) cB GMH.h GMH.g hr1 GMH.b .nil bD (aa (pv 2) ae)))
   (aj (aB (ap xo (al tD (by rfl) T.len zX (aa (bB (pv 0) rfl) ae)) (bc (v:=.int 50) rfl hmc ⟨_,rfl⟩) (ax _)) (ah (bA rfl rfl mFu XFu.exc z9 (aa aA ae) df)) am)
   (ah (dE hu (bB (pv 0) rfl) (pv 1) (pv 2) rfl)))))),?_⟩
 try dsimp only[aC,aM]
 have hs:=aK;refine au (fun σ' H'=>a9 c=true∧σ'=[some (.ref A0.x),some (.str c),some (.str z)]∧af H H') (fun R hR=>?_) ?_
 . walk_at"";refine⟨c,rfl,hc.1,fun H2 S2=>?_⟩;by_cases hg:a9 c=true
   . rw[hg];exact⟨_,rfl,ay (fun h=>by cases h) (fun _=>hR _ _ ⟨hg,rfl,S2⟩)⟩
   . have hg':a9 c=false:=by simpa using hg
     rw[hg'];exact⟨_,rfl,ay (fun _=>⟨hc.1,hc.2,fun y=>⟨by decide,qb hg' _ S2⟩⟩) (fun h=>absurd rfl h)⟩
 rintro σ1 H1 ⟨hg,rfl,S1⟩;have hh1:=af.house S1 hh;refine au (fun σ' H'=>c∉h.cl.map (·.1)∧σ'=[some (.ref A0.x),some (.str c),some (.str z)]∧H'=H1) (fun R hR=>?_) ?_
 . by_cases hm:c∈h.cl.map (·.1)
   . obtain⟨c0,hc0,rfl⟩:=List.mem_map.mp hm;walk_at"";exact⟨CH,A0.dx,_,hh1.ins,hX.c,hX.n1,_,dJ,A0.d1,rfl,_,.inl ⟨_,Sum.inr c0.1,.inl hh1.cl,rfl,(eo ho.cnd hc0).symm⟩,hc.1,hc.2,fun y=>⟨by decide,qk hg hm _ S1⟩⟩
   . walk_at"";exact⟨CH,A0.dx,_,hh1.ins,hX.c,hX.n1,_,dJ,A0.d1,rfl,none,.inl ⟨_,Sum.inr c,.inl hh1.cl,rfl,(bL hm).symm⟩,hR _ _ ⟨hm,rfl,rfl⟩⟩
 rintro σ2 H2 ⟨hm,rfl,rfl⟩;refine au (fun σ' H'=>z∈ss∧σ'=[some (.ref A0.x),some (.str c),some (.str z)]∧af H H') (fun R hR=>?_) ?_
 . walk_at"";refine⟨A0.dx,_,hh1.ins,ee (by decide) (by decide) (by decide) (by decide),A0,W,ss,names,h,rfl,hh1,ho,fun r H3 S3 hbk=>?_⟩;have hbk2:=af.book (af.house S3 hh1).up hbk;have hbk3:=hbk2;obtain⟨dxb,tb,db,so,b1,b2,b3,b4,b5⟩:=hbk2;exact⟨r,rfl,dxb,_,b1,bO (by decide) (by decide),r,_,_,z,rfl,hbk3,hz,fun hzs=>hR _ _ ⟨((ho.on 400).2.2 z).mp hzs,rfl,S1.trans S3⟩,fun hzs=>qs hg hm (fun y=>hzs (((ho.on 400).2.2 z).mpr y)) _ (S1.trans S3)⟩
 rintro σ3 H3 ⟨hzs,rfl,S3⟩;have hh3:=af.house S3 hh;refine au (fun σ' H'=>h.cl.length < 50∧σ'=[some (.ref A0.x),some (.str c),some (.str z)]∧H'=H3) (fun R hR=>?_) ?_
 . walk_at"";refine⟨CH,A0.dx,_,hh3.ins,hX.c,hX.n1,_,dJ,A0.d1,rfl,_,hh3.cl,?_⟩;rw[rp];exact ay (fun h5=>⟨by decide,qf hg hm hzs (by omega) _ S3⟩) (fun h5=>hR _ _ ⟨by omega,rfl,rfl⟩)
 rintro σ4 H4 ⟨h50,rfl,rfl⟩;obtain⟨n1,n2,n3,n4,n5⟩:=hh3.xd;walk_at"";refine⟨CH,A0.dx,_,hh3.ins,hX.c,hX.n1,_,dJ,A0.d1,rfl,_,.inl ⟨_,Sum.inr c,hh3.cl,rfl,by rw[rp];omega,rfl⟩,?_⟩;rw[uF hm];have eh:hid (upd H4 A0.d1 (.dK (clV (h.cl++[(c,z)])))) A0=hid H4 A0:=gg (.inr (.inl rfl));refine q hg hm hzs h50 _ (by rw[eh];exact ck S3) ?_;obtain⟨h1,h2,⟨ps,h3,h4,h5⟩,⟨rs,h6,h7,h8⟩,h9,h10⟩:=hh3;exact⟨by rw[ai n1];exact h1,ac,⟨ps,by rw[ai (Ne.symm n4)];exact h3,h4,h5⟩,⟨rs,by rw[ai (Ne.symm h9)];exact h6,h7,h8⟩,h9,by rw[eh];exact h10⟩
theorem gH {ss names:List Str}{h:Hs}(ho:bH ss names h){c:Str}(hc:c∈h.cl.map (·.1)) (d:Int):aV h c d∈ss:=by
 unfold aV
 split
 . rename_i e he;have hm:=List.mem_of_getLast? he;unfold aX at hm;obtain⟨x,hx,rfl⟩:=List.mem_map.mp hm;exact ho.ds x (List.mem_filter.mp hx).1
 . obtain⟨c0,hc0,rfl⟩:=List.mem_map.mp hc;rw[dk ho.cnd hc0];exact ho.csh c0 hc0
def vw (CH CB cNC cNB cND cLa cFu:Addr):Sp:=fun vs H Q E=>∃ (A:Ad)(W:Hp)(ss names:List Str) (h:Hs) (c b:Str) (d:Int),vs=[.ref A.x,.str c,.str b,.int d]∧aI H CH CB A W ss h∧bH ss names h∧Shw c∧Shw b∧(c∉h.cl.map (·.1)→∀ H',af H H'→E (.ref cNC) none H')∧(c∈h.cl.map (·.1)→b∉names→∀ H',af H H'→E (.ref cNB) none H')∧(c∈h.cl.map (·.1)→b∈names→¬(1≤d∧d≤400)→∀ H',af H H'→E (.ref cND) none H')∧(c∈h.cl.map (·.1)→b∈names→(1≤d∧d≤400)→d < h.day→∀ H',af H H'→E (.ref cLa) none H')∧(c∈h.cl.map (·.1)→b∈names→(1≤d∧d≤400)→h.day≤d→1000≤h.dp.length→∀ H',af H H'→E (.ref cFu) none H')∧(c∈h.cl.map (·.1)→b∈names→(1≤d∧d≤400)→h.day≤d→h.dp.length < 1000→∀ H' W',af (hid H A) (hid H' A)→dH H W W'→aI H' CH CB A W' ss { h with day:=d,dp:=h.dp++[(d,c,b,lkB (aR h.bk d).1 (aR h.bk d).2 b (aV h c d))] }→Q (.str (lkB (aR h.bk d).1 (aR h.bk d).2 b (aV h c d))) H')
theorem uB:aw ["self", "cloth", "bath", "day", "out"] ["self", "cloth", "bath", "day"] (ao vN):=sM
theorem wZ {f fHC fHN fMC fHD fHB fHS fMO:Addr}{fd fdHC fdHN fdMC fdHD fdHB fdHS fdMO:FuncData}{CH CB cFu cLa cNB cNC cND:Addr}(F:Fun K "dip" "House.dip" vN f fd)
   (T:Txt mg)(hX:Hx K mg CH)(cB:Cls K CB)(XFu:ExcC K cFu)(mFu:mg "Full"=some (.ref cFu))
   (GHC:Cm P w K mg base (CX1 P w) 1 CH "check_cloth" ["self", "cloth"] (vf CH CB cNC) fHC fdHC)
   (GHN:Cm P w K mg base (CX1 P w) 3 CH "newest_book" ["self"] (l6 CH CB) fHN fdHN)
   (GMC:Cm P w K mg base (CX1 P w) 1 CB "check_bath" ["self", "bath"] (iR CB cNB) fMC fdMC)
   (GHD:Cm P w K mg base (CX1 P w) 2 CH "check_day_to_do" ["self", "day"] (rJ CH CB cND cLa) fHD fdHD)
   (GHB:Cm P w K mg base (CX1 P w) 2 CH "book" ["self", "day"] (gM CH CB cND) fHB fdHB)
   (GHS:Cm P w K mg base (CX1 P w) 3 CH "shade" ["self", "cloth", "day"] (gZ CH CB cNC cND) fHS fdHS)
   (GMO:Cm P w K mg base CX0 2 CB "out" ["self", "bath", "shade"] (qp CB) fMO fdMO) :
   aU P w K mg base (CX1 P w) 5 f fd ["self", "cloth", "bath", "day"] (vw CH CB cNC cNB cND cLa cFu):=by
 refine oqX F uB fun cdv A outer s H vs Q E hr h=>?_;obtain⟨A0,W,ss,names,h,c,b,d,rfl,hh,ho,hc,hb,qc,qb,qd,ql,qf,q⟩:=h;obtain⟨_,hmd⟩:=hX.md;have cH:=hX.c;have hr1:=hr.mono (j:=1) (by omega);have hr2:=hr.mono (j:=2) (by omega);have hr3:=hr.mono (j:=3) (by omega)
 refine⟨_,(aj (aP (pM (pv 0) cH GHC hr1 bD (aa (pv 1) ae)))
   (aj (aP (ig (pM0 (pv 0) cH GHN hr3 bD) cB GMC.h GMC.g hr1 GMC.b .nil bD (aa (pv 2) ae)))
   (aj (aP (pM (pv 0) cH GHD hr2 bD (aa (pv 3) ae)))
   (aj (aB (ap xo (al av (by rfl) T.len zX (aa (bB (pv 0) rfl) ae)) (bc (v:=.int 1000) rfl hmd ⟨_,rfl⟩) (ax _)) (ah (bA rfl rfl mFu XFu.exc z9 (aa aA ae) df)) am)
   (aj (pS 4 uB.nd (ig (pM (pv 0) cH GHB hr2 bD (aa (pv 3) ae)) cB GMO.h GMO.g hr2 GMO.b .nil az (aa (pv 2) (aa (pM (pv 0) cH GHS hr3 bD (aa (pv 1) (aa (pv 3) ae))) ae))))
   (aj (aP (eW Ap AA AB bR (bB (pv 0) rfl) (aa (bQ (aa (pv 3) (aa (pv 1) (aa (pv 2) (aa (pv 4) ae))))) ae)))
   (aj (eD (pv 0) (pv 3) rfl)
   (ah (aq (pv 4)))))))))),?_⟩
 try dsimp only[aC,aM]
 have hs:=aK;have lo:∀ {m:Str}{dd:Int},(m==zM "first_shades")=false→(m==zM "day_now")=false→(m==zM "standing")=false→(m==zM "books_from")=false→Aj m (hfs A0 dd)=none:=fun h1 h2 h3 h4=>ee h1 h2 h3 h4;refine au (fun σ' H'=>c∈h.cl.map (·.1)∧σ'=[some (.ref A0.x),some (.str c),some (.str b),some (.int d),none]∧H'=H) (fun R hR=>?_) ?_
 . walk_at"";exact⟨A0.dx,_,hh.ins,lo (by decide) (by decide) (by decide) (by decide),A0,W,ss,h,c,rfl,hh,hc,ho.cnd,fun hm=>hR _ _ ⟨hm,rfl,rfl⟩,fun hm=>qc hm _ (af.refl H)⟩
 rintro σ1 H1 ⟨hm,rfl,rfl⟩;refine au (fun σ' H'=>b∈names∧σ'=[some (.ref A0.x),some (.str c),some (.str b),some (.int d),none]∧af H1 H') (fun R hR=>?_) ?_
 . walk_at"";refine⟨A0.dx,_,hh.ins,lo (by decide) (by decide) (by decide) (by decide),A0,W,ss,names,h,rfl,hh,ho,fun r H3 S3 hbk=>?_⟩;have hbk2:=af.book (af.house S3 hh).up hbk;have hbk3:=hbk2;obtain⟨dxb,tb,db,so,b1,b2,b3,b4,b5⟩:=hbk2;obtain⟨B,hN,_⟩:=ho.on 400;exact⟨r,rfl,dxb,_,b1,bO (by decide) (by decide),r,_,_,b,rfl,hbk3,B,hb,fun hzs=>hR _ _ ⟨(hN b).mp hzs,rfl,S3⟩,fun hzs=>qb hm (fun z=>hzs ((hN b).mpr z)) _ S3⟩
 rintro σ2 H2 ⟨hbn,rfl,S2⟩;have hh2:=af.house S2 hh;refine au (fun σ' H'=>(1≤d∧d≤400)∧h.day≤d∧σ'=[some (.ref A0.x),some (.str c),some (.str b),some (.int d),none]∧H'=H2) (fun R hR=>?_) ?_
 . walk_at"";exact⟨A0.dx,_,hh2.ins,lo (by decide) (by decide) (by decide) (by decide),A0,W,ss,h,d,rfl,hh2,fun hd hl=>hR _ _ ⟨hd,hl,rfl,rfl⟩,fun hd=>qd hm hbn hd _ S2,fun hd hl=>ql hm hbn hd hl _ S2⟩
 rintro σ3 H3 ⟨hd,hl,rfl,rfl⟩;obtain⟨ps,hls,hpl,hpT⟩:=hh2.dp;refine au (fun σ' H'=>h.dp.length < 1000∧σ'=[some (.ref A0.x),some (.str c),some (.str b),some (.int d),none]∧H'=H3) (fun R hR=>?_) ?_
 . walk_at"";refine⟨CH,A0.dx,_,hh2.ins,hX.c,hX.n3,_,fH,A0.ls,rfl,_,.inl (SqL.of hls),?_⟩;rw[be,hpl];exact ay (fun h5=>⟨by decide,qf hm hbn hd hl (by omega) _ S2⟩) (fun h5=>hR _ _ ⟨by omega,rfl,rfl⟩)
 rintro σ4 H4 ⟨h1000,rfl,rfl⟩;obtain⟨B,hN,hZ⟩:=ho.on d;refine au (fun σ' H'=>σ'=[some (.ref A0.x),some (.str c),some (.str b),some (.int d),some (.str (lkB (aR h.bk d).1 (aR h.bk d).2 b (aV h c d)))]∧af H4 H') (fun R hR=>?_) ?_
 . walk_at"";refine⟨A0.dx,_,hh2.ins,lo (by decide) (by decide) (by decide) (by decide),A0,W,ss,names,h,d,rfl,hh2,ho,fun _ r H5 S5 hbk=>?_,fun hn=>absurd hd hn⟩;have hbk2:=af.book (af.house S5 hh2).up hbk;have hbk3:=hbk2;obtain⟨dxb,tb,db,so,b1,b2,b3,b4,b5⟩:=hbk2;refine⟨r,rfl,dxb,_,b1,bO (by decide) (by decide),A0.dx,_,S5 _ _ hh2.ins,lo (by decide) (by decide) (by decide) (by decide),A0,W,ss,names,h,c,d,rfl,af.house S5 hh2,ho,hc,fun _ _ H6 S6=>?_,fun hn=>absurd hm hn,fun _ hn=>absurd hd hn⟩;obtain⟨bb,hbb,rfl⟩:=List.mem_map.mp ((hN b).mpr hbn);refine⟨r,_,_,bb,_,rfl,af.book S6 hbk3,B,hbb,(hZ _).mpr (gH ho hm d),?_⟩;rw[←eE _ B.bnd hbb];exact hR _ _ ⟨rfl,S5.trans S6⟩
 rintro σ5 H5 ⟨rfl,S5⟩;generalize hout:lkB (aR h.bk d).1 (aR h.bk d).2 b (aV h c d)=out at q;have hh5:=af.house S5 hh2;obtain⟨n1,n2,n3,n4,n5⟩:=hh5.xd;have hls5:=S5 _ _ hls;refine au (fun σ' H'=>∃ t,σ'=[some (.ref A0.x),some (.str c),some (.str b),some (.int d),some (.str out)]∧H5 t=none∧H'=upd (upd H5 t (.tup [.int d,.str c,.str b,.str out])) A0.ls (.lst (ps.map V.ref++[V.ref t]))) (fun R hR=>?_) ?_
 . walk_at"";refine⟨CH,A0.dx,_,hh5.ins,hX.c,hX.n3,_,fH,?_⟩;refine⟨.inl ⟨rfl,_,SqL.of hls5⟩,by omega,fun t ht=>⟨A0.ls,rfl,_,?_,by rw[be];omega,hR _ _ ⟨t,rfl,ht,rfl⟩⟩⟩;rw[ai (aF hls5 ht)];exact hls5
 rintro σ6 H6 ⟨t,rfl,ht,rfl⟩;have htx:A0.x≠t:=aF hh5.ins ht;have htl:A0.ls≠t:=aF hls5 ht;refine au (fun σ' H'=>σ'=[some (.ref A0.x),some (.str c),some (.str b),some (.int d),some (.str out)]∧H'=upd (upd (upd H5 t (.tup [.int d,.str c,.str b,.str out])) A0.ls (.lst (ps.map V.ref++[V.ref t]))) A0.x (.ins CH A0.dx (hfs A0 d))) (fun R hR=>?_) ?_
 . walk_at"";refine⟨CH,A0.dx,_,by rw[ai n2,ai htx];exact hh5.ins,hX.c,hX.n2,by show 4 < 1000;decide,hR _ _ ⟨rfl,?_⟩⟩;rw[pFd]
 rintro σ7 H7 ⟨rfl,rfl⟩;walk_at""
 have e1:hid (upd (upd (upd H5 t (.tup [.int d,.str c,.str b,.str out])) A0.ls (.lst (ps.map V.ref++[V.ref t]))) A0.x (.ins CH A0.dx (hfs A0 d))) A0=hid (upd H5 t (.tup [.int d,.str c,.str b,.str out])) A0:=by
   rw[gg (.inl rfl),gg (.inr (.inr (.inl rfl)))]
 have St:af H5 (upd H5 t (.tup [.int d,.str c,.str b,.str out])):=af.updN ht;obtain⟨h1,h2,⟨ps',h3,h4,h5⟩,⟨rs,h6,h7,h8⟩,h9,h10⟩:=hh5
 have hWt:W t=none:=by
   have hx:hid H5 A0 t=none:=by unfold hid;rw[ht];split<;>rfl
   exact h10.free hx
 have htd:A0.d1≠t:=aF h2 ht;have htb:A0.db≠t:=aF h6 ht;have SW:af W (upd W t (.tup [.int d,.str c,.str b,.str out])):=af.updN hWt;refine q hm hbn hd hl h1000 _ (upd W t (.tup [.int d,.str c,.str b,.str out])) (by rw[e1];exact ck ((S2.trans S5).trans St)) ⟨SW,fun y o hy hHy=>?_⟩ ?_
 . have hyt:y≠t:=fun z=>by rw[z] at hHy;have:=(S2.trans S5) _ _ hHy;rw[ht] at this;cases this
   rw[ai hyt];exact hy
 have eps:ps'=ps:=by
   rw[hls5] at h3
   have h3':ps.map V.ref=ps'.map V.ref:=by simpa using h3
   exact(List.map_inj_right (fun a b e=>by simpa using e)).mp h3'.symm
 subst eps;refine⟨ac,by rw[ai (Ne.symm n1),ai n4,ai htd];exact h2,⟨ps'++[t],by rw[ai (Ne.symm n2),ac,zU];rfl,by rw[zP,zP,h4];rfl,?_⟩,⟨rs,by rw[ai (Ne.symm n3),ai (Ne.symm n5),ai htb];exact h6,h7,fun i r e hr he=>af.book SW (h8 i r e hr he)⟩,h9,?_⟩
 . intro i p e hp he;by_cases hi:i < ps'.length
   . rw[zY hi] at hp;rw[zY (by omega)] at he;exact SW _ _ (h5 i p e hp he)
   . have hj:i=ps'.length:=by
       have:=(List.getElem?_eq_some_iff.mp hp).1;rw[zP,zV] at this;omega
     subst hj;rw[zT (zR _),AC] at hp;rw[zT (by omega),h4,AC] at he;cases hp;cases he;exact ac
 . rw[e1,mo (Ne.symm htx) (Ne.symm htd) (Ne.symm htl) (Ne.symm htb)];intro y o hy;by_cases hyt:y=t
   . rw[hyt,ac] at hy;rw[hyt,ac];exact hy
   . rw[ai hyt] at hy;rw[ai hyt];exact h10 _ _ hy
theorem jd (dp:List (Int×Str×Str×Str)) (d:Int) (c b o z:Str) (e:Int):aX (dp++[(d,c,b,o)]) z e=aX dp z e++(if c=z∧d≤e then[(d,b,o)] else[]):=by
 unfold aX;rw[AW,zU]
 congr 1
 by_cases h:c=z∧d≤e
 . rw[if_pos h];simp[h.1,h.2]
 . rw[if_neg h]
   have:(decide (c=z)&&decide (d≤e))=false:=by
     rw[Bool.and_eq_false_iff];by_cases hc:c=z
     . exact .inr (decide_eq_false fun z=>h ⟨hc,z⟩)
     . exact .inl (decide_eq_false hc)
   simp[this]
theorem jh (h:Hs) (d:Int) (c b o z:Str) (e dy:Int):aV { h with day:=dy,dp:=h.dp++[(d,c,b,o)] } z e=if c=z∧d≤e then o else aV h z e:=by
 unfold aV;show(match (aX (h.dp++[(d,c,b,o)]) z e).getLast? with | some e=>e.2.2 | none=>_)=_;rw[jd];by_cases hc:c=z∧d≤e
 . rw[if_pos hc,if_pos hc,List.getLast?_append];rfl
 . rw[if_neg hc,if_neg hc,AO]
   all_goals rfl
theorem bH.dip {ss names:List Str}{h:Hs}{d:Int}{c b o:Str}(ho:bH ss names h)(hd:1≤d∧d≤400)(hl:h.day≤d)(hn:h.dp.length < 1000)(hos:o∈ss):bH ss names { h with day:=d,dp:=h.dp++[(d,c,b,o)] } :=
 ⟨ho.cnd,ho.csh,ho.cnm,hd.1,hd.2,by show(h.dp++_).length≤1000;rw[zP,zV];omega,fun e he=>by
     rcases List.mem_append.mp he with he | he
     . have:=ho.dd e he;exact⟨this.1,by show e.1≤d;omega⟩
     . rw[List.mem_singleton.mp he];exact⟨hd.1,BA _⟩,fun e he=>by
     rcases List.mem_append.mp he with he | he
     . exact ho.ds e he
     . rw[List.mem_singleton.mp he];exact hos,ho.k1,ho.ks,fun e he=>by have:=ho.kd e he;exact⟨this.1,by show e.1≤d;omega⟩,ho.kl,ho.kb⟩
theorem bH.bring {ss names:List Str}{h:Hs}{c z:Str}(ho:bH ss names h)(hc:c∉h.cl.map (·.1))(hz:z∈ss)(hg:a9 c=true):bH ss names { h with cl:=h.cl++[(c,z)] } :=
 ⟨by show((h.cl++_).map _).Nodup;rw[zU];exact gQ ho.cnd hc,fun e he=>by
     rcases List.mem_append.mp he with he | he
     . exact ho.csh e he
     . rw[List.mem_singleton.mp he];exact hz,fun e he=>by
     rcases List.mem_append.mp he with he | he
     . exact ho.cnm e he
     . rw[List.mem_singleton.mp he];exact hg,ho.d1,ho.d4,ho.dl,ho.dd,ho.ds,ho.k1,ho.ks,ho.kd,ho.kl,ho.kb⟩
theorem bH.new {ss:List Str}{bs:List (Str×List Str)}(B:aN ss bs):bH ss (bs.map (·.1)) ⟨[],1,[],[(1,(ss,bs))]⟩ :=
 ⟨Cw,(fun e he=>by cases he),(fun e he=>by cases he),by show(1:Int)≤1;decide,by show(1:Int)≤400;decide,by show 0≤1000;decide,(fun e he=>by cases he),(fun e he=>by cases he),⟨(ss,bs),[],rfl⟩,Bp _ _,fun e he=>by rw[List.mem_singleton.mp he];exact⟨by show(1:Int)≤1;decide,by show(1:Int)≤1;decide⟩,by show 1≤400;decide,fun e he=>by rw[List.mem_singleton.mp he];exact⟨B,fun n=>Iff.rfl,fun z=>Iff.rfl⟩⟩
def rD (CH CB cND cLa cNo:Addr):Sp:=fun vs H Q E=>∃ (A:Ad)(W:Hp)(ss names:List Str) (h:Hs) (d:Int),vs=[.ref A.x,.int d]∧aI H CH CB A W ss h∧bH ss names h∧(¬(1≤d∧d≤400)→∀ H',af H H'→E (.ref cND) none H')∧((1≤d∧d≤400)→d < h.day→∀ H',af H H'→E (.ref cLa) none H')∧((1≤d∧d≤400)→h.day≤d→bf h.dp d=[]→∀ H',af H H'→E (.ref cNo) none H')∧((1≤d∧d≤400)→h.day≤d→∀ e,(bf h.dp d).getLast?=some e→∀ t H',af (hid H A) (hid H' A)→H' t=some (.tup [.str e.1,.str e.2])→aI H' CH CB A W ss { h with dp:=h.dp.dropLast }→Q (.ref t) H')
theorem rm:aw ["self", "day", "dips"] ["self", "day"] (ao pG):=sM
theorem vH {f fHD fHP:Addr}{fd fdHD fdHP:FuncData}{CH CB cLa cND cNo:Addr}(F:Fun K "back" "House.back" pG f fd)
   (T:Txt mg)(hX:Hx K mg CH)(cB:Cls K CB)(XNo:ExcC K cNo)(mNo:mg "NoDip"=some (.ref cNo))
   (GHD:Cm P w K mg base (CX1 P w) 2 CH "check_day_to_do" ["self", "day"] (rJ CH CB cND cLa) fHD fdHD)
   (GHP:Cm P w K mg base (CX1 P w) 2 CH "dips" ["self", "day"] (gY CH CB cND) fHP fdHP) :
   aU P w K mg base (CX1 P w) 4 f fd ["self", "day"] (rD CH CB cND cLa cNo):=by
 refine oqX F rm fun cdv A outer s H vs Q E hr h=>?_;obtain⟨A0,W,ss,names,h,d,rfl,hh,ho,qd,ql,qn,q⟩:=h;have cH:=hX.c;have hr2:=hr.mono (j:=2) (by omega)
 refine⟨_,(aj (aP (pM (pv 0) cH GHD hr2 bD (aa (pv 1) ae)))
   (aj (pS 2 rm.nd (pM (pv 0) cH GHP hr2 bD (aa (pv 1) ae)))
   (aj (aB (ap bM (al av (by rfl) T.len zX (aa (pv 2) ae)) ag (ax _)) (ah (bA rfl rfl mNo XNo.exc z9 (aa aA ae) df)) am)
   (aj (aP (ya Ap PySem.F.slot_list_pop PySem.F.type_list_pop xV (bB (pv 0) rfl)))
   (ah (aq (pI ak (pv 2) (eG dj ag)))))))),?_⟩
 try dsimp only[aC,aM]
 have hs:=aK;have lo:∀ {m:Str}{dd:Int},(m==zM "first_shades")=false→(m==zM "day_now")=false→(m==zM "standing")=false→(m==zM "books_from")=false→Aj m (hfs A0 dd)=none:=fun h1 h2 h3 h4=>ee h1 h2 h3 h4;refine au (fun σ' H'=>(1≤d∧d≤400)∧h.day≤d∧σ'=[some (.ref A0.x),some (.int d),none]∧H'=H) (fun R hR=>?_) ?_
 . walk_at"";exact⟨A0.dx,_,hh.ins,lo (by decide) (by decide) (by decide) (by decide),A0,W,ss,h,d,rfl,hh,fun hd hl=>hR _ _ ⟨hd,hl,rfl,rfl⟩,fun hd=>qd hd _ (af.refl H),fun hd hl=>ql hd hl _ (af.refl H)⟩
 rintro σ1 H1 ⟨hd,hl,rfl,rfl⟩;refine au (fun σ' H'=>∃ l ps,σ'=[some (.ref A0.x),some (.int d),some (.ref l)]∧af H1 H'∧H1 l=none∧H' l=some (.lst (ps.map V.ref))∧cf H' ps ((bf h.dp d).map fun e=>[.str e.1,.str e.2])) (fun R hR=>?_) ?_
 . walk_at"";exact⟨A0.dx,_,hh.ins,lo (by decide) (by decide) (by decide) (by decide),A0,W,ss,names,h,d,rfl,hh,ho,fun _ l ps H' S' hl0 hH hT=>hR _ _ ⟨l,ps,rfl,S',hl0,hH,hT⟩,fun hn=>absurd hd hn⟩
 rintro σ2 H2 ⟨l,ps,rfl,S2,hl0,hl2,hT⟩;have hpl:=hT.1;rw[be] at hpl;refine au (fun σ' H'=>bf h.dp d≠[]∧σ'=[some (.ref A0.x),some (.int d),some (.ref l)]∧H'=H2) (fun R hR=>?_) ?_
 . walk_at"";refine⟨_,.inl (SqL.of hl2),rfl,?_⟩;rw[be,hpl];exact ay (fun h0=>⟨by decide,qn hd hl (List.length_eq_zero_iff.mp (by omega)) _ S2⟩) (fun h0=>hR _ _ ⟨fun e=>h0 (by rw[e];rfl),rfl,rfl⟩)
 rintro σ3 H3 ⟨hne,rfl,rfl⟩;have hh2:=af.house S2 hh;obtain⟨pz,hls,hpz,hpT⟩:=hh2.dp;have hdp:h.dp≠[]:=fun e=>hne (by unfold bf;rw[e];rfl);have hpz0:pz≠[]:=fun e=>hdp (List.length_eq_zero_iff.mp (by rw[←hpz,e];rfl));have hps:ps≠[]:=fun e=>hne (List.length_eq_zero_iff.mp (by rw[←hpl,e];rfl))
 have hlx:A0.ls≠l:=by
   obtain⟨_,hls1,_⟩:=hh.dp;exact aF hls1 hl0
 refine au (fun σ' H'=>σ'=[some (.ref A0.x),some (.int d),some (.ref l)]∧H'=upd H3 A0.ls (.lst (pz.dropLast.map V.ref))) (fun R hR=>?_) ?_
 . walk_at"";refine⟨CH,A0.dx,_,hh2.ins,hX.c,hX.n3,_,fH,.inl ⟨rfl,_,SqL.of hls⟩,A0.ls,pz.map V.ref,V.ref (pz.getLast hpz0),rfl,rfl,hls,?_,hR _ _ ⟨rfl,by rw[List.map_dropLast]⟩⟩;rw[zO,be,←List.getLast?_eq_getElem?,AL hpz0];rfl
 rintro σ4 H4 ⟨rfl,rfl⟩;walk_at""
 have ea:atI (ps.map V.ref) (-1)=some (V.ref (ps.getLast hps)):=by
   have e:ps.map V.ref=ps.dropLast.map V.ref++[V.ref (ps.getLast hps)]:=by
     rw[←Bt,←zU,Ah hps]
   rw[e];exact eX _ _
 have hlast:(bf h.dp d).getLast?=some ((bf h.dp d).getLast hne):=AL hne;have ht:=hT.2 (ps.length - 1) (ps.getLast hps) [.str ((bf h.dp d).getLast hne).1,.str ((bf h.dp d).getLast hne).2] (by rw[Br];exact zN _) (by rw[zO,hpl,Br,zN (by have:=List.length_pos_iff.mpr hne;omega)];rfl)
 have htl:ps.getLast hps≠A0.ls:=fun e=>by rw[e,hls] at ht;cases ht
 have e1:hid (upd H3 A0.ls (.lst (pz.dropLast.map V.ref))) A0=hid H3 A0:=gg (.inr (.inr (.inl rfl)));obtain⟨n1,n2,n3,n4,n5⟩:=hh2.xd;refine⟨_,SqL.of (by rw[ai (Ne.symm hlx)];exact hl2),_,ea,?_⟩;refine q hd hl _ hlast _ _ (by rw[e1];exact ck S2) (by rw[ai htl];exact ht) ?_;obtain⟨h1,h2,⟨ps',h3,h4,h5⟩,⟨rs,h6,h7,h8⟩,h9,h10⟩:=hh2;refine⟨by rw[ai n2];exact h1,by rw[ai n4];exact h2,⟨pz.dropLast,ac,by rw[AM,AM,hpz],fun i p e hp he=>?_⟩,⟨rs,by rw[ai (Ne.symm n5)];exact h6,h7,h8⟩,h9,by rw[e1];exact h10⟩
 have dl:∀ {α:Type}{xs:List α}{i:Nat}{y:α},xs.dropLast[i]?=some y→xs[i]?=some y:=fun {α xs i y} hy=>by
   rw[BR,Cb] at hy
   split at hy
   . exact hy
   . cases hy
 exact hpT i p e (dl hp) (dl he)
def cg (bk:List (Int×Bk)) (d:Int)(B:Bk):List (Int×Bk):=if(bk.any fun e=>decide (e.1=d))=true then bk.map (fun e=>if e.1=d then(e.1,B) else e) else bk++[(d,B)]
theorem rK {d:Int}{y:Addr}{B:Bk}:∀ (bk:List (Int×Bk))(rs:List Addr),rs.length=bk.length→(bkV bk rs).map (fun kv=>if kv.1=Sum.inl d then(kv.1,V.ref y) else kv)=bkV (bk.map fun e=>if e.1=d then(e.1,B) else e) ((bk.zip rs).map fun e=>if e.1.1=d then y else e.2)
 | [],[],_=>rfl
 | [],_::_,h=>by simp at h
 | _::_,[],h=>by simp at h
 | b::bk,r::rs,h=>by
   have ih:=rK (d:=d) (y:=y) (B:=B) bk rs (by simpa using h);unfold bkV at ih ⊢;rw[A5,Ac,Ac,Ac,Ac,A5,Ac,ih];by_cases e:b.1=d
   . simp[e]
   . simp[e]
theorem rB {d:Int}:∀ (bk:List (Int×Bk))(rs:List Addr),rs.length=bk.length→((bkV bk rs).any fun kv=>decide (kv.1=Sum.inl d))=bk.any fun e=>decide (e.1=d)
 | [],[],_=>rfl
 | [],_::_,h=>by simp at h
 | _::_,[],h=>by simp at h
 | b::bk,r::rs,h=>by
   have ih:=rB (d:=d) bk rs (by simpa using h);unfold bkV at ih ⊢;rw[A5,Ac,Bm,Bm,ih];simp
theorem t9 {bk:List (Int×Bk)}{rs:List Addr}(h:rs.length=bk.length):(bkV bk rs).length=bk.length:=by
 unfold bkV;rw[be,Bu,h,CF]
theorem wJ {bk:List (Int×Bk)}{rs:List Addr}{d:Int}{y:Addr}(B:Bk)(h:rs.length=bk.length):∃ rs',dt (bkV bk rs) (Sum.inl d) (V.ref y)=bkV (cg bk d B) rs'∧rs'.length=(cg bk d B).length∧∀ (i:Nat) r e,rs'[i]?=some r→(cg bk d B)[i]?=some e→(r=y∧e.2=B)∨(rs[i]?=some r∧bk[i]?=some e):=by
 unfold dt cg;rw[rB bk rs h];by_cases c:(bk.any fun e=>decide (e.1=d))=true
 . rw[if_pos c,if_pos c];refine⟨_,rK bk rs h,by rw[be,be,Bu,h,CF],fun i r e hr he=>?_⟩;rw[zO] at hr he;obtain⟨b,hb,rfl⟩:=Option.map_eq_some_iff.mp he;obtain⟨⟨b2,r2⟩,hz,rfl⟩:=Option.map_eq_some_iff.mp hr;rw[List.getElem?_zip_eq_some] at hz;obtain⟨h1,h2⟩:=hz;rw[hb] at h1
   have hbb:b=b2:=by simpa using h1
   subst hbb;by_cases e:b.1=d
   . refine .inl ⟨?_,?_⟩
     . show(if b.1=d then y else r2)=y;rw[if_pos e]
     . rw[if_pos e]
   . refine .inr ⟨?_,?_⟩
     . show rs[i]?=some (if b.1=d then y else r2);rw[if_neg e];exact h2
     . rw[if_neg e];exact hb
 . rw[if_neg c,if_neg c];refine⟨rs++[y],?_,by rw[zP,zP,h];rfl,fun i r e hr he=>?_⟩
   . unfold bkV;rw[List.zip_append h.symm,zU];rfl
   . by_cases hi:i < rs.length
     . rw[zY hi] at hr;rw[zY (by omega)] at he;exact .inr ⟨hr,he⟩
     . rw[zT (by omega)] at hr;rw[zT (by omega)] at he
       have hj:i - rs.length=0:=by
         have:=(List.getElem?_eq_some_iff.mp hr).1;simp only[zV] at this;omega
       rw[hj] at hr;rw[show i - bk.length=0 by omega] at he;cases hr;cases he;exact .inl ⟨rfl,rfl⟩
def ph (W N:Hp):Hp:=fun a=>match W a with | some o=>some o | none=>N a
theorem pX {W N:Hp}:af W (ph W N):=fun a o e=>by
 unfold ph;rw[e]
theorem yj {W N:Hp}(h:∀ a o,N a=some o→W a=none):af N (ph W N):=fun a o e=>by
 unfold ph;rw[h a o e];exact e
theorem wU {W N H:Hp}(h1:af W H)(h2:af N H):af (ph W N) H:=fun a o e=>by
 unfold ph at e
 cases hw:W a with
 | some u=>rw[hw] at e;cases e;exact h1 _ _ hw
 | none=>rw[hw] at e;exact h2 _ _ e
theorem jz {H H':Hp}{a:Addr}{o:HO}(e:cV H H' a=some o):H a=none:=by
 cases hH:H a with
 | none=>rfl
 | some u=>unfold cV at e;rw[hH] at e;cases e
def k6 (K:PySem.W.Frag)(CH CB cNB cBB cND cLa:Addr):Sp:=fun vs H Q E=>∃ (A:Ad)(W:Hp)(ss names os:List Str) (h:Hs) (b:Str)(lu:Addr) (d:Int),vs=[.ref A.x,.str b,.ref lu,.int d]∧aI H CH CB A W ss h∧bH ss names h∧Shw b∧H lu=some (.lst (os.map V.str))∧os.length≤100∧(∀ v∈os,Shw v)∧(b∉names→∀ H',af H H'→E (.ref cNB) none H')∧(b∈names→¬GO (aR h.bk 400).1 os→∀ H',af H H'→E (.ref cBB) none H')∧(b∈names→GO (aR h.bk 400).1 os→¬(1≤d∧d≤400)→∀ H',af H H'→E (.ref cND) none H')∧(b∈names→GO (aR h.bk 400).1 os→(1≤d∧d≤400)→(d < h.day∨bf h.dp d≠[])→∀ H',af H H'→E (.ref cLa) none H')∧(b∈names→GO (aR h.bk 400).1 os→(1≤d∧d≤400)→h.day≤d→bf h.dp d=[]→∀ so ns H' W',kQ (aR h.bk 400).1 so ns (aR h.bk 400).2→aN so (ns.map (chB (aR h.bk 400).1 so (aR h.bk 400).2 b os))→af (hid H A) (hid H' A)→dH H W W'→aI H' CH CB A W' ss { h with day:=d,bk:=cg h.bk d (so,ns.map (chB (aR h.bk 400).1 so (aR h.bk 400).2 b os)) }→Q .non H')
theorem lS:aw ["self", "bath", "outs", "day", "newer"] ["self", "bath", "outs", "day"] (ao jY):=sM
theorem qj {f fHN fMX fHD fHP:Addr}{fd fdHN fdMX fdHD fdHP:FuncData}{CH CB cBB cLa cNB cND:Addr}(F:Fun K "change" "House.change" jY f fd)
   (T:Txt mg)(hX:Hx K mg CH)(cB:Cls K CB)(XLa:ExcC K cLa)(mLa:mg "Late"=some (.ref cLa))
   (GHN:Cm P w K mg base (CX1 P w) 3 CH "newest_book" ["self"] (l6 CH CB) fHN fdHN)
   (GMX:Cm P w K mg base (CX1 P w) 6 CB "changed" ["self", "bath", "outs"] (kF K CB cNB cBB) fMX fdMX)
   (GHD:Cm P w K mg base (CX1 P w) 2 CH "check_day_to_do" ["self", "day"] (rJ CH CB cND cLa) fHD fdHD)
   (GHP:Cm P w K mg base (CX1 P w) 2 CH "dips" ["self", "day"] (gY CH CB cND) fHP fdHP) :
   aU P w K mg base (CX1 P w) 7 f fd ["self", "bath", "outs", "day"] (k6 K CH CB cNB cBB cND cLa):=by
 refine oqX F lS fun cdv A outer s H vs Q E hr h=>?_;obtain⟨A0,W,ss,names,os,h,b,lu,d,rfl,hh,ho,hb,hlu,hol,hsh,qb,qg,qd,ql,q⟩:=h;have hu:=eA hr;have cH:=hX.c;have hr2:=hr.mono (j:=2) (by omega);have hr3:=hr.mono (j:=3) (by omega);have hr6:=hr.mono (j:=6) (by omega)
 refine⟨_,(aj (pS 4 lS.nd (ig (pM0 (pv 0) cH GHN hr3 bD) cB GMX.h GMX.g hr6 GMX.b .nil bD (aa (pv 1) (aa (pv 2) ae))))
   (aj (aP (pM (pv 0) cH GHD hr2 bD (aa (pv 3) ae)))
   (aj (aB (ap fw (al av (by rfl) T.len zX (aa (pM (pv 0) cH GHP hr2 bD (aa (pv 3) ae)) ae)) ag (ax _)) (ah (bA rfl rfl mLa XLa.exc z9 (aa aA ae) df)) am)
   (aj (dE hu (bB (pv 0) rfl) (pv 3) (pv 4) rfl)
   (ah (eD (pv 0) (pv 3) rfl)))))),?_⟩
 try dsimp only[aC,aM]
 have hs:=aK;have lo:∀ {m:Str}{dd:Int},(m==zM "first_shades")=false→(m==zM "day_now")=false→(m==zM "standing")=false→(m==zM "books_from")=false→Aj m (hfs A0 dd)=none:=fun h1 h2 h3 h4=>ee h1 h2 h3 h4;obtain⟨B,hN,hZ⟩:=ho.on 400;generalize hbk0:aR h.bk 400=bz at *;refine au (fun σ' H'=>∃ y so ns,b∈names∧GO bz.1 os∧σ'=[some (.ref A0.x),some (.str b),some (.ref lu),some (.int d),some (.ref y)]∧af H H'∧H y=none∧kQ bz.1 so ns bz.2∧aN so (ns.map (chB bz.1 so bz.2 b os))∧bv (cV H H') CB y so (ns.map (chB bz.1 so bz.2 b os))) (fun R hR=>?_) ?_
 . walk_at"";refine⟨A0.dx,_,hh.ins,lo (by decide) (by decide) (by decide) (by decide),A0,W,ss,names,h,rfl,hh,ho,fun r H3 S3 hbk=>?_⟩;rw[hbk0] at hbk;have hbk2:=af.book (af.house S3 hh).up hbk;have hbk3:=hbk2;obtain⟨dxb,tb,db,so,b1,b2,b3,b4,b5⟩:=hbk2;refine⟨r,rfl,dxb,_,b1,bO (by decide) (by decide),r,lu,bz.1,os,bz.2,b,rfl,hbk3,B,hb,S3 _ _ hlu,hol,hsh,fun hn=>qb (fun z=>hn ((hN b).mpr z)) _ S3,fun hm hg H4 S4=>qg ((hN b).mp hm) hg _ (S3.trans S4),fun hm hg y so ns H4 hy S4 CI B2 hbk4=>hR _ _ ⟨y,so,ns,(hN b).mp hm,hg,rfl,S3.trans S4,S3.free hy,CI,B2,af.book (gK S3) hbk4⟩⟩
 rintro σ1 H1 ⟨y,so,ns,hm,hg,rfl,S1,hy,CI,B2,hbk⟩;have hh1:=af.house S1 hh;refine au (fun σ' H'=>(1≤d∧d≤400)∧h.day≤d∧σ'=[some (.ref A0.x),some (.str b),some (.ref lu),some (.int d),some (.ref y)]∧H'=H1) (fun R hR=>?_) ?_
 . walk_at"";exact⟨A0.dx,_,hh1.ins,lo (by decide) (by decide) (by decide) (by decide),A0,W,ss,h,d,rfl,hh1,fun hd hl=>hR _ _ ⟨hd,hl,rfl,rfl⟩,fun hd=>qd hm hg hd _ S1,fun hd hl=>ql hm hg hd (.inl hl) _ S1⟩
 rintro σ2 H2 ⟨hd,hl,rfl,rfl⟩;refine au (fun σ' H'=>bf h.dp d=[]∧σ'=[some (.ref A0.x),some (.str b),some (.ref lu),some (.int d),some (.ref y)]∧af H2 H') (fun R hR=>?_) ?_
 . walk_at"";refine⟨A0.dx,_,hh1.ins,lo (by decide) (by decide) (by decide) (by decide),A0,W,ss,names,h,d,rfl,hh1,ho,fun _ l ps H' S' hl0 hH hT=>?_,fun hn=>absurd hd hn⟩;have hpl:=hT.1;rw[be] at hpl;refine⟨l,rfl,_,.inl (SqL.of hH),?_⟩;rw[be,hpl];exact ay (fun h0=>⟨by decide,ql hm hg hd (.inr fun e=>by rw[e] at h0;exact absurd h0 (by decide)) _ (S1.trans S')⟩) (fun h0=>hR _ _ ⟨List.length_eq_zero_iff.mp (by omega),rfl,S'⟩)
 rintro σ3 H3 ⟨hno,rfl,S3⟩;have hh3:=af.house S3 hh1;obtain⟨n1,n2,n3,n4,n5⟩:=hh3.xd;obtain⟨h1,h2,⟨ps',h3,h4,h5⟩,⟨rs,h6,h7,h8⟩,h9,h10⟩:=hh3;obtain⟨rs',hput,hrl,hrs⟩:=wJ (d:=d) (y:=y) (so,ns.map (chB bz.1 so bz.2 b os)) h7;have hkl:=ho.kl;refine au (fun σ' H'=>σ'=[some (.ref A0.x),some (.str b),some (.ref lu),some (.int d),some (.ref y)]∧H'=upd H3 A0.db (.dK (bkV (cg h.bk d (so,ns.map (chB bz.1 so bz.2 b os))) rs'))) (fun R hR=>?_) ?_
 . walk_at"";refine⟨CH,A0.dx,_,h1,hX.c,hX.n4,_,kM,A0.db,rfl,_,.inl ⟨_,Sum.inl d,h6,rfl,by rw[t9 h7];omega,rfl⟩,?_⟩;rw[hput];exact hR _ _ ⟨rfl,rfl⟩
 rintro σ4 H4 ⟨rfl,rfl⟩;walk_at"";refine⟨CH,A0.dx,_,by rw[ai n3];exact h1,hX.c,hX.n2,by show 4 < 1000;decide,?_⟩;rw[pFd];have hWN:∀ a o,cV H H2 a=some o→W a=none:=fun a o e=>hh.up.free (jz e)
 have SN:af (cV H H2) (hid H3 A0):=fun a o e=>by
   have e0:=jz e;obtain⟨_,z3,_,_⟩:=hh.dp;obtain⟨_,z4,_,_⟩:=hh.bk;unfold hid
   rw[if_neg (fun z=>by
     rcases z with z | z | z | z
     . rw[z,hh.ins] at e0;cases e0
     . rw[z,hh.cl] at e0;cases e0
     . rw[z,z3] at e0;cases e0
     . rw[z,z4] at e0;cases e0)]
   exact S3 _ _ (ln _ _ e)
 have e1:∀ u v,hid (upd (upd H3 A0.db u) A0.x v) A0=hid H3 A0:=fun u v=>by
   rw[gg (.inl rfl),gg (.inr (.inr (.inr rfl)))]
 refine q hm hg hd hl hno so ns _ (ph W (cV H H2)) CI B2 (by rw[e1];exact ck (S1.trans S3)) ⟨pX,fun a o hw hH=>?_⟩ ⟨ac,by rw[ai (Ne.symm n1),ai h9];exact h2,⟨ps',by rw[ai (Ne.symm n2),ai n5];exact h3,h4,fun i p e hp he=>pX _ _ (h5 i p e hp he)⟩,⟨rs',by rw[ai (Ne.symm n3),ac],hrl,fun i r e hr he=>?_⟩,h9,by rw[e1];exact wU h10 SN⟩
 . unfold ph cV;rw[hw,hH]
 . rcases hrs i r e hr he with ⟨rfl,he2⟩ | ⟨hr2,he2⟩
   . rw[he2];exact af.book (yj hWN) hbk
   . exact af.book pX (h8 i r e hr2 he2)
theorem bH.back {ss names:List Str}{h:Hs}(ho:bH ss names h):bH ss names { h with dp:=h.dp.dropLast } :=
 ⟨ho.cnd,ho.csh,ho.cnm,ho.d1,ho.d4,by show h.dp.dropLast.length≤1000;rw[AM];have:=ho.dl;omega,fun e he=>ho.dd e ((Bf _).subset he),fun e he=>ho.ds e ((Bf _).subset he),ho.k1,ho.ks,ho.kd,ho.kl,ho.kb⟩
theorem iE {bk:List (Int×Bk)}{d:Int}{B:Bk}{e:Int×Bk}(h:e∈cg bk d B):e=(d,B)∨e∈bk:=by
 unfold cg at h
 split at h
 . obtain⟨x,hx,rfl⟩:=List.mem_map.mp h;by_cases c:x.1=d
   . rw[if_pos c,c];exact .inl rfl
   . rw[if_neg c];exact .inr hx
 . rcases List.mem_append.mp h with h | h
   . exact .inr h
   . exact .inl (List.mem_singleton.mp h)
theorem vM:∀ {bk:List (Int×Bk)}{lo hi:Int},bk.Pairwise (fun a b=>a.1 < b.1)→(∀ e∈bk,lo≤e.1∧e.1≤hi)→lo≤hi+1→(bk.length:Int)≤hi - lo+1
 | [],_,_,_,_,h=>by simp;omega
 | a::r,lo,hi,hp,hb,_=>by
   have h1:=List.pairwise_cons.mp hp;have h2:=hb a zZ;have:=vM (bk:=r) (lo:=a.1+1) (hi:=hi) h1.2 (fun e he=>⟨by have:=h1.1 e he;omega,(hb e (z7 _ he)).2⟩) (by omega);rw[Az]
   push_cast
   omega
theorem bH.change {ss names:List Str}{h:Hs}{d:Int}{B:Bk}(ho:bH ss names h)(hd:1≤d∧d≤400)(hl:h.day≤d)(hB:aN B.1 B.2∧(∀ n,n∈B.2.map (·.1)↔n∈names)∧∀ z,z∈B.1↔z∈ss):bH ss names { h with day:=d,bk:=cg h.bk d B }:=by
 have hks:(cg h.bk d B).Pairwise (fun a b=>a.1 < b.1):=by
   unfold cg
   split
   . rw[List.pairwise_map];refine ho.ks.imp fun {a b} hab=>?_
     have e:∀ x:Int×Bk,(if x.1=d then(x.1,B) else x).1=x.1:=fun x=>by split<;>rfl
     rw[e,e];exact hab
   . rename_i hn;rw[Bx];refine⟨ho.ks,Bp ..,fun a ha b hb=>?_⟩;rw[List.mem_singleton.mp hb];show a.1 < d;have h1:=(ho.kd a ha).2;have h2:a.1≠d:=fun e=>hn (List.any_eq_true.mpr ⟨a,ha,decide_eq_true e⟩);omega
 have hkd:∀ e∈cg h.bk d B,1≤e.1∧e.1≤d:=fun e he=>by
   rcases iE he with rfl | he
   . exact⟨hd.1,BA _⟩
   . have:=ho.kd e he;exact⟨this.1,by omega⟩
 refine⟨ho.cnd,ho.csh,ho.cnm,hd.1,hd.2,ho.dl,fun e he=>by have:=ho.dd e he;exact⟨this.1,by show e.1≤d;omega⟩,ho.ds,?_,hks,hkd,?_,fun e he=>?_⟩
 . obtain⟨b,r,hb⟩:=ho.k1;show ∃ b r,cg h.bk d B=(1,b)::r;unfold cg;rw[hb]
   split
   . rw[Ac];by_cases c:(1:Int)=d
     . exact⟨B,_,by rw[if_pos c]⟩
     . exact⟨b,_,by rw[if_neg c]⟩
   . exact⟨b,_,rfl⟩
 . have:=vM hks hkd (by omega);show(cg h.bk d B).length≤400;omega
 . rcases iE he with rfl | he
   . exact hB
   . exact ho.kb e he
theorem bH.ch {ss names so ns os:List Str}{h:Hs}{b:Str}(ho:bH ss names h)(CI:kQ (aR h.bk 400).1 so ns (aR h.bk 400).2)(B2:aN so (ns.map (chB (aR h.bk 400).1 so (aR h.bk 400).2 b os))):aN so (ns.map (chB (aR h.bk 400).1 so (aR h.bk 400).2 b os))∧(∀ n,n∈(ns.map (chB (aR h.bk 400).1 so (aR h.bk 400).2 b os)).map (·.1)↔n∈names)∧∀ z,z∈so↔z∈ss:=by
 obtain⟨_,hN,hZ⟩:=ho.on 400
 have e:(ns.map (chB (aR h.bk 400).1 so (aR h.bk 400).2 b os)).map (·.1)=ns:=by
   rw[Av];exact List.map_id ns
 refine⟨B2,fun n=>?_,fun z=>?_⟩
 . rw[e,CI.pn.mem_iff];exact hN n
 . rw[CI.ps.mem_iff];exact hZ z
def mw (K:PySem.W.Frag):Sp:=fun vs H Q _=>∃ (a b:Addr)(xs:List Str),vs=[.ref a,.ref b]∧H a=some (.lst (xs.map V.str))∧SqL K H b (xs.map V.str)∧xs.length≤1000∧Q (.bl true) H
theorem rg:aw ["_law_found", "_law_due_here", "_law_k"] ["_law_found", "_law_due_here"] (ao qC):=sM
theorem uJ {f:Addr}{fd:FuncData}(F:Fun K "_law_texts" "_law_texts" qC f fd)(T:Txt mg):aU P w K mg base CX0 1 f fd ["_law_found", "_law_due_here"] (mw K):=by
 refine oq F rg fun cdv A outer s H vs Q E hr h=>?_;obtain⟨a,b,xs,rfl,ha,hb,hlen,q⟩:=h
 refine⟨_,aL (aB (PW.pt (d8 (bV (bE (al cp (by rfl) T.isi (by decide) (aa (pv 0) (aa (cA (v:=.ty "list") rfl T.list (by decide) rfl) ae))))) (cM (ap i6 (al av (by rfl) T.len zX (aa (pv 0) ae)) (al av (by rfl) T.len zX (aa (pv 1) ae)) (ax _))))) (ah (aq cw)) am)
   (aL (bC PassesOwn.never rfl (cc rfl T.range (aa (al av (by rfl) T.len zX (aa (pv 1) ae)) ae)) (pN 2 rg.nd)
     (ah (aB (PW.pt (d8 (bV (bE (al cp (by rfl) T.isi (by decide) (aa (pI ak (pv 0) (pv 2)) (aa (cA (v:=.ty "str") rfl T.str (by decide) rfl) ae))))) (cM (ap i6 (pI ak (pv 0) (pv 2)) (pI ak (pv 1) (pv 2)) (ax _))))) (ah (aq cw)) am)))
   (ah (aq cw))),?_⟩
 try dsimp only[aC,aM]
 have hs:=aK;walk_at"";refine⟨_,cx.lst ha,true,rfl,ay (fun h=>by cases h) (fun _=>⟨_,.inl (SqL.of ha),_,.inl hb,rfl,?_⟩)⟩;refine ay (fun h=>absurd rfl h) (fun _=>⟨_,.inl hb,?_⟩);rw[be];refine⟨by omega,by omega,?_⟩;refine bg (H0:=H) br (fun i σ' H'=>∃ o,σ'=[some (.ref a),some (.ref b),o]∧H'=H) ⟨none,rfl,rfl⟩ (fun _ _ _ _ ⟨_,_,h⟩=>by rw[h];exact af.refl _) ?_ ?_
 . rintro i x σ H' hi rfl ⟨o,rfl,rfl⟩
   have ei:(0:Int)+(i:Int)=i:=by omega
   rw[ei];obtain⟨z,hz⟩:∃ z,xs[i]?=some z:=⟨_,zN (by omega)⟩;walk_at"";refine⟨_,SqL.of ha,_,bZ hz,_,cx.str z,true,rfl,ay (fun h=>by cases h) (fun _=>⟨_,SqL.of ha,_,bZ hz,_,hb,_,bZ hz,rfl,?_⟩)⟩;refine ay (fun h=>absurd rfl h) (fun _=>⟨_,rfl⟩)
 . rintro σ H' ⟨o,rfl,rfl⟩;exact q
def i5 (d:Addr)(H H':Hp):Prop:=∀ b o,b≠d→H b=some o→H' b=some o
theorem o0 {H1:Hp}{d:Addr}{kvs:List (Key×V)}{W:Obj→Hp→Prop}(h:Rd H1 d (.dK kvs))(k:∀ o HF,HF d=some (.frz o (.dK kvs))→Fz H1 HF→i5 d H1 HF→W o HF) :
   (H1 d=some (.dK kvs)∧∀ o,W o (upd H1 d (.frz o (.dK kvs))))∨∃ o,H1 d=some (.frz o (.dK kvs))∧W o H1:=by
 rcases h with h | ⟨o,h⟩
 . exact .inl ⟨h,fun o=>k o _ ac (tT h) (fun b u hb e=>by rw[ai hb];exact e)⟩
 . exact .inr ⟨o,h,k o _ h (Fz.refl _) (fun _ _ _ e=>e)⟩
def mG (K:PySem.W.Frag)(C:Addr):Sp:=fun vs H Q _=>∃ (x lo d:Addr)(ss so ns:List Str)(bs:List (Str×List Str))(lk:Str→Str→Str),vs=[.ref x,.ref lo,.ref d]∧bv H C x ss bs∧aN ss bs∧SqL K H lo (so.map V.str)∧so.Perm ss∧Aq so=true ∧
 dc H d ss ns lk∧ns.Perm (bs.map (·.1))∧(∀ b∈bs,∀ z∈ss,lk b.1 z=lkV ss b z)∧∀ H',Fz H H'→i5 d H H'→Q (.bl true) H'
theorem mP:aw ["_law_book", "_law_order", "_law_tables_here", "_law_bath", "_law_due_here"] ["_law_book", "_law_order", "_law_tables_here"] (ao qT):=sM
theorem uQ {C f fT fS fB fTb fO:Addr}{fd fdT fdS fdB fdTb fdO:FuncData}(F:Fun K "_law_tells" "_law_tells" qT f fd)(T:Txt mg)(c:Cls K C)
   (GT:Cl P w K mg base CX0 1 "_law_texts" ["_law_found", "_law_due_here"] (mw K) fT fdT)
   (GS:Cm P w K mg base CX0 1 C "shades" ["self"] (iX C) fS fdS)
   (GB:Cm P w K mg base CX0 1 C "baths" ["self"] (kh C) fB fdB)
   (GTb:Cm P w K mg base CX0 2 C "table" ["self", "bath"] (jZ C) fTb fdTb)
   (GO:Cm P w K mg base CX0 2 C "out" ["self", "bath", "shade"] (qp C) fO fdO) :
   aU P w K mg base CX0 3 f fd ["_law_book", "_law_order", "_law_tables_here"] (mG K C):=by
 refine oq F mP fun cdv A outer s H vs Q E hr h=>?_;obtain⟨x,lo,d,ss,so,ns,bs,lk,rfl,hbk,B,hlo,hpm,hso,hG,hns,hlk,q⟩:=h;have hu:=eA hr;have hr1:=hr.mono (j:=1) (by omega)
 refine⟨_,aj (aB (PW.pt (d8 (bV (bE (pC GT hr1 az (aa (pM0 (pv 0) c GS hr1 az) (aa (pv 1) ae))))) (cM (bV (bE (pC GT hr1 az (aa (pM0 (pv 0) c GB hr1 az) (aa (al (dS rfl) (by rfl) T.sorted (by decide) (aa (pv 2) ae)) ae)))))))) (ah (aq cw)) am)
   (aL (bC PassesOwn.never rfl (mz (pv 2)) (rS (i:=3) mP.nd rfl (Or.inr rfl))
     (aj (jw (i:=4) (N':=["_law_shade", "_law_tables_here", "_law_bath"]) (pk:=[none,some 2,some 3]) mP.nd rfl (Or.inl rfl) rfl (bW.of (by rfl)) (a8 (pv 1)) (fun s H ex=>pN 0 (by show(["_law_shade", "_law_tables_here", "_law_bath"]:List Str).Nodup;decide))
       (fun s H ex=>cv hu (cv hu (pv 1) (pv 2) (fun _ _=>rfl)) (pv 0) (fun _ _=>rfl)))
     (aj (aB (bV (bE (pC GT hr1 az (aa (pM (pv 0) c GTb hr az (aa (pv 3) ae)) (aa (pv 4) ae))))) (ah (aq cw)) am)
     (ah (aB (bV (bE (pC GT hr1 az (aa (fk (N':=["_law_shade", "_law_book", "_law_bath"]) (pk:=[none,some 0,some 3]) rfl (bW.of (by rfl)) (a8 (pv 1)) (fun s H ex=>pN 0 (by show(["_law_shade", "_law_book", "_law_bath"]:List Str).Nodup;decide))
       (fun s H ex=>pM (pv 1) c GO hr az (aa (pv 2) (aa (pv 0) ae)))) (aa (pv 4) ae))))) (ah (aq cw)) am)))))
   (ah (aq cw))),?_⟩
 try dsimp only[aC,aM]
 have hs:=aK;have hs12:=B.s12;have hb8:=B.b8;have hsl:so.length=ss.length:=hpm.length_eq;refine cut (fun σ' H'=>σ'=[some (.ref x),some (.ref lo),some (.ref d),none,none]∧af H H') ?_ ?_
 . obtain⟨dx,t,d',so',h1,h2,h3,h4,h5⟩:=hbk;have hbk:bv H C x ss bs:=⟨dx,t,d',so',h1,h2,h3,h4,h5⟩;obtain⟨kvs,hR,hkeys,htab⟩:=hG
   have hnl:ns.length=bs.length:=by rw[hns.length_eq,be]
   walk_at"";refine⟨dx,_,h1,bO (by decide) (by decide),x,ss,bs,rfl,hbk,B,fun l so2 hl hp2 hs2=>?_⟩;have e2:so2=so:=cy hs2 hso (hp2.trans hpm.symm);subst e2;have Sa:af H (upd H l (.lst (so2.map V.str))):=af.updN hl;refine⟨l,lo,so2,rfl,ac,Sa.seq hlo,by omega,true,rfl,ay (fun h=>by cases h) (fun _=>⟨dx,_,Sa _ _ h1,bO (by decide) (by decide),x,ss,bs,rfl,af.book Sa hbk,B,fun l2 ns2 hl2 hp3 hs3=>?_⟩)⟩;have Sb:=Sa.step (o:=.lst (ns2.map V.str)) (Sa.free hl2);refine⟨ns,kvs,af.rd Sb hR,hkeys,by omega,fun p ns3 hp hpp hs4=>?_⟩;have e3:ns3=ns2:=cy hs4 hs3 (hpp.trans (hns.trans hp3.symm));subst e3
   have hpl2:l2≠p:=fun e=>by rw[←e,ac] at hp;cases hp
   refine⟨l2,p,ns3,rfl,by rw[ai hpl2];exact ac,SqL.of ac,by rw[hpp.length_eq];omega,true,rfl,ay (fun h=>by cases h) (fun _=>Sb.step (Sb.free hp))⟩
 rintro σ1 H1 ⟨rfl,S1⟩;walk_at"";have hGR:=hG;obtain⟨kvs,hR,hkeys,htab⟩:=hGR;refine⟨kvs,o0 (W:=fun o HF=>vA (Itd d o kvs) _ _ _ _ HF) (af.rd S1 hR) fun o HF hHF S2 X2=>?_⟩;have SF:Fz H HF:=(af.fz S1).trans S2;have hbkF:=Fz.book SF hbk;have hloF:SqL K HF lo (so.map V.str):=Fz.seq SF hlo;have hGF:=Fz.tabG SF hG;refine bg (H0:=HF) (fN hHF) (fun i σ' H'=>∃ o3 o4,σ'=[some (.ref x),some (.ref lo),some (.ref d),o3,o4]∧af HF H') ⟨none,none,rfl,af.refl _⟩ (fun _ _ _ _ ⟨_,_,_,h⟩=>h) ?_ ?_
 . rintro i y σ H' hi ⟨k,v,hk,rfl⟩ ⟨o3,o4,rfl,hS⟩
   have hkm:k∈ns.map Sum.inr:=by
     rw[←hkeys];exact zS (i:=i) (by rw[zO,hk];rfl)
   obtain⟨n,hn,rfl⟩:=List.mem_map.mp hkm;obtain⟨b,hb,rfl⟩:=List.mem_map.mp (hns.mem_iff.mp hn);have ek:kV (Sum.inr b.1)=V.str b.1:=rfl;rw[ek];walk_at"";refine cut (fun σ' H''=>∃ du,σ'=[some (.ref x),some (.ref lo),some (.ref d),some (.str b.1),some (.ref du)]∧af HF H''∧H'' du=some (.lst ((so.map (lkV ss b)).map V.str))) ?_ ?_
   . walk_at"";refine⟨⟨_,hS.seq hloF⟩,fun D hD=>?_⟩;refine cG (aG (hS.seq hloF)) (by rw[be];omega) hD (fun σ=>∃ o,σ=[o,some (.ref d),some (.str b.1)]) (fun k=>V.str (lkV ss b (so.getD k ⟨#[]⟩))) ⟨none,rfl⟩ ?_ ?_
     . rintro k y σ' H3 hk2 hy ⟨o,rfl⟩ hS3 R hR;rw[zO] at hy;obtain⟨z,hz,rfl⟩:=Option.map_eq_some_iff.mp hy;have hzs:z∈ss:=hpm.mem_iff.mp (zS hz);obtain⟨r,hg1,hg2⟩:=(Fz.tabG (af.fz (hS.trans hS3)) hGF).get hn hzs;walk_at"";refine⟨_,hg1,r,rfl,_,hg2,?_⟩;rw[hlk b hb z hzs]
       have e:so.getD k ⟨#[]⟩=z:=by rw[zQ,hz];rfl
       have:=hR [some (V.str z),some (V.ref d),some (V.str b.1)] ⟨_,rfl⟩;rw[e] at this;exact this
     . have e:(zW (so.map V.str).length).map (fun k=>V.str (lkV ss b (so.getD k ⟨#[]⟩)))=(so.map (lkV ss b)).map V.str:=by
         rw[Av];refine cF _ so _ _ (by rw[be]) fun k y hy=>?_;rw[zQ,hy];rfl
       rw[e];exact⟨hS.step (hS.free hD),ac⟩
   rintro σ2 H2 ⟨du,rfl,S3,hdu⟩;refine cut (fun σ' H''=>σ'=[some (.ref x),some (.ref lo),some (.ref d),some (.str b.1),some (.ref du)]∧af HF H''∧H'' du=some (.lst ((so.map (lkV ss b)).map V.str))) ?_ ?_
   . obtain⟨dx,t,d',so',h1,h2,h3,h4,h5⟩:=hbkF;have hbkF:bv HF C x ss bs:=⟨dx,t,d',so',h1,h2,h3,h4,h5⟩;walk_at"";refine⟨dx,_,S3 _ _ h1,bO (by decide) (by decide),x,ss,bs,b,rfl,af.book S3 hbkF,B,hb,fun l so2 hl hp2 hs2=>?_⟩;have e2:so2=so:=cy hs2 hso (hp2.trans hpm.symm);subst e2;have Sa:af H2 (upd H2 l (.lst ((so2.map (lkV ss b)).map V.str))):=af.updN hl;refine⟨l,du,so2.map (lkV ss b),rfl,ac,SqL.of (Sa _ _ hdu),by rw[be];omega,true,rfl,ay (fun h=>by cases h) (fun _=>⟨S3.trans Sa,Sa _ _ hdu⟩)⟩
   rintro σ3 H3 ⟨rfl,S4,hdu3⟩;walk_at"";refine⟨⟨_,S4.seq hloF⟩,fun D hD=>?_⟩;refine cG (aG (S4.seq hloF)) (by rw[be];omega) hD (fun σ=>∃ o,σ=[o,some (.ref x),some (.str b.1)]) (fun k=>V.str (lkV ss b (so.getD k ⟨#[]⟩))) ⟨none,rfl⟩ ?_ ?_
   . rintro k y σ' H5 hk2 hy ⟨o,rfl⟩ hS5 R hR;rw[zO] at hy;obtain⟨z,hz,rfl⟩:=Option.map_eq_some_iff.mp hy;have hzs:z∈ss:=hpm.mem_iff.mp (zS hz);have hbk5:=af.book (S4.trans hS5) hbkF;obtain⟨dx,t,d',so',h1,h2,h3,h4,h5⟩:=hbk5;have hbk5:bv H5 C x ss bs:=⟨dx,t,d',so',h1,h2,h3,h4,h5⟩;walk_at"";refine⟨dx,_,h1,bO (by decide) (by decide),x,ss,bs,b,z,rfl,hbk5,B,hb,hzs,?_⟩
     have e:so.getD k ⟨#[]⟩=z:=by rw[zQ,hz];rfl
     have:=hR [some (V.str z),some (V.ref x),some (V.str b.1)] ⟨_,rfl⟩;rw[e] at this;exact this
   . have e:(zW (so.map V.str).length).map (fun k=>V.str (lkV ss b (so.getD k ⟨#[]⟩)))=(so.map (lkV ss b)).map V.str:=by
       rw[Av];refine cF _ so _ _ (by rw[be]) fun k y hy=>?_;rw[zQ,hy];rfl
     rw[e];have Sa:af H3 (upd H3 D (.lst ((so.map (lkV ss b)).map V.str))):=af.updN hD;exact⟨D,du,so.map (lkV ss b),rfl,ac,SqL.of (Sa _ _ hdu3),by rw[be];omega,true,rfl,ay (fun h=>by cases h) (fun _=>⟨⟨_,rfl⟩,S4.trans Sa⟩)⟩
 . rintro σ H' ⟨o3,o4,rfl,hS⟩;walk_at"";exact q _ (SF.trans (af.fz hS)) (fun b o hb e=>hS _ _ (X2 b o hb (S1 _ _ e)))
theorem vm {kvs:List (Key×V)}{k:Key}{v:V}(h:(bG kvs k).isSome=true):(dt kvs k v).map (·.1)=kvs.map (·.1):=by
 unfold dt;rw[ef,if_pos h,Av];refine List.map_congr_left fun kv _=>?_;show(if kv.1=k then(kv.1,v) else kv).1=kv.1
 split<;>rfl
theorem dc.perm {H:Hp}{d:Addr}{ss ss' ns:List Str}{lk:Str→Str→Str}(h:dc H d ss ns lk)(p:ss'.Perm ss):dc H d ss' ns lk:=by
 obtain⟨kvs,h1,h2,h3⟩:=h;refine⟨kvs,h1,h2,fun n hn=>?_⟩;obtain⟨r,kv,e1,e2,e3⟩:=h3 n hn;exact⟨r,kv,e1,e2,fun z hz=>e3 z (p.mem_iff.mp hz)⟩
def d9 (so:List Str) (t:Str)(os:List Str)(lk:Str→Str→Str):Str→Str→Str:=fun n z=>if n=t then lkV so (t,os) z else lk n z
theorem rl:∀ (a:Int×Bk)(r:List (Int×Bk)) (e:Int),(a::r).Pairwise (fun a b=>a.1 < b.1)→a.1≤e→∃ x∈a::r,x.1≤e∧(∀ y∈a::r,y.1≤e→y.1≤x.1)∧aR (a::r) e=x.2
 | a,[],e,_,h=>⟨a,zZ,h,fun y hy _=>by rw[List.mem_singleton.mp hy];exact BA _,rfl⟩
 | a,b::r,e,hp,h=>by
   have hp2:=List.pairwise_cons.mp hp;by_cases hb:b.1≤e
   . obtain⟨x,hx,h1,h2,h3⟩:=rl b r e hp2.2 hb;refine⟨x,z7 _ hx,h1,fun y hy hye=>?_,?_⟩
     . rcases List.mem_cons.mp hy with rfl | hy
       . have h4:=hp2.1 b zZ;have h5:=h2 b zZ hb;omega
       . exact h2 y hy hye
     . show(if b.1≤e then aR (b::r) e else a.2)=x.2;rw[if_pos hb];exact h3
   . refine⟨a,zZ,h,fun y hy hye=>?_,?_⟩
     . rcases List.mem_cons.mp hy with rfl | hy
       . exact BA _
       . rcases List.mem_cons.mp hy with rfl | hy
         . exact absurd hye hb
         . have:=(List.pairwise_cons.mp hp2.2).1 y hy;omega
     . show(if b.1≤e then aR (b::r) e else a.2)=a.2;rw[if_neg hb]
theorem bH.ex {ss names:List Str}{h:Hs}(ho:bH ss names h){e:Int}(he:1≤e):∃ x∈h.bk,x.1≤e∧(∀ y∈h.bk,y.1≤e→y.1≤x.1)∧aR h.bk e=x.2:=by
 obtain⟨b1,r1,hb⟩:=ho.k1;have hks:=ho.ks;rw[hb] at hks ⊢;exact rl (1,b1) r1 e hks he
theorem pO {bk:List (Int×Bk)}{d:Int}{B:Bk}:(d,B)∈cg bk d B:=by
 unfold cg
 split
 . rename_i h;obtain⟨x,hx,hd⟩:=List.any_eq_true.mp h;have hd:=of_decide_eq_true hd;exact List.mem_map.mpr ⟨x,hx,by rw[if_pos hd,hd]⟩
 . exact Ai _ zZ
theorem tu {bk:List (Int×Bk)}{d:Int}{B:Bk}{x:Int×Bk}(hx:x∈bk)(hd:x.1≠d):x∈cg bk d B:=by
 unfold cg
 split
 . exact List.mem_map.mpr ⟨x,hx,by rw[if_neg hd]⟩
 . exact AX _ hx
theorem nP {ss names:List Str}{h:Hs}{d:Int}{B:Bk}(ho:bH ss names h)(ho2:bH ss names { h with day:=d,bk:=cg h.bk d B }){e:Int}(he:1≤e):aR (cg h.bk d B) e=if d≤e then B else aR h.bk e:=by
 have hks:(cg h.bk d B).Pairwise (fun a b=>a.1 < b.1):=ho2.ks;by_cases hde:d≤e
 . rw[if_pos hde];exact ju _ e d B hks pO hde (fun x hx _=>(ho2.kd x hx).2)
 . rw[if_neg hde];obtain⟨x,hx,h1,h2,h3⟩:=ho.ex he;rw[h3];refine ju _ e x.1 x.2 hks (tu hx (by omega)) h1 (fun y hy hye=>?_)
   rcases iE hy with rfl | hy
   . exact absurd hye hde
   . exact h2 y hy hye
theorem xG {ss so ns:List Str}{bs:List (Str×List Str)}{t:Str}{os:List Str}(B:aN ss bs)(CI:kQ ss so ns bs)(B2:aN so (ns.map (chB ss so bs t os))){n z:Str}(hn:n∈ns)(hz:z∈so):lkB so (ns.map (chB ss so bs t os)) n z=if n=t then lkV so (t,os) z else lkB ss bs n z:=by
 have h1:=eE (ss:=so) z B2.bnd (Ao (f:=chB ss so bs t os) hn);exact h1.trans (xg B CI hz)
theorem yX {ss names so so2 ns:List Str}{h:Hs}{bs:List (Str×List Str)}(ho:bH ss names h)(hn:ss.Nodup)(hp:so.Perm ss)(ht:Aq so=true)(CI:kQ (aR h.bk 400).1 so2 ns bs):so2=so:=by
 obtain⟨B,_,hZ⟩:=ho.on 400;have hp2:(aR h.bk 400).1.Perm ss:=(BB B.snd hn).mpr hZ;exact cy CI.ts ht (CI.ps.trans (hp2.trans hp.symm))
theorem aI.frz {H H':Hp}{C CB:Addr}{A:Ad}{W:Hp}{ss:List Str}{h:Hs}{d:Addr}(hh:aI H C CB A W ss h)(hx:d≠A.x∧d≠A.d1∧d≠A.ls∧d≠A.db)(hw:W d=none)(S:i5 d H H'):aI H' C CB A W ss h:=by
 obtain⟨n1,n2,n3,n4⟩:=hx;obtain⟨h1,h2,⟨ps,h3,h4,h5⟩,⟨rs,h6,h7,h8⟩,h9,h10⟩:=hh;refine⟨S _ _ (Ne.symm n1) h1,S _ _ (Ne.symm n2) h2,⟨ps,S _ _ (Ne.symm n3) h3,h4,h5⟩,⟨rs,S _ _ (Ne.symm n4) h6,h7,h8⟩,h9,fun b o e=>?_⟩
 have hb:b≠d:=fun z=>by rw[z,hw] at e;cases e
 have e2:=h10 b o e;unfold hid at e2 ⊢
 split at e2
 . cases e2
 . rename_i hn;rw[if_neg hn];exact S _ _ hb e2
theorem jK {ss names:List Str}{h:Hs}(ho:bH ss names h)(hn:names.Nodup) (d:Int):names.Perm ((aR h.bk d).2.map (·.1)):=by
 obtain⟨B,hN,_⟩:=ho.on d;exact(BB hn B.bnd).mpr fun n=>(hN n).symm
theorem gc {ss names:List Str}{h:Hs}(ho:bH ss names h)(hn:ss.Nodup) (d:Int):(aR h.bk d).1.Perm ss:=by
 obtain⟨B,_,hZ⟩:=ho.on d;exact(BB B.snd hn).mpr hZ
theorem fe {H:Hp}{A:Ad}{b:Addr}{o:HO}(h:H b=some o)(b1:b≠A.x)(b2:b≠A.d1)(b3:b≠A.ls)(b4:b≠A.db):hid H A b=some o:=by
 unfold hid;rw[if_neg (fun z=>by rcases z with z | z | z | z;exact b1 z;exact b2 z;exact b3 z;exact b4 z)];exact h
theorem nw {H H':Hp}{C CB:Addr}{A:Ad}{W:Hp}{ss:List Str}{h:Hs}{b:Addr}{o:HO}(hh:aI H C CB A W ss h)(hb:H b=none)(h':H' b=some o):hid H' A b=some o:=by
 obtain⟨_,hls,_⟩:=hh.dp;obtain⟨_,hdb,_⟩:=hh.bk;exact fe h' (fun z=>by rw[z,hh.ins] at hb;cases hb) (fun z=>by rw[z,hh.cl] at hb;cases hb) (fun z=>by rw[z,hls] at hb;cases hb) (fun z=>by rw[z,hdb] at hb;cases hb)
theorem nq {H:Hp}{C CB:Addr}{A:Ad}{W:Hp}{ss:List Str}{h:Hs}{b:Addr}{xs:List V}(hh:aI H C CB A W ss h)(hb:H b=some (.tup xs)):hid H A b=some (.tup xs):=by
 obtain⟨_,hls,_⟩:=hh.dp;obtain⟨_,hdb,_⟩:=hh.bk;exact fe hb (fun z=>by rw[z,hh.ins] at hb;cases hb) (fun z=>by rw[z,hh.cl] at hb;cases hb) (fun z=>by rw[z,hls] at hb;cases hb) (fun z=>by rw[z,hdb] at hb;cases hb)
def lR (CH CB:Addr):Sp:=fun vs H Q E=>∃ (A:Ad)(W:Hp)(ss:List Str) (h:Hs),vs=[.ref A.x]∧aI H CH CB A W ss h∧h.cl.length < 64∧∀ p (os:List Str),H p=none→os.Perm (h.cl.map (·.1))→Aq os=true→Q (.ref p) (upd H p (.lst (os.map V.str)))
theorem tL:aw ["self"] ["self"] (ao jW):=sM
theorem pP {f:Addr}{fd:FuncData}{CH CB :Addr}(F:Fun K "cloths" "House.cloths" jW f fd)
   (T:Txt mg)(hX:Hx K mg CH)(cB:Cls K CB)  :
   aU P w K mg base (CX1 P w) 1 f fd ["self"] (lR CH CB):=by
 refine oqX F tL fun cdv A outer s H vs Q E hr h=>?_;obtain⟨A0,W,ss,h,rfl,hh,hl,q⟩:=h;refine⟨_,(ah (aq (al (dS rfl) (by rfl) T.sorted (by decide) (aa (bB (pv 0) rfl) ae)))),?_⟩
 try dsimp only[aC,aM]
 walk_at"";exact⟨CH,A0.dx,_,hh.ins,hX.c,hX.n1,_,dJ,A0.d1,rfl,h.cl.map (·.1),_,.inl hh.cl,by unfold clV;rw[Av,Av];rfl,by rw[be];exact hl,fun p os hp hperm hso=>q p os hp hperm hso⟩
def ky (CH CB:Addr):Sp:=fun vs H Q E=>∃ (A:Ad)(W:Hp)(ss:List Str) (h:Hs),vs=[.ref A.x]∧aI H CH CB A W ss h∧Q (.int h.day) H
theorem v5:aw ["self"] ["self"] (ao nA):=sM
theorem tU {f:Addr}{fd:FuncData}{CH CB :Addr}(F:Fun K "today" "House.today" nA f fd)
   (T:Txt mg)(hX:Hx K mg CH)(cB:Cls K CB)  :
   aU P w K mg base (CX1 P w) 1 f fd ["self"] (ky CH CB):=by
 refine oqX F v5 fun cdv A outer s H vs Q E hr h=>?_;obtain⟨A0,W,ss,h,rfl,hh,q⟩:=h;refine⟨_,(ah (aq (bB (pv 0) rfl))),?_⟩
 try dsimp only[aC,aM]
 walk_at"";exact⟨CH,A0.dx,_,hh.ins,hX.c,hX.n2,_,vP,q⟩
def cW:List Str:=["ValueError", "BadName", "Known", "NoCloth", "NoBath", "NoShade", "BadBook", "BadText", "TooLong", "NoDay", "Late", "NoDip", "Full"]
def kW (bits:List Bool):List Str:=((zW 13).filter (fun i=>bits.getD i false)).map (fun i=>cW.getD i "")
def dN (bits:List Bool):Str:=Txt.join " " (kW bits)
theorem fu {H:Hp}{a b:Addr}{xs ys:List V}{Q:VK}(ha:H a=some (.lst xs))(hb:H b=some (.lst ys))(hz:xs.length+ys.length≤sizeLine)(q:∀ p,H p=none→Q (.ref p) (upd H p (.lst (xs++ys)))):zt (.ref a) (.ref b) H Q:=⟨a,b,xs,ys,rfl,rfl,ha,hb,hz,q⟩
def lI:Sp:=fun vs H Q _=>∃ (l:Addr)(bits:List Bool),vs=[.ref l]∧H l=some (.lst (bits.map V.bl))∧bits.length=13∧∀ t H',af H H'→H' t=some (.tup [.str "refused",.str (dN bits),.int 0])→Q (.ref t) H'
theorem iO:aw ["_law_flags", "_law_words_here"] ["_law_flags"] (ao kO):=sM
theorem qy {f:Addr}{fd:FuncData}(F:Fun K "_law_refusal" "_law_refusal" kO f fd)(T:Txt mg):aU P w K mg base CX0 1 f fd ["_law_flags"] lI:=by
 refine oq F iO fun cdv A outer s H vs Q E hr h=>?_;obtain⟨l,bits,rfl,hl,hlen,q⟩:=h
 refine⟨_,aj (l8 (i:=1) iO.nd rfl (Or.inr rfl) (bo zb))
   (aj (l8 (i:=1) iO.nd rfl (Or.inr rfl) (aH gA (pv 1) (bo (aa aA (aa aA (aa aA (aa aA (aa aA ae))))))))
   (ah (aq (bQ (aa aA (aa (eW PySem.F.plainAttrs_str PySem.F.slot_str_join PySem.F.type_str_join wk aA (aa (eQ (N':=["_law_k", "_law_words_here", "_law_flags"]) (pk:=[none,some 1,some 0]) rfl (bW.of (by rfl)) (cc rfl T.range (aa (al av (by rfl) T.len zX (aa (pv 1) ae)) ae)) (fun s H ex=>pN 0 (by show(["_law_k", "_law_words_here", "_law_flags"]:List Str).Nodup;decide))
       (fun s H ex=>bE (pI (ak:IxR _ (hV K)) (pv 2) (pv 0))) (fun s H ex=>pI (ak:IxR _ (hV K)) (pv 1) (pv 0))) ae)) (aa ag ae))))))),?_⟩
 try dsimp only[aC,aM]
 have hs:=aK;refine cut (fun σ' H'=>∃ l1,σ'=[some (.ref l),some (.ref l1)]∧af H H'∧H' l1=some (.lst ((cW.take 8).map V.str))) ?_ ?_
 . walk_at"";exact⟨by omega,fun p hp=>⟨af.updN hp,ac⟩⟩
 rintro σ1 H1 ⟨l1,rfl,S1,hl1⟩;refine cut (fun σ' H'=>∃ l2,σ'=[some (.ref l),some (.ref l2)]∧af H H'∧H' l2=some (.lst (cW.map V.str))) ?_ ?_
 . walk_at"";refine⟨by omega,fun p hp=>?_⟩;have Sp:af H1 (upd H1 p (.lst [V.str "TooLong",V.str "NoDay",V.str "Late",V.str "NoDip",V.str "Full"])):=af.updN hp;refine fu (Sp _ _ hl1) ac (by rw[be];exact AG (by decide) hs) fun p2 hp2=>⟨p2,rfl,?_,?_⟩
   . exact(S1.trans Sp).step ((S1.trans Sp).free hp2)
   . rw[ac];rfl
 rintro σ2 H2 ⟨l2,rfl,S2,hl2⟩;walk_at"";refine⟨rfl,_,.inl (SqL.of hl2),?_⟩;rw[be,show cW.length=13 from rfl];refine⟨by decide,by decide,fun D hD=>?_⟩;refine fh (n:=13) (br (n:=13)) (by omega) hD (fun σ=>∃ o,σ=[o,some (.ref l2),some (.ref l)]) (fun i=>bits.getD i false) (fun i=>V.str (cW.getD i "")) ⟨none,rfl⟩ ?_ ?_
 . rintro i x σ' H' hi rfl ⟨o,rfl⟩ hS R1 R0 h1 h0
   have ei:(0:Int)+(i:Int)=i:=by omega
   rw[ei];obtain⟨b,hb⟩:∃ b,bits[i]?=some b:=⟨_,zN (by omega)⟩;obtain⟨wd,hw⟩:∃ z,cW[i]?=some z:=⟨_,zN (by show i < 13;omega)⟩
   have eb:bits.getD i false=b:=by rw[zQ,hb];rfl
   have ew:cW.getD i ""=wd:=by rw[zQ,hw];rfl
   rw[eb] at h1 h0;rw[ew] at h1;walk_at"";refine⟨_,hS.seq (SqL.of (S2 _ _ hl)),V.bl b,bT (by rw[zO,hb];rfl),b,rfl,?_⟩
   cases b with
   | true=>exact⟨_,hS.seq (SqL.of hl2),_,bZ hw,h1 rfl _ ⟨_,rfl⟩⟩
   | false=>exact h0 rfl _ ⟨_,rfl⟩
 . have e:((zW 13).filter (fun i=>bits.getD i false)).map (fun i=>V.str (cW.getD i ""))=(kW bits).map V.str:=by unfold kW;rw[Av];rfl
   rw[e]
   have hsum:∀ (l:List Nat),(((l.map (fun i=>cW.getD i "")).map (·.length)).sum)≤20*l.length:=by
     intro l
     induction l with
     | nil=>exact zR _
     | cons a r ih =>
       have ha:(cW.getD a "").length≤20:=by
         by_cases h:a < 13
         . have:∀ i:_root_.Fin 13,(cW.getD i.val "").length≤20:=by decide
           exact this ⟨a,h⟩
         . rw[zQ,Be (by show 13≤a;omega)];decide
       rw[Ac,Ac,List.sum_cons,Az];omega
   have hfl:((zW 13).filter (fun i=>bits.getD i false)).length≤13:=by
     have:=A4 (fun i=>bits.getD i false) (zW 13)
     rwa [A1] at this
   refine⟨kW bits,SqL.of ac,?_,by omega,fun p hp=>?_⟩
   . have h1:=hsum ((zW 13).filter (fun i=>bits.getD i false))
     have h2:(kW bits).length≤13:=by unfold kW;rw[be];exact hfl
     have h3:(zM " ").length=1:=by decide
     rw[h3];show(((kW bits).map (·.length)).sum)+(kW bits).length*1≤16777216;unfold kW at h2 ⊢;omega
   . have S3:af H2 (upd H2 D (.lst ((kW bits).map V.str))):=af.updN hD;exact q p _ ((S2.trans S3).step ((S2.trans S3).free hp)) ac
structure zq (K:PySem.W.Frag)(mg:Str→Option Value)(cs:List Addr)(dip:Addr):Prop where
 m1:∃ c,cs[0]?=some c∧mg "BadName"=some (.ref c)
 m2:∃ c,cs[1]?=some c∧mg "Known"=some (.ref c)
 m3:∃ c,cs[2]?=some c∧mg "NoCloth"=some (.ref c)
 m4:∃ c,cs[3]?=some c∧mg "NoBath"=some (.ref c)
 m5:∃ c,cs[4]?=some c∧mg "NoShade"=some (.ref c)
 m6:∃ c,cs[5]?=some c∧mg "BadBook"=some (.ref c)
 m7:∃ c,cs[6]?=some c∧mg "BadText"=some (.ref c)
 m8:∃ c,cs[7]?=some c∧mg "TooLong"=some (.ref c)
 m9:∃ c,cs[8]?=some c∧mg "NoDay"=some (.ref c)
 m10:∃ c,cs[9]?=some c∧mg "Late"=some (.ref c)
 m11:∃ c,cs[10]?=some c∧mg "NoDip"=some (.ref c)
 m12:∃ c,cs[11]?=some c∧mg "Full"=some (.ref c)
 md:mg "DipError"=some (.ref dip)
 ve:mg "ValueError"=none
structure Bits (K:PySem.W.Frag)(cs:List Addr)(dip C:Addr)(bits:List Bool):Prop where
 exc:ExcC K C
 len:bits.length=12
 val:Ag K (.ref C) (.type "ValueError")=some true
 bit:∀ (i:Nat) c b,cs[i]?=some c→bits[i]?=some b→Ag K (.ref C) (.ref c)=some b
 dip:PySem.W.exmOne K (.ref C) (.ref dip)=some true
def yx (K:PySem.W.Frag)(C e:Addr):List V→Hp→VK→Prop:=fun xs H Q=>∃ D b,((xs=[.ref e,.ref D]∧Ag K (.ref C) (.ref D)=some b)∨∃ T,xs=[.ref e,.ty T]∧Ag K (.ref C) (.type T)=some b)∧Q (.bl b) H
theorem iQ {X:Cx}{e C:Addr}{oe:Obj}(hcl:oe.cls=.ref C)(XC:ExcC X.K C):cq (cxH X e oe) (.builtin "isinstance") (yx X.K C e):=tw (X:=cxH X e oe) zZ hcl XC
theorem cJ {K:PySem.W.Frag}{C e D:Addr}{b:Bool}{H:Hp}{Q:VK}(h:Ag K (.ref C) (.ref D)=some b)(q:Q (.bl b) H):yx K C e [.ref e,.ref D] H Q:=⟨D,b,.inl ⟨rfl,h⟩,q⟩
theorem yc {K:PySem.W.Frag}{C e:Addr}{T:String}{b:Bool}{H:Hp}{Q:VK}(h:Ag K (.ref C) (.type T)=some b)(q:Q (.bl b) H):yx K C e [.ref e,.ty T] H Q:=⟨0,b,.inr ⟨T,rfl,h⟩,q⟩
def zy (spA:Sp)(K:PySem.W.Frag)(cs:List Addr)(dip:Addr):Sp:=fun vs H Q _=>∃ v1 v2,vs=[v1,v2]∧∀ H1 (E':XK),af H H1 →
 (∀ C bits H',Bits K cs dip C bits→(∀ t H'',af H' H''→H'' t=some (.tup [.str "refused",.str (dN (true::bits)),.int 0])→Q (.ref t) H'')→E' (.ref C) none H')→spA [v1,v2] H1 Q E'
theorem xB:∀ l:List Bool,l.length=12→∃ b1 b2 b3 b4 b5 b6 b7 b8 b9 b10 b11 b12,l=[b1,b2,b3,b4,b5,b6,b7,b8,b9,b10,b11,b12]
 | [b1,b2,b3,b4,b5,b6,b7,b8,b9,b10,b11,b12],_=>⟨b1,b2,b3,b4,b5,b6,b7,b8,b9,b10,b11,b12,rfl⟩
theorem st4:∀ l:St,l.length=4→∃ a0 a1 a2 a3,l=[a0,a1,a2,a3]
 | [a0,a1,a2,a3],_=>⟨a0,a1,a2,a3,rfl⟩
theorem pT:aw ["_law_thing", "_law_deed_here", "_law_flags", "e"] ["_law_thing", "_law_deed_here"] (ao sDo):=sM
theorem yO {spA:Sp}{ps:List Str}{j:Nat}{cs:List Addr}{dip f fA fR:Addr}{fd fdA fdR:FuncData}(F:Fun K "_law_do" "_law_do" sDo f fd)(T:Txt mg)(R:zq K mg cs dip)
   (GA:Cl P w K mg base (CX1 P w) (j+1) "_law_asked" ps spA fA fdA)
   (GR:Cl P w K mg base CX0 1 "_law_refusal" ["_law_flags"] lI fR fdR) :
   aU P w K mg base (CX1 P w) (j+2) f fd ["_law_thing", "_law_deed_here"] (zy spA K cs dip):=by
 refine oqX F pT fun cdv A outer s H vs Q E hr h=>?_;obtain⟨v1,v2,rfl,hA⟩:=h;have hr1:=hr.mono (j:=1) (by omega);obtain⟨c1,e1,m1⟩:=R.m1;obtain⟨c2,e2,m2⟩:=R.m2;obtain⟨c3,e3,m3⟩:=R.m3;obtain⟨c4,e4,m4⟩:=R.m4;obtain⟨c5,e5,m5⟩:=R.m5;obtain⟨c6,e6,m6⟩:=R.m6;obtain⟨c7,e7,m7⟩:=R.m7;obtain⟨c8,e8,m8⟩:=R.m8;obtain⟨c9,e9,m9⟩:=R.m9;obtain⟨c10,e10,m10⟩:=R.m10;obtain⟨c11,e11,m11⟩:=R.m11;obtain⟨c12,e12,m12⟩:=R.m12
 refine⟨_,aL (pS 2 pT.nd (bo ae))
   (aL (xD (i:=3) pT.nd rfl rfl rfl rfl rfl R.md (by decide)
       (fun pn W E1 hp=>ah (aq (pC GA hr hp (aa (pv 0) (aa (pv 1) ae)))))
       (fun C e oe hcl XC=>aj (pS 2 pT.nd (bo (aa (al (iQ hcl XC) (by rfl) T.isi (by decide) (aa (pv 3) (aa (cA (v:=.ty "ValueError") rfl R.ve (by decide) rfl) ae))) (aa (al (iQ hcl XC) (by rfl) T.isi (by decide) (aa (pv 3) (aa (bc (v:=.ref c1) rfl m1 rfl) ae))) (aa (al (iQ hcl XC) (by rfl) T.isi (by decide) (aa (pv 3) (aa (bc (v:=.ref c2) rfl m2 rfl) ae))) ae)))))
         (aj (pS 2 pT.nd (aH gA (pv 2) (bo (aa (al (iQ hcl XC) (by rfl) T.isi (by decide) (aa (pv 3) (aa (bc (v:=.ref c3) rfl m3 rfl) ae))) (aa (al (iQ hcl XC) (by rfl) T.isi (by decide) (aa (pv 3) (aa (bc (v:=.ref c4) rfl m4 rfl) ae))) (aa (al (iQ hcl XC) (by rfl) T.isi (by decide) (aa (pv 3) (aa (bc (v:=.ref c5) rfl m5 rfl) ae))) ae))))))
         (aj (pS 2 pT.nd (aH gA (pv 2) (bo (aa (al (iQ hcl XC) (by rfl) T.isi (by decide) (aa (pv 3) (aa (bc (v:=.ref c6) rfl m6 rfl) ae))) (aa (al (iQ hcl XC) (by rfl) T.isi (by decide) (aa (pv 3) (aa (bc (v:=.ref c7) rfl m7 rfl) ae))) (aa (al (iQ hcl XC) (by rfl) T.isi (by decide) (aa (pv 3) (aa (bc (v:=.ref c8) rfl m8 rfl) ae))) ae))))))
         (ah (pS 2 pT.nd (aH gA (pv 2) (bo (aa (al (iQ hcl XC) (by rfl) T.isi (by decide) (aa (pv 3) (aa (bc (v:=.ref c9) rfl m9 rfl) ae))) (aa (al (iQ hcl XC) (by rfl) T.isi (by decide) (aa (pv 3) (aa (bc (v:=.ref c10) rfl m10 rfl) ae))) (aa (al (iQ hcl XC) (by rfl) T.isi (by decide) (aa (pv 3) (aa (bc (v:=.ref c11) rfl m11 rfl) ae))) (aa (al (iQ hcl XC) (by rfl) T.isi (by decide) (aa (pv 3) (aa (bc (v:=.ref c12) rfl m12 rfl) ae))) ae)))))))))))
     )
   (ah (aq (pC GR hr1 az (aa (pv 2) ae))))),?_⟩
 try dsimp only[aC,aM]
 have hs:=aK;walk_at"";refine⟨by omega,fun p hp=>?_⟩;unfold xA;walk_at"";refine hA _ _ (af.updN hp) fun C bits H' hB hq=>⟨C,rfl,hB.exc,hB.dip,fun e σ' hlen=>?_⟩;obtain⟨a0,a1,a2,a3,rfl⟩:=st4 σ' hlen;obtain⟨b1,b2,b3,b4,b5,b6,b7,b8,b9,b10,b11,b12,rfl⟩:=xB bits hB.len;unfold ul;walk_at"";refine cut (fun σ' H''=>∃ l,σ'=[a0,a1,some (.ref l),some (.ref e)]∧af H' H''∧H'' l=some (.lst (([true,b1,b2]:List Bool).map V.bl))) ?_ ?_
 . walk_at"";refine yc hB.val (cJ (hB.bit 0 _ _ e1 rfl) (cJ (hB.bit 1 _ _ e2 rfl) ⟨by omega,fun l hl=>⟨af.updN hl,ac⟩⟩))
 rintro σ1 H1 ⟨l1,rfl,S1,hl1⟩;refine cut (fun σ' H''=>∃ l,σ'=[a0,a1,some (.ref l),some (.ref e)]∧af H' H''∧H'' l=some (.lst (([true,b1,b2,b3,b4,b5]:List Bool).map V.bl))) ?_ ?_
 . walk_at"";refine cJ (hB.bit 2 _ _ e3 rfl) (cJ (hB.bit 3 _ _ e4 rfl) (cJ (hB.bit 4 _ _ e5 rfl) ⟨by omega,fun l hl=>?_⟩));have Sl:af H1 (upd H1 l (.lst [V.bl b3,V.bl b4,V.bl b5])):=af.updN hl;exact fu (Sl _ _ hl1) ac (AG (by simp) hs) fun p2 hp2=>⟨p2,rfl,(S1.trans Sl).step ((S1.trans Sl).free hp2),by rw[ac];rfl⟩
 rintro σ2 H2 ⟨l2,rfl,S2,hl2⟩;refine cut (fun σ' H''=>∃ l,σ'=[a0,a1,some (.ref l),some (.ref e)]∧af H' H''∧H'' l=some (.lst (([true,b1,b2,b3,b4,b5,b6,b7,b8]:List Bool).map V.bl))) ?_ ?_
 . walk_at"";refine cJ (hB.bit 5 _ _ e6 rfl) (cJ (hB.bit 6 _ _ e7 rfl) (cJ (hB.bit 7 _ _ e8 rfl) ⟨by omega,fun l hl=>?_⟩));have Sl:af H2 (upd H2 l (.lst [V.bl b6,V.bl b7,V.bl b8])):=af.updN hl;exact fu (Sl _ _ hl2) ac (AG (by simp) hs) fun p2 hp2=>⟨p2,rfl,(S2.trans Sl).step ((S2.trans Sl).free hp2),by rw[ac];rfl⟩
 rintro σ3 H3 ⟨l3,rfl,S3,hl3⟩;walk_at"";refine cJ (hB.bit 8 _ _ e9 rfl) (cJ (hB.bit 9 _ _ e10 rfl) (cJ (hB.bit 10 _ _ e11 rfl) (cJ (hB.bit 11 _ _ e12 rfl) ⟨by omega,fun l hl=>?_⟩)));have Sl:af H3 (upd H3 l (.lst [V.bl b9,V.bl b10,V.bl b11,V.bl b12])):=af.updN hl;refine fu (Sl _ _ hl3) ac (AG (by simp) hs) fun p2 hp2=>?_;have S4:=(S3.trans Sl).step (o:=.lst (([true,b1,b2,b3,b4,b5,b6,b7,b8,b9,b10,b11,b12]:List Bool).map V.bl)) ((S3.trans Sl).free hp2);exact⟨p2,[true,b1,b2,b3,b4,b5,b6,b7,b8,b9,b10,b11,b12],rfl,ac,rfl,fun t H'' S hH=>hq t H'' (S4.trans S) hH⟩
def rM (H0 H:Hp)(d:Addr)(ss:List Str)(bs:List (Str×List Str)):Prop :=
 ∃ ds:List Addr,H d=some (.dK (bX (bs.map (·.1)) (ds.map V.ref)))∧ds.length=bs.length∧∀ (i:Nat) r b,ds[i]?=some r→bs[i]?=some b→H0 r=none∧hide H d r=some (.dK (ir ss b))
def lX (K:PySem.W.Frag):Sp:=fun vs H Q _=>∃ (l lb:Addr)(ss:List Str)(bs:List (Str×List Str)),vs=[.ref l,.ref lb]∧SqL K H l (ss.map V.str)∧gN H lb bs∧aN ss bs ∧
 ∀ d H',H d=none→af H H'→rM H H' d ss bs→Q (.ref d) H'
theorem pJ {f:Addr}{fd:FuncData}(F:Fun K "_law_tables" "_law_tables" mU f fd)(T:Txt mg):aU P w K mg base CX0 1 f fd ["_law_shades", "_law_baths"] (lX K):=by
 refine oq F fL fun cdv A outer s H vs Q E hr h=>?_;obtain⟨l,lb,ss,bs,rfl,hl,hb,B,q⟩:=h;have hu:=eA hr
 refine⟨_,aL (pS 2 fL.nd ed)
   (aL (bC PassesOwn.never rfl (a8 (pv 1)) (cz (n:=2) rfl (aE (pN 3 fL.nd) (aE (pN 4 fL.nd) bS)))
     (aj (dE hu (pv 2) (pv 3) ed rfl)
     (ah (bC PassesOwn.never rfl (cc rfl T.range (aa (al av (by rfl) T.len zX (aa (pv 0) ae)) ae)) (pN 5 fL.nd)
       (ah (dE hu (cv hu (pv 2) (pv 3) (fun _ _=>rfl)) (pI ak (pv 0) (pv 5)) (pI ak (pv 4) (pv 5)) rfl))))))
   (ah (aq (pv 2)))),?_⟩
 try dsimp only[aC,aM]
 have hs:=aK;walk_at"";intro d hd;obtain⟨ps,hlb,hpl,hB⟩:=hb;have hb8:=B.b8;have S0:af H (upd H d (.dK [])):=af.updN hd;refine⟨⟨_,SqL.of (S0 _ _ hlb)⟩,?_⟩
 refine bg (H0:=H) (aG (SqL.of hlb)) (fun i σ' H'=>∃ (ds:List Addr)(o3 o4 o5:Option V),σ'=[some (.ref l),some (.ref lb),some (.ref d),o3,o4,o5]∧af H H'∧H' d=some (.dK (bX ((bs.map (·.1)).take i) (ds.map V.ref))) ∧
   ds.length=i∧∀ (j:Nat) r b,ds[j]?=some r→bs[j]?=some b→H r=none∧hide H' d r=some (.dK (ir ss b)))
   ⟨[],none,none,none,rfl,S0,ac,rfl,(by intro j r b h;simp at h)⟩ (fun _ _ _ _ ⟨_,_,_,_,_,h,_⟩=>h) ?_ ?_
 . rintro i x σ H' hi hx ⟨ds,o3,o4,o5,rfl,hS,hH,hdl,hD⟩;rw[zO] at hx;obtain⟨pr,hpr,rfl⟩:=Option.map_eq_some_iff.mp hx;rw[be,hpl] at hi;obtain⟨b,hb⟩:∃ b,bs[i]?=some b:=⟨_,zN hi⟩;obtain⟨lo,ht,hlo⟩:=hB i pr b hpr hb;have hbm:b∈bs:=zS hb
   have hk:(bs.map (·.1))[i]?=some b.1:=by rw[zO,hb];rfl
   have hnk:b.1∉(bs.map (·.1)).take i:=eF B.bnd hk
   have hln:((bs.map (·.1)).take i).length=(ds.map V.ref).length:=by rw[Af,be,be,hdl];omega
   refine dY (hS _ _ ht) ?_;walk_at"";refine cut (fun σ' H''=>∃ r,σ'=[some (.ref l),some (.ref lb),some (.ref d),some (.str b.1),some (.ref lo),o5]∧H' r=none∧r≠d∧H''=upd (upd H' r (.dK [])) d (.dK (bX ((bs.map (·.1)).take (i+1)) ((ds++[r]).map V.ref)))) ?_ ?_
   . walk_at"";intro r hr
     have hrd:r≠d:=fun e=>by rw[e,hH] at hr;cases hr
     refine⟨_,.inl ⟨_,Sum.inr b.1,by rw[ai (Ne.symm hrd)];exact hH,rfl,by rw[fV hln,Af];omega,rfl⟩,r,hr,hrd,?_⟩;rw[da _ (bU _ _ _ hnk),bu hk,zU];exact congrArg (fun z=>upd (upd H' r (HO.dK [])) d (HO.dK z)) (eV b.1 (V.ref r) hln).symm
   rintro σ2 H2 ⟨r,rfl,hr,hrd,rfl⟩;have hrH:H r=none:=hS.free hr;generalize hG:(upd (upd H' r (.dK [])) d (.dK (bX ((bs.map (·.1)).take (i+1)) ((ds++[r]).map V.ref))))=G
   have hGr:G r=some (.dK []):=by rw[←hG,ai hrd];exact ac
   have hGd:G d=some (.dK (bX ((bs.map (·.1)).take (i+1)) ((ds++[r]).map V.ref))):=by rw[←hG];exact ac
   have SG:af H G:=by rw[←hG];exact(hS.step hrH).step hd
   have SG':af (hide H' d) (hide G d):=by rw[←hG,dZ];exact af.hide (af.updN hr)
   have hval:bG (bX ((bs.map (·.1)).take (i+1)) ((ds++[r]).map V.ref)) (Sum.inr b.1)=some (V.ref r):=by
     refine dI _ _ i _ _ (B.bnd.sublist (Bv _ _)) ?_ ?_
     . rw[Cb,if_pos (Bo i)];exact hk
     . rw[zO,zT (by omega),hdl,AC];rfl
   have hbl:b.2.length=ss.length:=B.bln b hbm;have hs12:=B.s12;walk_at"";refine⟨_,.inl (SG.seq hl),?_⟩;rw[be];refine⟨by omega,by omega,?_⟩
   refine bg (H0:=H) br (fun k σ' H''=>∃ o5,σ'=[some (.ref l),some (.ref lb),some (.ref d),some (.str b.1),some (.ref lo),o5]∧H''=upd G r (.dK (bX (ss.take k) ((b.2.take k).map V.str))))
     ⟨o5,rfl,?_⟩ (fun _ _ _ _ ⟨_,_,e⟩=>by rw[e];exact SG.step hrH) ?_ ?_
   . funext y;by_cases e:y=r
     . rw[e,ac];exact hGr
     . rw[ai e]
   . rintro k x σ H'' hk2 rfl ⟨o5,rfl,rfl⟩
     have ek:(0:Int)+(k:Int)=k:=by omega
     rw[ek]
     have hkn:k < ss.length:=by omega
     obtain⟨sk,hsk⟩:∃ y,ss[k]?=some y:=⟨_,zN hkn⟩;obtain⟨ok,hok⟩:∃ y,b.2[k]?=some y:=⟨_,zN (by omega)⟩;have S2:af H (upd G r (.dK (bX (ss.take k) ((b.2.take k).map V.str)))):=SG.step hrH
     have hl2:(ss.take k).length=((b.2.take k).map V.str).length:=by rw[be,Af,Af];omega
     walk_at"";refine⟨_,SqL.of (S2 _ _ hlo),_,bZ hok,V.ref r,.inl ⟨_,Sum.inr b.1,.inl (by rw[ai (Ne.symm hrd)];exact hGd),rfl,hval.symm⟩,_,S2.seq hl,_,bZ hsk,r,rfl,_,.inl ⟨_,Sum.inr sk,ac,rfl,by rw[fV hl2,Af];omega,rfl⟩,?_⟩;rw[gP,da _ (bU _ _ _ (eF B.snd hsk)),bu hsk,bu hok,zU];exact congrArg (fun z=>upd G r (HO.dK z)) (eV sk (V.str ok) hl2).symm
   . rintro σ H'' ⟨o5,rfl,rfl⟩
     have e1:ss.take ((ss.length:Int)).toNat=ss:=by rw[Au,AI]
     have e2:b.2.take ((ss.length:Int)).toNat=b.2:=by rw[Au,←hbl,AI]
     rw[e1,e2];refine⟨⟨_,_,_,rfl⟩,SG.step hrH,ds++[r],by rw[ai (Ne.symm hrd)];exact hGd,by rw[zP,hdl];rfl,fun j r2 b2 hr2 hb2=>?_⟩;by_cases hj:j < i
     . rw[zY (by omega)] at hr2;have h1:=SG' _ _ (hD j r2 b2 hr2 hb2).2;have h2:H' r2=some (.dK (ir ss b2)):=bK _ _ (hD j r2 b2 hr2 hb2).2
       have hne:r2≠r:=fun e=>by rw[e,hr] at h2;cases h2
       refine⟨(hD j r2 b2 hr2 hb2).1,?_⟩;unfold hide at h1 ⊢;by_cases e:r2=d
       . rw[if_pos e] at h1;cases h1
       . rw[if_neg e] at h1 ⊢;rw[ai hne];exact h1
     . have hj2:j=i:=by
         have:=(List.getElem?_eq_some_iff.mp hr2).1;rw[zP,hdl] at this;simp only[zV] at this;omega
       subst hj2;rw[zT (by omega),hdl,AC] at hr2;cases hr2;rw[hb] at hb2;cases hb2;refine⟨hrH,?_⟩;rw[aW hrd,ac];rfl
 . rintro σ H' ⟨ds,o3,o4,o5,rfl,hS,hH,hdl,hD⟩;rw[be,hpl] at hH hdl;walk_at"";refine q d H' hd hS ⟨ds,?_,hdl,fun j r b hr hb=>hD j r b hr hb⟩;rw[hH,AH (by rw[be];exact zR _)]
theorem rM.tabG {H0 H G:Hp}{d:Addr}{ss:List Str}{bs:List (Str×List Str)}(B:aN ss bs)(h:rM H0 H d ss bs)(hd0:H0 d=none)(k:∀ b u,H0 b=none→H b=some (.dK u)→G b=some (.dK u)):dc G d ss (bs.map (·.1)) (lkB ss bs):=by
 obtain⟨ds,h1,h2,h3⟩:=h;exact ii.toG B ⟨ds,.inl (k _ _ hd0 h1),h2,fun i r b hr hb=>.inl (k _ _ (h3 i r b hr hb).1 (bK _ _ (h3 i r b hr hb).2))⟩
def lJ (K:PySem.W.Frag)(C:Addr):Sp:=fun vs H Q _=>∃ (l lb:Addr)(ss:List Str)(bs:List (Str×List Str)),vs=[.ref l,.ref lb]∧SqL K H l (ss.map V.str)∧gN H lb bs∧aN ss bs∧∀ x H',H x=none→af H H'→bv (cV H H') C x ss bs→Q (.ref x) H'
theorem qU {C f fI cB:Addr}{fd fdI:FuncData}(F:Fun K "_law_handed" "_law_handed" mH f fd)(T:Txt mg)(M:Mk K C fI)(GI:aU P w K mg base (CX1 P w) 4 fI fdI ["self", "shades", "baths"] (nb K C cB))(bI:em K fdI ["self", "shades", "baths"] [])(mC:mg "Book"=some (.ref C)) :
   aU P w K mg base CX0 6 f fd ["_law_shades", "_law_baths"] (lJ K C):=by
 refine oq F u6 fun cdv A outer s H vs Q E hr h=>?_;obtain⟨l,lb,ss,bs,rfl,hl,⟨ps,hlb,hpl,hB⟩,B,q⟩:=h
 refine⟨_,ah (aq (ni M GI hr rfl mC bI .nil gx (aa (cu dU (by rfl) T.list (by decide) (aa (pv 0) ae)) (aa (fk (N':=["_law_title", "_law_outs"]) (pk:=[none,none]) rfl (bW.of (by rfl)) (a8 (pv 1))
     (fun s H ex=>(cz (n:=2) rfl (aE (pN 0 (by show(["_law_title", "_law_outs"]:List Str).Nodup;decide)) (aE (pN 1 (by show(["_law_title", "_law_outs"]:List Str).Nodup;decide)) bS)):PG _ _ (kD K 2 (bN (bx 0) (bN (bx 1) iC)))))
     (fun s H ex=>bQ (aa (pv 0) (aa (cu (dU:cq _ (.type "list") (fun xs H Q=>∃ p ys,xs=[.ref p]∧(SqL K H p ys∨SqT K H p ys)∧∀ l,H l=none→Q (.ref l) (upd H l (.lst ys)))) (by rfl) T.list (by decide) (aa (pv 1) ae)) ae)))) ae)))),?_⟩
 try dsimp only[aC,aM]
 have hs:=aK;have hb8:=B.b8;walk_at"";refine⟨_,.inl hl,fun l2 hl2=>?_⟩;have Sa:af H (upd H l2 (.lst (ss.map V.str))):=af.updN hl2;refine⟨⟨_,SqL.of (Sa _ _ hlb)⟩,fun D hD=>?_⟩;generalize hG:upd H l2 (.lst (ss.map V.str))=G at Sa hD
 have hGl:G l2=some (.lst (ss.map V.str)):=by rw[←hG];exact ac
 refine rq (H0:=G) (aG (SqL.of (Sa _ _ hlb))) (by rw[be];omega) (fun i xs σ' H'=>(∃ o1 o2,σ'=[o1,o2])∧af G H'∧H' D=some (.lst xs)∧∃ qs:List Addr,xs=qs.map V.ref∧qs.length=i∧∀ (j:Nat) p b,qs[j]?=some p→bs[j]?=some b→jD (hide H' D) p b)
   ⟨⟨none,none,rfl⟩,af.updN hD,ac,[],rfl,rfl,(by intro j p b h;simp at h)⟩ (fun i xs σ' H' ⟨_,h1,_,qs,h2,h3,_⟩=>⟨h1,by rw[h2,be];exact h3⟩) ?_ ?_
 . rintro i xs σ' H' x hi hx ⟨⟨o1,o2,rfl⟩,hS,hHD,qs,rfl,hql,hqB⟩ R hR;rw[zO] at hx;obtain⟨p,hp,rfl⟩:=Option.map_eq_some_iff.mp hx;obtain⟨b,hb⟩:∃ b,bs[i]?=some b:=⟨_,zN (by rw[be] at hi;omega)⟩;obtain⟨lo,ht,hlo⟩:=hB i p b hp hb;refine dY (hS _ _ (Sa _ _ ht)) ?_;walk_at"";refine⟨_,.inl (SqL.of (hS _ _ (Sa _ _ hlo))),fun l3 hl3=>⟨by omega,fun t ht3=>?_⟩⟩;have S3:af H' (upd H' l3 (.lst (b.2.map V.str))):=af.updN hl3;have ht':H' t=none:=S3.free ht3;have S4:=S3.step (o:=.tup [.str b.1,.ref l3]) ht'
   have hl3D:l3≠D:=fun e=>by rw[e,hHD] at hl3;cases hl3
   have htD:t≠D:=fun e=>by rw[e,hHD] at ht';cases ht'
   have hl3t:l3≠t:=fun e=>by rw[←e,ac] at ht3;cases ht3
   refine hR _ _ _ (S4 _ _ hHD) ⟨⟨_,_,rfl⟩,(hS.trans S4).step hD,ac,qs++[t],by rw[zU];rfl,by rw[zP,hql];rfl,fun j p2 b2 hp2 hb2=>?_⟩;rw[dZ];by_cases hj:j < i
   . rw[zY (by omega)] at hp2;exact af.bthAt (af.hide S4) (hqB j p2 b2 hp2 hb2)
   . have hj2:j=i:=by
       have:=(List.getElem?_eq_some_iff.mp hp2).1;rw[zP,hql] at this;simp only[zV] at this;omega
     subst hj2;rw[zT (by omega),hql,AC] at hp2;cases hp2;rw[hb] at hb2;cases hb2;refine⟨l3,?_,?_⟩
     . rw[aW htD];exact ac
     . rw[aW hl3D,ai hl3t];exact ac
 . rintro xs σ' H' ⟨_,hS,hHD,qs,rfl,hql,hqB⟩ x dx hx hdx hne;rw[be,hpl] at hql;have S5:af H' (upd (upd H' dx (.own x)) x (.ins C dx [])):=(af.updN hdx).step hx
   have S6:af H' (hide (upd (upd H' dx (.own x)) x (.ins C dx [])) x):=fun y o e=>by
     rw[aW (aF e hx)];exact S5 y o e
   refine⟨x,dx,l2,D,ss,bs,rfl,ac,SqL.of (S5 _ _ (hS _ _ hGl)),⟨qs,S5 _ _ hHD,hql,fun j p b hp hb=>af.bthAt (bK.trans S5) (hqB j p b hp hb)⟩,B.txt,fun _ H2 S2 hbk=>⟨rfl,?_⟩,fun hn=>absurd B hn⟩;exact q x H2 ((Sa.trans hS).free hx) (((Sa.trans hS).trans S6).trans S2) (af.book (gK ((Sa.trans hS).trans S6)) hbk)
def eP (spR:Sp):Sp:=fun vs H Q _=>∃ x y,vs=[x,y]∧((∃ z u:Str,x=.str z∧y=.str u∧Q (.bl (decide (z=u))) H)∨(∃ z u:Int,x=.int z∧y=.int u∧Q (.bl (decide (z=u))) H)∨(x=.non∧y=.non∧Q (.bl true) H) ∨
 (∃ a b xs ys,x=.ref a∧y=.ref b∧((H a=some (.lst xs)∧H b=some (.lst ys))∨(H a=some (.tup xs)∧H b=some (.tup ys)))∧xs.length=ys.length∧ys.length≤1000∧(∀ (i:Nat) u v,xs[i]?=some u→ys[i]?=some v→∀ (Q':VK)(E':XK),Q' (.bl true) H→spR [u,v] H Q' E')∧Q (.bl true) H))
theorem rE:aw ["_law_found", "_law_due_here", "_law_k"] ["_law_found", "_law_due_here"] (ao qz):=sM
theorem jX {f fR:Addr}{fd fdR:FuncData}{spR:Sp}{j:Nat}(F:Fun K "_law_alike" "_law_alike" qz f fd)
   (T:Txt mg)(TBo:mg "bool"=none)
   (GR:Cl P w K mg base CX0 j "_law_alike" ["_law_found", "_law_due_here"] spR fR fdR) :
   aU P w K mg base CX0 (j+1) f fd ["_law_found", "_law_due_here"] (eP spR):=by
 refine oq F rE fun cdv A outer s H vs Q E hr h=>?_;obtain⟨x,y,rfl,h⟩:=h;have hr76:=hr.mono (j:=j) (by omega)
 refine⟨_,(aj (aB (PW.pt (d8 (ap v4 (pv 1) jL (ax _)) (cM (bE (al cp (by rfl) T.isi (by decide) (aa (pv 1) (aa (cA (v:=.ty "str") rfl T.str (by decide) rfl) ae))))))) (ah (aq (l4 (jn bM (al cp (by rfl) T.isi (by decide) (aa (pv 0) (aa (cA (v:=.ty "str") rfl T.str (by decide) rfl) ae))) (al cp (by rfl) T.isi (by decide) (aa (pv 1) (aa (cA (v:=.ty "str") rfl T.str (by decide) rfl) ae))) (ax _)) (qh (jn bM (pv 0) (pv 1) (ax _)))))) am)
   (aj (aB (bE (al cp (by rfl) T.isi (by decide) (aa (pv 1) (aa (cA (v:=.ty "int") rfl T.int (by decide) rfl) ae)))) (ah (aq (l4 (al cp (by rfl) T.isi (by decide) (aa (pv 0) (aa (cA (v:=.ty "int") rfl T.int (by decide) rfl) ae))) (l4 (yG (al cp (by rfl) T.isi (by decide) (aa (pv 0) (aa (cA (v:=.ty "bool") rfl TBo (by decide) rfl) ae)))) (qh (jn bM (pv 0) (pv 1) (ax _))))))) am)
   (aj (aB (PW.pt (im (bE (al cp (by rfl) T.isi (by decide) (aa (pv 1) (aa (cA (v:=.ty "list") rfl T.list (by decide) rfl) ae)))) (gi (bV (bE (al cp (by rfl) T.isi (by decide) (aa (pv 0) (aa (cA (v:=.ty "list") rfl T.list (by decide) rfl) ae)))))))) (ah (aq cw)) am)
   (aj (aB (PW.pt (im (bE (al cp (by rfl) T.isi (by decide) (aa (pv 1) (aa (cA (v:=.ty "tuple") rfl T.tuple (by decide) rfl) ae)))) (gi (bV (bE (al cp (by rfl) T.isi (by decide) (aa (pv 0) (aa (cA (v:=.ty "tuple") rfl T.tuple (by decide) rfl) ae)))))))) (ah (aq cw)) am)
   (aj (aB (ap i6 (al av (by rfl) T.len zX (aa (pv 0) ae)) (al av (by rfl) T.len zX (aa (pv 1) ae)) (ax _)) (ah (aq cw)) am)
   (aj (bC PassesOwn.never rfl (cc rfl T.range (aa (al av (by rfl) T.len zX (aa (pv 1) ae)) ae)) (pN 2 rE.nd) (ah (aB (bV (bE (pC GR hr76 az (aa (pI v3 (pv 0) (pv 2)) (aa (pI v3 (pv 1) (pv 2)) ae))))) (ah (aq cw)) am)))
   (ah (aq cw)))))))),?_⟩
 try dsimp only[aC,aM]
 have hs:=aK
 rcases h with ⟨z,u,rfl,rfl,q⟩ | ⟨z,u,rfl,rfl,q⟩ | ⟨rfl,rfl,q⟩ | ⟨a,b,xs,ys,rfl,rfl,ht,hl,hn,hE,q⟩
 . refine au (fun _ _=>False) (fun R hR=>?_) (fun _ _ h=>h.elim);walk_at"";exact ay (fun h=>(by cases h)) (fun _=>⟨_,cx.str _,true,rfl,ay (fun _=>⟨_,cx.str _,true,rfl,_,cx.str _,true,rfl,rfl,ay (fun _=>⟨rfl,q⟩) (fun h=>absurd rfl h)⟩) (fun h=>absurd rfl h)⟩)
 . refine au (fun σ' H'=>σ'=[some (.int z),some (.int u),none]∧H'=H) (fun R hR=>?_) ?_
   . walk_at"";exact ay (fun h=>(by cases h)) (fun _=>⟨_,cx.int _,false,rfl,ay (fun h=>(by cases h)) (fun _=>hR _ _ ⟨rfl,rfl⟩)⟩)
   rintro σ1 H1 ⟨rfl,rfl⟩;refine au (fun _ _=>False) (fun R hR=>?_) (fun _ _ h=>h.elim);walk_at"";exact⟨_,cx.int _,true,rfl,ay (fun _=>⟨_,cx.int _,true,rfl,ay (fun _=>⟨_,cx.int _,false,rfl,ay (fun _=>⟨rfl,q⟩) (fun h=>absurd rfl h)⟩) (fun h=>absurd rfl h)⟩) (fun h=>absurd rfl h)⟩
 . refine au (fun _ _=>False) (fun R hR=>?_) (fun _ _ h=>h.elim);walk_at"";exact⟨_,cx.non,false,rfl,_,cx.non,false,rfl,rfl,ay (fun _=>⟨rfl,by rw[decide_eq_true trivial];exact q⟩) (fun h=>absurd rfl h)⟩
 . refine au (fun σ' H'=>σ'=[some (.ref a),some (.ref b),none]∧H'=H) (fun R hR=>?_) ?_
   . walk_at"";refine ay (fun h=>(by cases h)) (fun _=>?_)
     rcases ht with ⟨ha,hb⟩ | ⟨ha,hb⟩
     . exact⟨_,cx.lst hb,false,rfl,ay (fun h=>(by cases h)) (fun _=>hR _ _ ⟨rfl,rfl⟩)⟩
     . exact⟨_,cx.tup hb,false,rfl,ay (fun h=>(by cases h)) (fun _=>hR _ _ ⟨rfl,rfl⟩)⟩
   rintro σ1 H1 ⟨rfl,rfl⟩;refine au (fun σ' H'=>σ'=[some (.ref a),some (.ref b),none]∧H'=H1) (fun R hR=>?_) ?_
   . walk_at""
     rcases ht with ⟨ha,hb⟩ | ⟨ha,hb⟩
     . exact⟨_,cx.lst hb,false,rfl,ay (fun h=>(by cases h)) (fun _=>hR _ _ ⟨rfl,rfl⟩)⟩
     . exact⟨_,cx.tup hb,false,rfl,ay (fun h=>(by cases h)) (fun _=>hR _ _ ⟨rfl,rfl⟩)⟩
   rintro σ1 H2 ⟨rfl,rfl⟩;refine au (fun σ' H'=>σ'=[some (.ref a),some (.ref b),none]∧H'=H2) (fun R hR=>?_) ?_
   . walk_at""
     rcases ht with ⟨ha,hb⟩ | ⟨ha,hb⟩
     . exact⟨_,cx.lst hb,true,rfl,ay (fun _=>⟨_,cx.lst ha,true,rfl,ay (fun h=>(by cases h)) (fun _=>hR _ _ ⟨rfl,rfl⟩)⟩) (fun h=>absurd rfl h)⟩
     . exact⟨_,cx.tup hb,false,rfl,ay (fun h=>(by cases h)) (fun _=>hR _ _ ⟨rfl,rfl⟩)⟩
   rintro σ1 H3 ⟨rfl,rfl⟩;refine au (fun σ' H'=>σ'=[some (.ref a),some (.ref b),none]∧H'=H3) (fun R hR=>?_) ?_
   . walk_at""
     rcases ht with ⟨ha,hb⟩ | ⟨ha,hb⟩
     . exact⟨_,cx.lst hb,false,rfl,ay (fun h=>(by cases h)) (fun _=>hR _ _ ⟨rfl,rfl⟩)⟩
     . exact⟨_,cx.tup hb,true,rfl,ay (fun _=>⟨_,cx.tup ha,true,rfl,ay (fun h=>(by cases h)) (fun _=>hR _ _ ⟨rfl,rfl⟩)⟩) (fun h=>absurd rfl h)⟩
   rintro σ1 H4 ⟨rfl,rfl⟩;have sA:SqL K H4 a xs∨SqT K H4 a xs:=ht.elim (fun h=>.inl (SqL.of h.1)) (fun h=>.inr (SqT.of h.1));have sB:SqL K H4 b ys∨SqT K H4 b ys:=ht.elim (fun h=>.inl (SqL.of h.2)) (fun h=>.inr (SqT.of h.2));refine au (fun σ' H'=>σ'=[some (.ref a),some (.ref b),none]∧H'=H4) (fun R hR=>?_) ?_
   . walk_at"";exact⟨_,sA,_,sB,rfl,ay (fun h=>absurd (by rw[hl]) h) (fun _=>hR _ _ ⟨rfl,rfl⟩)⟩
   rintro σ1 H5 ⟨rfl,rfl⟩;refine au (fun σ' H'=>∃ o,σ'=[some (.ref a),some (.ref b),o]∧H'=H5) (fun R hR=>?_) ?_
   . walk_at"";refine⟨_,sB,by omega,by omega,?_⟩;rw[Au];refine bi (H0:=H5) br (fun i σ' H'=>∃ o,σ'=[some (.ref a),some (.ref b),o]∧H'=H5) ⟨none,rfl,rfl⟩ (fun _ _ _ _ ⟨_,_,h⟩=>h▸af.refl _) ?_ ?_
     . rintro i x σ H' hi rfl ⟨o,rfl,rfl⟩ R2 hR2;obtain⟨u,hu0⟩:∃ e,xs[i]?=some e:=⟨_,zN (by omega)⟩;obtain⟨v,hv0⟩:∃ e,ys[i]?=some e:=⟨_,zN (by omega)⟩
       have hz:(0:Int)+(i:Int)=i:=by omega
       rw[hz];walk_at"";have k1:∀ Q':VK,Q' u H'→rIx K (V.ref a) (V.int i) H' Q':=fun Q' q'=>sA.elim (fun s=>.inl ⟨xs,u,s,bT hu0,q'⟩) (fun s=>.inr (.inl ⟨xs,u,s,bT hu0,q'⟩));have k2:∀ Q':VK,Q' v H'→rIx K (V.ref b) (V.int i) H' Q':=fun Q' q'=>sB.elim (fun s=>.inl ⟨ys,v,s,bT hv0,q'⟩) (fun s=>.inr (.inl ⟨ys,v,s,bT hv0,q'⟩));exact k1 _ (k2 _ (hE i u v hu0 hv0 _ _ ⟨true,rfl,ay (fun h=>by cases h) (fun _=>hR2 _ _ ⟨_,rfl,rfl⟩)⟩))
     . rintro σ H' ⟨o,rfl,rfl⟩;exact hR _ _ ⟨o,rfl,rfl⟩
   rintro σ2 H6 ⟨o,rfl,rfl⟩;walk_at"";exact q
theorem nu {h:Hs}{d e:Int}(hd:∀ x∈h.dp,x.1≤d)(he:d≤e) (c:Str):aV h c e=aV h c d:=by
 have:aX h.dp c e=aX h.dp c d:=by
   unfold aX
   congr 1
   refine List.filter_congr fun x hx=>?_;have:=hd x hx;rw[decide_eq_true (show x.1≤e by omega),decide_eq_true this]
 unfold aV;rw[this]
theorem tP {H:Hp}{ps:List Addr}{L:List (List V)}{p l:Addr}{e:List V}(hT:cf H ps L)(hl:H l=some (.lst (ps.map V.ref)))(hp:H p=none):cf (upd (upd H p (.tup e)) l (.lst ((ps++[p]).map V.ref))) (ps++[p]) (L++[e]):=by
 have hlp:p≠l:=fun z=>by rw[z,hl] at hp;cases hp
 have hlen:=hT.1;refine⟨by rw[zP,zP,hT.1];rfl,fun i q x hq hx=>?_⟩;by_cases hi:i < ps.length
 . rw[zY hi] at hq;rw[zY (by omega)] at hx;have h1:=hT.2 i q x hq hx;rw[ai (fun z=>by rw[z,hl] at h1;cases h1),ai (fun z=>by rw[z,hp] at h1;cases h1)];exact h1
 . rw[zT (by omega)] at hq hx
   have hi0:i - ps.length=0:=by
     have:=(List.getElem?_eq_some_iff.mp hq).1;simp at this;omega
   rw[hi0] at hq;rw[show i - L.length=0 by omega] at hx;cases hq;cases hx;rw[ai hlp,ac]
theorem q8 {K:PySem.W.Frag}{H:Hp}{a:Addr}{x y z:V}{i j k:Nat}{σ:St}{Q:St→Hp→Prop}(h:H a=some (.tup [x,y,z]))(q:Q (((σ.set i (some x)).set j (some y)).set k (some z)) H):kD K 3 (bN (bx i) (bN (bx j) (bN (bx k) iC))) (.ref a) σ H Q :=
 ⟨a,[x,y,z],rfl,SqT.of h,rfl,x,[y,z],rfl,y,[z],rfl,z,[],rfl,rfl,q⟩
theorem cI {B0 G:Hp}{x:Addr}{o:HO}(S:af B0 G)(h:B0 x=none):af B0 (upd G x o):=fun b u e=>by
 rw[ai (fun z=>by rw[z,h] at e;cases e)];exact S _ _ e
theorem dc.congr {H:Hp}{d:Addr}{ss ns:List Str}{lk lk2:Str→Str→Str}(h:dc H d ss ns lk)(e:∀ n∈ns,∀ z∈ss,lk n z=lk2 n z):dc H d ss ns lk2:=by
 obtain⟨kvs,h1,h2,h3⟩:=h;refine⟨kvs,h1,h2,fun n hn=>?_⟩;obtain⟨r,kv,e1,e2,e3⟩:=h3 n hn;exact⟨r,kv,e1,e2,fun z hz=>by rw[←e n hn z hz];exact e3 z hz⟩
abbrev LK:=Str→Str→Str
def fQ (T:List (Int×LK)) (d:Int):Option LK:=((T.filter fun e=>decide (e.1≤d)).getLast?).map (·.2)
theorem fJ (T:List (Int×LK))(e:Int×LK) (d:Int):fQ (T++[e]) d=if e.1≤d then some e.2 else fQ T d:=by
 unfold fQ;rw[AW];by_cases h:e.1≤d
 . rw[if_pos h,AZ (by simp[h]),Bh,List.getLast?_append];rfl
 . rw[if_neg h,BJ (by simp[h]),Bh,AO]
structure TOk (ss ns:List Str) (h:Hs)(T:List (Int×LK)):Prop where
 t0:∃ e r,T=e::r
 to:∀ d,1≤d→∃ lk,fQ T d=some lk∧∀ n∈ns,∀ z∈ss,lk n z=lkB (aR h.bk d).1 (aR h.bk d).2 n z
 tl:T.length≤1000
structure KR (G:Hp)(lk kc kd kt lo:Addr)(so ns ss:List Str) (h:Hs)(T:List (Int×LK)):Prop where
 hlk:G lk=some (.lst [.ref kc,.ref kd,.ref kt,.int h.day,.ref lo])
 hlo:G lo=some (.lst (so.map V.str))
 hkc:Rd G kc (.dK (clV h.cl))
 hkd:∃ ps:List Addr,G kd=some (.lst (ps.map V.ref))∧cf G ps (h.dp.map fun e=>[.int e.1,.str e.2.1,.str e.2.2.1])
 hkt:∃ ps ds:List Addr,G kt=some (.lst (ps.map V.ref))∧ps.length=T.length∧ds.length=T.length∧∀ (i:Nat) p d e,ps[i]?=some p→ds[i]?=some d→T[i]?=some e→G p=some (.tup [.int e.1,.ref d])∧dc (hide G kc) d ss ns e.2
theorem wA {G G':Hp}(S:Fz G G')(c:Addr):Fz (hide G c) (hide G' c):=by
 have k:∀ {b o},hide G c b=some o→b≠c∧G b=some o:=fun {b o} h=>by
   by_cases e:b=c
   . rw[e] at h;unfold hide at h;rw[if_pos rfl] at h;cases h
   . exact⟨e,by rw[aW e] at h;exact h⟩
 refine⟨fun b o h n=>?_,fun b o h=>?_⟩
 . obtain⟨e,h⟩:=k h;rw[aW e];exact S.1 b o h n
 . have hb:b≠c∧Rd G b o:=by
     rcases h with h | ⟨u,h⟩
     . exact⟨(k h).1,.inl (k h).2⟩
     . exact⟨(k h).1,.inr ⟨u,(k h).2⟩⟩
   rcases S.2 b o hb.2 with h | ⟨u,h⟩
   . exact .inl (by rw[aW hb.1];exact h)
   . exact .inr ⟨u,by rw[aW hb.1];exact h⟩
theorem cf.fz {H H':Hp}{ps:List Addr}{L:List (List V)}(S:Fz H H')(h:cf H ps L):cf H' ps L:=⟨h.1,fun i p e hp he=>S.1 _ _ (h.2 i p e hp he) (fun _ e=>by cases e)⟩
theorem KR.fz {G G':Hp}{lk kc kd kt lo:Addr}{so ns ss:List Str}{h:Hs}{T:List (Int×LK)}(R:KR G lk kc kd kt lo so ns ss h T)(S:Fz G G'):KR G' lk kc kd kt lo so ns ss h T:=by
 obtain⟨h1,h2,h3,⟨ps,h4,h5⟩,⟨qs,ds,h6,h7,h8,h9⟩⟩:=R;exact⟨S.1 _ _ h1 (fun _ e=>by cases e),S.1 _ _ h2 (fun _ e=>by cases e),S.2 _ _ h3,⟨ps,S.1 _ _ h4 (fun _ e=>by cases e),h5.fz S⟩,⟨qs,ds,S.1 _ _ h6 (fun _ e=>by cases e),h7,h8,fun i p d e a b c=>⟨S.1 _ _ (h9 i p d e a b c).1 (fun _ e=>by cases e),Fz.tabG (wA S kc) (h9 i p d e a b c).2⟩⟩⟩
theorem KR.same {G G':Hp}{lk kc kd kt lo:Addr}{so ns ss:List Str}{h:Hs}{T:List (Int×LK)}(R:KR G lk kc kd kt lo so ns ss h T)(S:af G G'):KR G' lk kc kd kt lo so ns ss h T:=R.fz (af.fz S)
structure fM (h:Hs):Prop where
 srt:h.dp.Pairwise (fun a b=>a.1≤b.1)
 out:∀ (i:Nat) e,h.dp[i]?=some e→e.2.2.2=lkB (aR h.bk e.1).1 (aR h.bk e.1).2 e.2.2.1 (aV { h with dp:=h.dp.take i } e.2.1 e.1)
theorem oB {h:Hs}{c:Str}{d:Int}{x:Int×Str×Str}(hl:(aX h.dp c d).getLast?=some x):aV h c d=x.2.2:=by
 unfold aV;rw[hl]
theorem f8 {h:Hs}{c:Str}{d:Int}(hl:aX h.dp c d=[]):aV h c d=(h.cl.lookup c).getD ⟨#[]⟩:=by
 unfold aV;rw[hl];rfl
def ge:Sp:=fun vs H Q _=>∃ (G:Hp)(lk kc kd kt lo:Addr)(so ns ss:List Str) (h:Hs)(Tb:List (Int×LK)) (day:Int),vs=[.ref lk,.int day]∧af G H∧KR G lk kc kd kt lo so ns ss h Tb∧TOk ss ns h Tb∧1≤day∧∀ d,dc (hide G kc) d ss ns (lkB (aR h.bk day).1 (aR h.bk day).2)→Q (.ref d) H
theorem eN:aw ["_law_kept", "_law_day_here", "_law_found", "_law_since", "_law_tables_here"] ["_law_kept", "_law_day_here"] (ao jB):=sM
theorem qJ {f:Addr}{fd:FuncData}(F:Fun K "_law_in_force" "_law_in_force" jB f fd)
   (T:Txt mg)  :
   aU P w K mg base CX0 1 f fd ["_law_kept", "_law_day_here"] ge:=by
 refine oq F eN fun cdv A outer s H vs Q E hr h=>?_;obtain⟨G,lk,kc,kd,kt,lo,so,ns,ss,h,Tb,day,rfl,SG,KR0,TO,hd,q⟩:=h
 refine⟨_,(aj (pS 2 eN.nd (pI aJ (pI ak (pI ak (pv 0) ag) ag) ag))
   (aj (bC PassesOwn.never rfl (a8 (pI ak (pv 0) ag)) (cz (n:=2) rfl (aE (pN 3 eN.nd) (aE (pN 4 eN.nd) bS))) (ah (aB (ap sj (pv 3) (pv 1) (ax _)) (ah (pS 2 eN.nd (pv 4))) am)))
   (ah (aq (pv 2))))),?_⟩
 try dsimp only[aC,aM]
 have hs:=aK;obtain⟨ps,ds,hkt,hpl,hdl,hE⟩:=KR0.hkt;obtain⟨e0,Tr,hTe⟩:=TO.t0
 have hp0:0 < ps.length:=by rw[hpl,hTe];exact CG _
 obtain⟨p0,hp0'⟩:∃ p,ps[0]?=some p:=⟨_,zN hp0⟩;obtain⟨d0,hd0'⟩:∃ d,ds[0]?=some d:=⟨_,zN (by omega)⟩;obtain⟨ht0,_⟩:=hE 0 p0 d0 e0 hp0' hd0' (by rw[hTe];rfl);refine au (fun σ' H'=>σ'=[some (.ref lk),some (.int day),some (.ref d0),none,none]∧H'=H) (fun R hR=>?_) ?_
 . walk_at"";exact⟨_,SqL.of (SG _ _ KR0.hlk),_,rfl,kt,rfl,_,SqL.of (SG _ _ hkt),_,bT (j:=0) (by rw[zO,hp0'];rfl),p0,rfl,_,SqT.of (SG _ _ ht0),_,rfl,hR _ _ ⟨rfl,rfl⟩⟩
 rintro σ1 H1 ⟨rfl,rfl⟩;refine au (fun σ' H'=>∃ (d:Addr)(o3 o4:Option V),σ'=[some (.ref lk),some (.int day),some (.ref d),o3,o4]∧H'=H1∧dc (hide G kc) d ss ns (lkB (aR h.bk day).1 (aR h.bk day).2)) (fun R hR=>?_) ?_
 . walk_at"";refine⟨_,SqL.of (SG _ _ KR0.hlk),_,rfl,kt,rfl,⟨_,SqL.of (SG _ _ hkt)⟩,?_⟩;refine bi (H0:=H1) (aG (SqL.of (SG _ _ hkt))) (fun i σ' H'=>∃ (d:Addr)(o3 o4:Option V),σ'=[some (.ref lk),some (.int day),some (.ref d),o3,o4]∧H'=H1∧∀ b,fQ (Tb.take i) day=some b→dc (hide G kc) d ss ns b) ⟨d0,none,none,rfl,rfl,fun b hb=>by cases hb⟩ (fun _ _ _ _ ⟨_,_,_,_,e,_⟩=>by rw[e];exact af.refl _) ?_ ?_
   . rintro i x σ' H' hi hx ⟨d,o3,o4,rfl,rfl,hb⟩ R2 hR2;rw[zO] at hx;obtain⟨p,hp,rfl⟩:=Option.map_eq_some_iff.mp hx;rw[be] at hi;obtain⟨e,he⟩:∃ e,Tb[i]?=some e:=⟨_,zN (by omega)⟩;obtain⟨d1,hd1⟩:∃ d,ds[i]?=some d:=⟨_,zN (by omega)⟩;obtain⟨ht,hG⟩:=hE i p d1 e hp hd1 he;refine dY (SG _ _ ht) ?_;walk_at"";refine ay (fun hle=>hR2 _ _ ⟨d1,_,_,rfl,rfl,fun b hb2=>?_⟩) (fun hle=>hR2 _ _ ⟨d,_,_,rfl,rfl,fun b hb2=>hb b ?_⟩)
     . rw[bu he,fJ,if_pos hle] at hb2;cases hb2;exact hG
     . rw[bu he,fJ,if_neg hle] at hb2;exact hb2
   . rintro σ' H' ⟨d,o3,o4,rfl,rfl,hb⟩;rw[be,hpl,AI] at hb;obtain⟨b,hb1,hb2⟩:=TO.to day hd;exact hR _ _ ⟨d,_,_,rfl,rfl,dc.congr (hb b hb1) hb2⟩
 rintro σ2 H2 ⟨d,o3,o4,rfl,rfl,hd2⟩;walk_at"";exact q d hd2
def eZ:Sp:=fun vs H Q _=>∃ (lk kc kd kt lo:Addr)(so ns ss:List Str) (h:Hs)(Tb:List (Int×LK)) (c:Str) (day:Int),vs=[.ref lk,.str c,.int day]∧KR H lk kc kd kt lo so ns ss h Tb∧TOk ss ns h Tb∧fM h∧bH ss ns h∧(∀ e∈h.dp,e.2.2.1∈ns)∧c∈h.cl.map (·.1)∧∀ l ps H',af H H'→H l=none→H' l=some (.lst (ps.map V.ref))→cf H' ps ((aX h.dp c day).map fun e=>[.int e.1,.str e.2.1,.str e.2.2])→Q (.ref l) H'
theorem cO:aw ["_law_kept", "_law_cloth", "_law_day_here", "_law_at_here", "_law_told", "_law_on", "_law_who", "_law_bath"] ["_law_kept", "_law_cloth", "_law_day_here"] (ao iT):=sM
theorem ox {f fIF:Addr}{fd fdIF:FuncData}(F:Fun K "_law_trail_due" "_law_trail_due" iT f fd)
   (T:Txt mg)
   (GIF:Cl P w K mg base CX0 1 "_law_in_force" ["_law_kept", "_law_day_here"] ge fIF fdIF) :
   aU P w K mg base CX0 2 f fd ["_law_kept", "_law_cloth", "_law_day_here"] eZ:=by
 refine oq F cO fun cdv A outer s H vs Q E hr h=>?_;obtain⟨lk,kc,kd,kt,lo,so,ns,ss,h,Tb,c,day,rfl,KR0,TO,HR,ho,hbn,hc,q⟩:=h;have hu:=eA hr;have hr1:=hr.mono (j:=1) (by omega)
 refine⟨_,(aj (pS 3 cO.nd (cv hu (pI ak (pv 0) ag) (pv 1) (fun _ _=>rfl)))
   (aj (pS 4 cO.nd (bo ae))
   (aj (bC PassesOwn.never rfl (a8 (pI ak (pv 0) ag)) (cz (n:=3) rfl (aE (pN 5 cO.nd) (aE (pN 6 cO.nd) (aE (pN 7 cO.nd) bS)))) (ah (aB (PW.pt (im (ap bM (pv 6) (pv 1) (ax _)) (gi (ap sj (pv 5) (pv 2) (ax _))))) (aL (pS 3 cO.nd (cv hu (cv hu (pC GIF hr1 az (aa (pv 0) (aa (pv 5) ae))) (pv 7) (fun _ _=>rfl)) (pv 3) (fun _ _=>rfl)))
   (ah (aP (eW Ap AA AB bR (pv 4) (aa (bQ (aa (pv 5) (aa (pv 7) (aa (pv 3) ae)))) ae))))) am)))
   (ah (aq (pv 4)))))),?_⟩
 try dsimp only[aC,aM]
 have hs:=aK;obtain⟨ps,hkd,hT⟩:=KR0.hkd;have hpl:=hT.1;rw[be] at hpl;have hdl:=ho.dl
 obtain⟨z0,hz0⟩:∃ z0,(h.cl.lookup c)=some z0:=by
   obtain⟨x,hx,rfl⟩:=List.mem_map.mp hc;exact⟨_,dk ho.cnd hx⟩
 have hz0m:(c,z0)∈h.cl:=by
   obtain⟨x,hx,hxe⟩:=List.mem_map.mp hc;have:=dk ho.cnd hx;rw[hxe,hz0] at this;cases this;rw[←hxe];exact hx
 have hval:bG (clV h.cl) (Sum.inr c)=some (V.str z0):=eo ho.cnd hz0m;refine au (fun σ' H'=>σ'=[some (.ref lk),some (.str c),some (.int day),some (.str z0),none,none,none,none]∧H'=H) (fun R hR=>?_) ?_
 . walk_at"";exact⟨_,SqL.of KR0.hlk,_,rfl,kc,rfl,_,.inl ⟨_,Sum.inr c,KR0.hkc,rfl,hval.symm⟩,hR _ _ ⟨rfl,rfl⟩⟩
 rintro σ1 H1 ⟨rfl,rfl⟩;refine au (fun σ' H'=>∃ lt,H1 lt=none∧σ'=[some (.ref lk),some (.str c),some (.int day),some (.str z0),some (.ref lt),none,none,none]∧H'=upd H1 lt (.lst [])) (fun R hR=>?_) ?_
 . walk_at"";exact⟨by omega,fun p hp=>hR _ _ ⟨p,hp,rfl,rfl⟩⟩
 rintro σ2 H2 ⟨lt,hlt,rfl,rfl⟩;have S2:=af.updN (o:=.lst []) hlt;have hlt2:upd H1 lt (.lst []) lt=some (.lst []):=ac;generalize upd H1 lt (.lst [])=H2 at *;have hkd2:=S2 _ _ hkd;refine au (fun σ' H'=>∃ (at_:Str)(qs:List Addr)(o5 o6 o7:Option V),σ'=[some (.ref lk),some (.str c),some (.int day),some (.str at_),some (.ref lt),o5,o6,o7]∧af H1 H'∧H' lt=some (.lst (qs.map V.ref))∧cf H' qs ((aX h.dp c day).map fun e=>[.int e.1,.str e.2.1,.str e.2.2])) (fun R hR=>?_) ?_
 . walk_at"";refine⟨_,SqL.of (S2 _ _ KR0.hlk),_,rfl,kd,rfl,⟨_,SqL.of hkd2⟩,?_⟩;refine bi (H0:=H1) (aG (SqL.of hkd)) (fun i σ' H'=>∃ (qs:List Addr)(o5 o6 o7:Option V),σ'=[some (.ref lk),some (.str c),some (.int day),some (.str (aV { h with dp:=h.dp.take i } c day)),some (.ref lt),o5,o6,o7]∧af H1 H'∧aV { h with dp:=h.dp.take i } c day∈ss∧H' lt=some (.lst (qs.map V.ref))∧cf H' qs ((aX (h.dp.take i) c day).map fun e=>[.int e.1,.str e.2.1,.str e.2.2])) ⟨[],none,none,none,?_,S2,?_,hlt2,rfl,fun _ _ _ h=>by cases h⟩ (fun _ _ _ _ ⟨_,_,_,_,_,h,_⟩=>h) ?_ ?_
   . rw[show aV { h with dp:=h.dp.take 0 } c day=z0 from by rw[f8 rfl];show(h.cl.lookup c).getD _=z0;rw[hz0];rfl]
   . rw[show aV { h with dp:=h.dp.take 0 } c day=z0 from by rw[f8 rfl];show(h.cl.lookup c).getD _=z0;rw[hz0];rfl];exact ho.csh _ hz0m
   . rintro i x σ' H' hi hx ⟨qs,o5,o6,o7,rfl,hS,hat,hl,hTq⟩ R2 hR2;rw[zO] at hx;obtain⟨p,hp,rfl⟩:=Option.map_eq_some_iff.mp hx;rw[be] at hi;obtain⟨e,he⟩:∃ e,h.dp[i]?=some e:=⟨_,zN (by omega)⟩;have ht:=hS _ _ (hT.2 i p _ hp (by rw[zO,he];rfl));have hem:=zS he
     have hts:aX (h.dp.take (i+1)) c day=aX (h.dp.take i) c day++(if e.2.1=c∧e.1≤day then[(e.1,e.2.2.1,e.2.2.2)] else[]):=by
       rw[bu he];exact jd (h.dp.take i) e.1 e.2.1 e.2.2.1 e.2.2.2 c day
     have hss:aV { h with dp:=h.dp.take (i+1) } c day=if e.2.1=c∧e.1≤day then e.2.2.2 else aV { h with dp:=h.dp.take i } c day:=by
       rw[bu he];exact jh { h with dp:=h.dp.take i } e.1 e.2.1 e.2.2.1 e.2.2.2 c day h.day
     have hql:qs.length≤i:=by
       rw[hTq.1,be];unfold aX;rw[be];exact AG (A4 _ _) (by rw[Af];omega)
     refine q8 ht ?_;walk_at"";by_cases hce:e.2.1=c∧e.1≤day
     . obtain⟨hc1,hc2⟩:=hce;rw[if_pos ⟨hc1,hc2⟩] at hts hss;have hout:=HR.out i e he
       have hsh:aV { h with dp:=h.dp.take i } e.2.1 e.1=aV { h with dp:=h.dp.take i } c day:=by
         rw[hc1];refine(nu (fun x hx=>?_) hc2 c).symm;obtain⟨j,hj⟩:=AJ hx
         have hji:j < i:=by
           have:=(List.getElem?_eq_some_iff.mp hj).1;rw[Af] at this;omega
         have hj2:h.dp[j]?=some x:=by
           have:=hj;rw[List.getElem?_take_of_lt hji] at this;exact this
         exact List.pairwise_iff_getElem.mp HR.srt j i (List.getElem?_eq_some_iff.mp hj2).1 (List.getElem?_eq_some_iff.mp he).1 hji |> fun k=>by
           rw[(List.getElem?_eq_some_iff.mp hj2).2,(List.getElem?_eq_some_iff.mp he).2] at k;exact k
       rw[hsh] at hout;refine⟨rfl,ay (fun _=>ay (fun _=>?_) (fun h=>absurd hc2 h)) (fun h=>absurd hc1 h)⟩;refine⟨_,lk,kc,kd,kt,lo,so,ns,ss,h,Tb,e.1,rfl,af.refl _,KR0.same hS,TO,(ho.dd e hem).1,fun d hG0=>?_⟩;have hG:=Fz.tabG (af.fz bK) hG0;obtain⟨r,g1,g2⟩:=hG.get (hbn e hem) hat;rw[←hout] at g2;refine⟨d,rfl,_,g1,r,rfl,_,g2,.inl ⟨rfl,_,SqL.of hl⟩,by omega,fun p1 hp1=>⟨_,by rw[ai (aF hl hp1)];exact hl,by rw[be];omega,?_⟩⟩;rw[show qs.map V.ref++[V.ref p1]=(qs++[p1]).map V.ref by rw[zU];rfl];refine hR2 _ _ ⟨qs++[p1],_,_,_,by rw[hss],?_,by rw[hss];exact ho.ds e hem,ac,?_⟩
       . exact cI (hS.trans (af.updN hp1)) hlt
       . rw[hts,zU (f:=fun e:Int×Str×Str=>[V.int e.1,V.str e.2.1,V.str e.2.2])];exact tP hTq hl hp1
     . rw[if_neg hce] at hts hss;rw[AO] at hts;have hno:R2 [some (.ref lk),some (.str c),some (.int day),some (.str (aV { h with dp:=h.dp.take i } c day)),some (.ref lt),some (.int e.1),some (.str e.2.1),some (.str e.2.2.1)] H':=hR2 _ _ ⟨qs,_,_,_,by rw[hss],hS,by rw[hss];exact hat,hl,by rw[hts];exact hTq⟩;exact⟨rfl,ay (fun h1=>ay (fun h2=>absurd ⟨h1,h2⟩ hce) (fun _=>hno)) (fun _=>hno)⟩
   . rintro σ' H' ⟨qs,o5,o6,o7,rfl,hS,hat,hl,hTq⟩;rw[be,hpl,AI] at hTq;exact hR _ _ ⟨_,qs,_,_,_,rfl,hS,hl,hTq⟩
 rintro σ3 H3 ⟨at_,qs,o5,o6,o7,rfl,S3,hl3,hT3⟩;walk_at"";exact q lt qs H3 S3 hlt hl3 hT3
def fr:Sp:=fun vs H Q _=>∃ (lk kc kd kt lo:Addr)(so ns ss:List Str) (h:Hs)(Tb:List (Int×LK)) (c:Str) (day:Int),vs=[.ref lk,.str c,.int day]∧KR H lk kc kd kt lo so ns ss h Tb∧TOk ss ns h Tb∧fM h∧bH ss ns h∧(∀ e∈h.dp,e.2.2.1∈ns)∧c∈h.cl.map (·.1)∧∀ H',af H H'→Q (.str (aV h c day)) H'
theorem kH:aw ["_law_kept", "_law_cloth", "_law_day_here", "_law_told"] ["_law_kept", "_law_cloth", "_law_day_here"] (ao iu):=sM
theorem nU {f fTD:Addr}{fd fdTD:FuncData}(F:Fun K "_law_shade_due" "_law_shade_due" iu f fd)
   (T:Txt mg)
   (GTD:Cl P w K mg base CX0 2 "_law_trail_due" ["_law_kept", "_law_cloth", "_law_day_here"] eZ fTD fdTD) :
   aU P w K mg base CX0 3 f fd ["_law_kept", "_law_cloth", "_law_day_here"] fr:=by
 refine oq F kH fun cdv A outer s H vs Q E hr h=>?_;obtain⟨lk,kc,kd,kt,lo,so,ns,ss,h,Tb,c,day,rfl,KR0,TO,HR,ho,hbn,hc,q⟩:=h;have hu:=eA hr;have hr2:=hr.mono (j:=2) (by omega)
 refine⟨_,(aj (pS 3 kH.nd (pC GTD hr2 az (aa (pv 0) (aa (pv 1) (aa (pv 2) ae)))))
   (aj (aB (ap (vE (BO hu)) (pv 3) (bo ae) (ax _)) (ah (aq (cv hu (pI ak (pv 0) ag) (pv 1) (fun _ _=>rfl)))) am)
   (ah (aq (pI aJ (pI ak (pv 3) (eG dj ag)) ag))))),?_⟩
 try dsimp only[aC,aM]
 have hs:=aK
 obtain⟨z0,hz0⟩:∃ z0,(h.cl.lookup c)=some z0:=by
   obtain⟨x,hx,rfl⟩:=List.mem_map.mp hc;exact⟨_,dk ho.cnd hx⟩
 have hz0m:(c,z0)∈h.cl:=by
   obtain⟨x,hx,hxe⟩:=List.mem_map.mp hc;have:=dk ho.cnd hx;rw[hxe,hz0] at this;cases this;rw[←hxe];exact hx
 have hval:bG (clV h.cl) (Sum.inr c)=some (V.str z0):=eo ho.cnd hz0m;refine au (fun σ' H'=>∃ (l:Addr)(ps:List Addr),σ'=[some (.ref lk),some (.str c),some (.int day),some (.ref l)]∧af H H'∧H' l=some (.lst (ps.map V.ref))∧cf H' ps ((aX h.dp c day).map fun e=>[.int e.1,.str e.2.1,.str e.2.2])) (fun R hR=>?_) ?_
 . walk_at"";exact⟨lk,kc,kd,kt,lo,so,ns,ss,h,Tb,c,day,rfl,KR0,TO,HR,ho,hbn,hc,fun l ps H' S _ hl hT=>hR _ _ ⟨l,ps,rfl,S,hl,hT⟩⟩
 rintro σ1 H1 ⟨l,ps,rfl,S1,hl,hT⟩;have KR1:=KR0.same S1;have hpl:=hT.1;rw[be] at hpl;refine au (fun σ' H'=>aX h.dp c day≠[]∧σ'=[some (.ref lk),some (.str c),some (.int day),some (.ref l)]∧af H1 H') (fun R hR=>?_) ?_
 . walk_at"";refine⟨by omega,fun p hp=>?_⟩;have Sp:=af.updN (o:=.lst []) hp;refine⟨_,SqL.of (Sp _ _ hl),[],SqL.of ac,?_,?_⟩
   . by_cases e:ps=[]
     . exact .inr (.inr (by rw[e];rfl))
     . exact .inr (.inl (by rw[be];exact fun z=>e (List.length_eq_zero_iff.mp z)))
   rw[gO];by_cases hne:aX h.dp c day=[]
   . have hpe:ps=[]:=List.length_eq_zero_iff.mp (by rw[hpl,hne];rfl);rw[hpe,if_pos (by decide)];refine⟨_,SqL.of (Sp _ _ KR1.hlk),_,rfl,kc,rfl,_,.inl ⟨_,Sum.inr c,af.rd Sp KR1.hkc,rfl,hval.symm⟩,?_⟩;have:=q _ (S1.trans Sp);rw[f8 hne,hz0] at this;exact this
   . have hpe:ps≠[]:=fun e=>hne (List.length_eq_zero_iff.mp (by rw[←hpl,e];rfl));rw[if_neg (by rw[decide_eq_false (fun e=>hpe (List.map_eq_nil_iff.mp e))];decide)];exact hR _ _ ⟨hne,rfl,Sp⟩
 rintro σ2 H2 ⟨hne,rfl,S2⟩;obtain⟨x,hx⟩:∃ x,(aX h.dp c day).getLast?=some x:=⟨_,AL hne⟩;walk_at"";have hpe:ps≠[]:=fun e=>hne (List.length_eq_zero_iff.mp (by rw[←hpl,e];rfl));obtain⟨ps0,p0,rfl⟩:∃ s q,ps=s++[q]:=⟨_,_,(Ah hpe).symm⟩;obtain⟨L0,rfl'⟩:∃ L0,aX h.dp c day=L0++[x]:=⟨_,by rw[AL hne] at hx;rw[←Option.some.inj hx];exact(Ah hne).symm⟩;rw[rfl'] at hT hpl
 have hpl0:ps0.length=L0.length:=by
   rw[zP,zP] at hpl
   simpa using hpl
 have ht0:H1 p0=some (.tup [.int x.1,.str x.2.1,.str x.2.2]):=hT.2 ps0.length p0 _ (by rw[zT (zR _),AC];rfl) (by rw[zU,zT (by rw[be,hpl0];exact zR _),be,hpl0,AC];rfl);refine⟨_,SqL.of (S2 _ _ hl),V.ref p0,by rw[zU];exact eX _ _,p0,rfl,_,SqT.of (S2 _ _ ht0),_,rfl,?_⟩;have:=q _ (S1.trans S2);rw[oB hx] at this;exact this
def gj:Sp:=fun vs H Q _=>∃ (lk kc kd kt lo:Addr)(so ns ss:List Str) (h:Hs)(Tb:List (Int×LK)) (day:Int),vs=[.ref lk,.int day]∧KR H lk kc kd kt lo so ns ss h Tb∧h.dp.length≤1000∧∀ l ps H',af H H'→H l=none→H' l=some (.lst (ps.map V.ref))→cf H' ps ((bf h.dp day).map fun e=>[.str e.1,.str e.2])→Q (.ref l) H'
theorem sv:aw ["_law_kept", "_law_day_here"] ["_law_kept", "_law_day_here"] (ao kf):=sM
theorem pU {f:Addr}{fd:FuncData}(F:Fun K "_law_dips_due" "_law_dips_due" kf f fd)
   (T:Txt mg)  :
   aU P w K mg base CX0 1 f fd ["_law_kept", "_law_day_here"] gj:=by
 refine oq F sv fun cdv A outer s H vs Q E hr h=>?_;obtain⟨lk,kc,kd,kt,lo,so,ns,ss,h,Tb,day,rfl,KR0,hdl,q⟩:=h;refine⟨_,(ah (aq (eQ (N':=["_law_on", "_law_who", "_law_bath", "_law_day_here"]) (pk:=[none,none,none,some 1]) rfl (bW.of (by rfl)) (a8 (pI ak (pv 0) ag)) (fun s H ex=>((cz (n:=3) rfl (aE (pN 0 (by show(["_law_on", "_law_who", "_law_bath", "_law_day_here"]:List Str).Nodup;decide)) (aE (pN 1 (by show(["_law_on", "_law_who", "_law_bath", "_law_day_here"]:List Str).Nodup;decide)) (aE (pN 2 (by show(["_law_on", "_law_who", "_law_bath", "_law_day_here"]:List Str).Nodup;decide)) bS)))):PG _ _ (kD K 3 (bN (bx 0) (bN (bx 1) (bN (bx 2) iC)))))) (fun s H ex=>(ap bM (pv 0) (pv 3) (ax _))) (fun s H ex=>(bQ (aa (pv 1) (aa (pv 2) ae))))))),?_⟩
 try dsimp only[aC,aM]
 have hs:=aK;obtain⟨ps,hkd,hT⟩:=KR0.hkd;have hpl:=hT.1;rw[be] at hpl;walk_at"";refine⟨_,SqL.of KR0.hlk,_,rfl,kd,rfl,⟨_,SqL.of hkd⟩,fun D hD=>?_⟩;refine iB (aG (SqL.of hkd)) (by rw[be];omega) hD (fun σ=>∃ o1 o2 o3,σ=[o1,o2,o3,some (.int day)]) (fun i=>(fun e:Int×Str×Str×Str=>decide (e.1=day)) (h.dp.getD i d0)) (fun i=>(fun e:Int×Str×Str×Str=>[V.str e.2.1,.str e.2.2.1]) (h.dp.getD i d0)) ⟨none,none,none,rfl⟩ ?_ ?_
 . rintro i x σ' H3 hi hx ⟨o1,o2,o3,rfl⟩ hS R1 R0 h1 h0;rw[zO] at hx;obtain⟨p,hp,rfl⟩:=Option.map_eq_some_iff.mp hx;obtain⟨e,he⟩:∃ e,h.dp[i]?=some e:=⟨_,zN (by rw[be] at hi;omega)⟩;have ht:=hS _ _ (hT.2 i p _ hp (by rw[zO,he];rfl))
   have eg:h.dp.getD i d0=e:=by rw[zQ,he];rfl
   simp only[eg] at h1 h0;refine q8 ht ?_;walk_at"";refine⟨rfl,ay (fun hle=>⟨by omega,fun p hp=>h1 (by simp[hle]) p _ ⟨_,_,_,rfl⟩ hp⟩) (fun hle=>h0 (by simp[hle]) _ ⟨_,_,_,rfl⟩)⟩
 . intro qs H' S' hHD hT2;rw[be,hpl,fo h.dp d0 (fun e=>decide (e.1=day)) (fun e=>[V.str e.2.1,.str e.2.2.1])] at hT2;refine q D qs H' S' hD hHD ?_;unfold bf;rw[Av];exact hT2
def bj (F:Addr→Bool)(H:Hp):Hp:=fun b=>if F b=true then none else H b
theorem aQ {F:Addr→Bool}{H:Hp}{b:Addr}{o:HO}(h:bj F H b=some o):H b=some o∧F b=false:=by
 unfold bj at h
 cases hf:F b with
 | true=>rw[if_pos hf] at h;cases h
 | false=>rw[if_neg (by rw[hf];decide)] at h;exact⟨h,rfl⟩
theorem cj {F:Addr→Bool}{H:Hp}{b:Addr}{o:HO}(h:H b=some o)(f:F b=false):bj F H b=some o:=by
 unfold bj;rw[if_neg (by rw[f];decide)];exact h
theorem ar {F:Addr→Bool}{H:Hp}:af (bj F H) H:=fun b o e=>(aQ e).1
theorem aO {F:Addr→Bool}{H H':Hp}(S:af H H'):af (bj F H) (bj F H'):=fun b o e=>cj (S b o (aQ e).1) (aQ e).2
theorem dz {F:Addr→Bool}{H:Hp}{x:Addr}{o:HO}(f:F x=false):bj F (upd H x o)=upd (bj F H) x o:=by
 funext b;by_cases e:b=x
 . rw[e,ac];exact cj ac f
 . rw[ai e];unfold bj;rw[ai e]
def eS (F:Addr→Bool)(H:Hp):Prop:=∀ b,F b=true→H b≠none
theorem eS.new {F:Addr→Bool}{H:Hp}{b:Addr}(h:eS F H)(n:H b=none):F b=false:=by
 cases hf:F b with
 | true=>exact absurd n (h b hf)
 | false=>rfl
theorem eS.same {F:Addr→Bool}{H H':Hp}(h:eS F H)(S:af H H'):eS F H':=fun b hb e=>h b hb (S.free e)
def Owx (ks:List Addr)(H H':Hp):Prop:=∀ b o,b∉ks→H b=some o→H' b=some o
theorem Owx.same {ks:List Addr}{H H':Hp}(S:af H H'):Owx ks H H':=fun b o _ h=>S b o h
theorem Owx.trans {ks:List Addr}{H H1 H2:Hp}(a:Owx ks H H1)(b:Owx ks H1 H2):Owx ks H H2:=fun c o n h=>b c o n (a c o n h)
theorem Owx.upd {ks:List Addr}{H:Hp}{x:Addr}{o:HO}(hx:x∈ks):Owx ks H (L2.upd H x o):=fun b u n h=>by
 rw[ai (fun e=>n (by rw[e];exact hx))];exact h
theorem vQ {G:Hp}{x d:Addr}{ss ns:List Str}{lk:LK}{xs:List V}{o:HO}(h:dc G d ss ns lk)(hx:G x=some (.lst xs)):dc (upd G x o) d ss ns lk:=by
 have k:∀ {b kv},Rd G b (.dK kv)→Rd (upd G x o) b (.dK kv):=fun {b kv} h=>by
   have hne:b≠x:=fun e=>by rcases h with h | ⟨_,h⟩<;>(rw[e,hx] at h;cases h)
   rcases h with h | ⟨w,h⟩
   . exact .inl (by rw[ai hne];exact h)
   . exact .inr ⟨w,by rw[ai hne];exact h⟩
 obtain⟨kvs,h1,h2,h3⟩:=h;refine⟨kvs,k h1,h2,fun n hn=>?_⟩;obtain⟨r,kv,e1,e2,e3⟩:=h3 n hn;exact⟨r,kv,e1,k e2,e3⟩
theorem k4 {G:Hp}{x:Addr}{o:HO}:hide (upd G x o) x=hide G x:=by
 funext b;by_cases e:b=x
 . rw[e];unfold hide;rw[if_pos rfl,if_pos rfl]
 . rw[aW e,aW e,ai e]
theorem nJ {G:Hp}{x y:Addr}{o:HO}(h:x≠y):hide (upd G x o) y=upd (hide G y) x o:=by
 funext b;by_cases e:b=y
 . rw[e,ai (Ne.symm h)];unfold hide;rw[if_pos rfl,if_pos rfl]
 . rw[aW e];by_cases k:b=x
   . rw[k,ac,ac]
   . rw[ai k,ai k,aW e]
theorem eT {G G':Hp}(S:af G G')(c:Addr):af (hide G c) (hide G' c):=fun b o h=>by
 by_cases e:b=c
 . rw[e] at h;unfold hide at h;rw[if_pos rfl] at h;cases h
 . rw[aW e] at h ⊢;exact S b o h
structure KI (G:Hp)(lk kc kd kt lo:Addr)(so ns ss:List Str) (h:Hs)(T:List (Int×LK)):Prop where
 r:KR G lk kc kd kt lo so ns ss h T
 kcx:G kc=some (.dK (clV h.cl))
 ne:lk≠kd∧lk≠kt∧kd≠kt∧lo≠lk∧lo≠kd∧lo≠kt
section
variable {G G':Hp}{lk kc kd kt lo:Addr}{so ns ss:List Str}{h:Hs}{T:List (Int×LK)}
theorem KI.same (K:KI G lk kc kd kt lo so ns ss h T)(S:af G G'):KI G' lk kc kd kt lo so ns ss h T:=⟨K.r.same S,S _ _ K.kcx,K.ne⟩
theorem kC {ps:List Addr}{L:List (List V)}{x:Addr}{xs:List V}{o:HO}(t:cf G ps L)(hx:G x=some (.lst xs)):cf (upd G x o) ps L :=
 ⟨t.1,fun i p e hp he=>by
   have ht:=t.2 i p e hp he
   rw[ai (fun z=>by rw[z,hx] at ht;cases ht)];exact ht⟩
theorem wI {ps:List Addr}{L:List (List V)}{x:Addr}{xs:List (Key×V)}{o:HO}(t:cf G ps L)(hx:G x=some (.dK xs)):cf (upd G x o) ps L :=
 ⟨t.1,fun i p e hp he=>by
   have ht:=t.2 i p e hp he
   rw[ai (fun z=>by rw[z,hx] at ht;cases ht)];exact ht⟩
theorem KI.cl {cl2:List (Str×Str)}(K:KI G lk kc kd kt lo so ns ss h T):KI (upd G kc (.dK (clV cl2))) lk kc kd kt lo so ns ss { h with cl:=cl2 } T:=by
 obtain⟨⟨h1,h2,h3,⟨ps,h4,h5⟩,⟨qs,ds,h6,h7,h8,h9⟩⟩,h10,h11⟩:=K
 have nl:∀ {x xs},G x=some (.lst xs)→x≠kc:=fun {x xs} e z=>by rw[z,h10] at e;cases e
 have nt:∀ {x xs},G x=some (.tup xs)→x≠kc:=fun {x xs} e z=>by rw[z,h10] at e;cases e
 exact⟨⟨by rw[ai (nl h1)];exact h1,by rw[ai (nl h2)];exact h2,.inl ac,⟨ps,by rw[ai (nl h4)];exact h4,wI h5 h10⟩,⟨qs,ds,by rw[ai (nl h6)];exact h6,h7,h8,fun i p d e a b c=>⟨by rw[ai (nt (h9 i p d e a b c).1)];exact(h9 i p d e a b c).1,by rw[k4];exact(h9 i p d e a b c).2⟩⟩⟩,ac,h11⟩
theorem KI.tabl {x:Addr}{xs:List V}{o:HO}{d:Addr}{lk2:LK}(hx:G x=some (.lst xs))(hkc:G kc=some (.dK (clV h.cl)))(t:dc (hide G kc) d ss ns lk2):dc (hide (upd G x o) kc) d ss ns lk2:=by
 have hne:x≠kc:=fun z=>by rw[z,hkc] at hx;cases hx
 rw[nJ hne];exact vQ t (by rw[aW hne];exact hx)
theorem KI.dp {dp2:List (Int×Str×Str×Str)}{ps2:List Addr}(K:KI G lk kc kd kt lo so ns ss h T)(hT:cf G ps2 (dp2.map fun e=>[.int e.1,.str e.2.1,.str e.2.2.1])):KI (upd G kd (.lst (ps2.map V.ref))) lk kc kd kt lo so ns ss { h with dp:=dp2 } T:=by
 obtain⟨⟨h1,h2,h3,⟨ps,h4,h5⟩,⟨qs,ds,h6,h7,h8,h9⟩⟩,h10,h11⟩:=K
 have hne:kc≠kd:=fun z=>by rw[z,h4] at h10;cases h10
 have nt:∀ {x xs},G x=some (.tup xs)→x≠kd:=fun {x xs} e z=>by rw[z,h4] at e;cases e
 exact⟨⟨by rw[ai h11.1];exact h1,by rw[ai h11.2.2.2.2.1];exact h2,.inl (by rw[ai hne];exact h10),⟨ps2,ac,kC hT h4⟩,⟨qs,ds,by rw[ai (Ne.symm h11.2.2.1)];exact h6,h7,h8,fun i p d e a b c=>⟨by rw[ai (nt (h9 i p d e a b c).1)];exact(h9 i p d e a b c).1,KI.tabl h4 h10 (h9 i p d e a b c).2⟩⟩⟩,by rw[ai hne];exact h10,h11⟩
theorem KI.dy {d2:Int}(K:KI G lk kc kd kt lo so ns ss h T):KI (upd G lk (.lst [.ref kc,.ref kd,.ref kt,.int d2,.ref lo])) lk kc kd kt lo so ns ss { h with day:=d2 } T:=by
 obtain⟨⟨h1,h2,h3,⟨ps,h4,h5⟩,⟨qs,ds,h6,h7,h8,h9⟩⟩,h10,h11⟩:=K
 have hne:kc≠lk:=fun z=>by rw[z,h1] at h10;cases h10
 have nt:∀ {x xs},G x=some (.tup xs)→x≠lk:=fun {x xs} e z=>by rw[z,h1] at e;cases e
 exact⟨⟨ac,by rw[ai h11.2.2.2.1];exact h2,.inl (by rw[ai hne];exact h10),⟨ps,by rw[ai (Ne.symm h11.1)];exact h4,kC h5 h1⟩,⟨qs,ds,by rw[ai (Ne.symm h11.2.1)];exact h6,h7,h8,fun i p d e a b c=>⟨by rw[ai (nt (h9 i p d e a b c).1)];exact(h9 i p d e a b c).1,KI.tabl h1 h10 (h9 i p d e a b c).2⟩⟩⟩,by rw[ai hne];exact h10,h11⟩
theorem KI.tb {p d:Addr}{dd:Int}{lk2:LK}{qs ds:List Addr}(K:KI G lk kc kd kt lo so ns ss h T)(hq:G kt=some (.lst (qs.map V.ref)))(hd:ds.length=T.length)(hE:∀ (i:Nat) p d e,qs[i]?=some p→ds[i]?=some d→T[i]?=some e→G p=some (.tup [.int e.1,.ref d])∧dc (hide G kc) d ss ns e.2)(hp:G p=some (.tup [.int dd,.ref d]))(ht:dc (hide G kc) d ss ns lk2):KI (upd G kt (.lst ((qs++[p]).map V.ref))) lk kc kd kt lo so ns ss h (T++[(dd,lk2)]):=by
 obtain⟨⟨h1,h2,h3,⟨ps,h4,h5⟩,⟨qs0,ds0,h6,h7,h8,h9⟩⟩,h10,h11⟩:=K
 have hqe:qs=qs0:=by
   rw[hq] at h6;have:=HO.lst.inj (Option.some.inj h6);exact List.map_inj_right (fun _ _ e=>V.ref.inj e) |>.mp this
 subst hqe
 have hne:kc≠kt:=fun z=>by rw[z,hq] at h10;cases h10
 have nt:∀ {x xs},G x=some (.tup xs)→x≠kt:=fun {x xs} e z=>by rw[z,hq] at e;cases e
 refine⟨⟨by rw[ai h11.2.1];exact h1,by rw[ai h11.2.2.2.2.2];exact h2,.inl (by rw[ai hne];exact h10),⟨ps,by rw[ai h11.2.2.1];exact h4,kC h5 hq⟩,⟨qs++[p],ds++[d],ac,by rw[zP,zP,h7];rfl,by rw[zP,zP,hd];rfl,fun i p' d' e' a b c=>?_⟩⟩,by rw[ai hne];exact h10,h11⟩
 have key:G p'=some (.tup [.int e'.1,.ref d'])∧dc (hide G kc) d' ss ns e'.2:=by
   by_cases hi:i < qs.length
   . rw[zY hi] at a;rw[zY (by omega)] at b c;exact hE i p' d' e' a b c
   . rw[zT (by omega)] at a b c
     have hj0:i - qs.length=0:=by
       have:=(List.getElem?_eq_some_iff.mp a).1;simp only[zV] at this;omega
     rw[hj0] at a;rw[show i - ds.length=0 by omega] at b;rw[show i - T.length=0 by omega] at c;cases a;cases b;cases c;exact⟨hp,ht⟩
 exact⟨by rw[ai (nt key.1)];exact key.1,KI.tabl hq h10 key.2⟩
end
def cX (w:Str):List V:=[.str "refused",.str (zM "ValueError "++w),.int 0]
def iJ:Sp:=fun vs H Q _=>∃ wd:Str,vs=[.str wd]∧wd.length≤100∧∀ t,H t=none→Q (.ref t) (upd H t (.tup [.str "refused",.str (zM "ValueError "++wd),.int 0]))
theorem zG:aw ["_law_word"] ["_law_word"] (ao sNo):=sM
theorem yS {f:Addr}{fd:FuncData}(F:Fun K "_law_no" "_law_no" sNo f fd)
   (T:Txt mg)  :
   aU P w K mg base CX0 1 f fd ["_law_word"] iJ:=by
 refine oq F zG fun cdv A outer s H vs Q E hr h=>?_;obtain⟨wd,rfl,hw,q⟩:=h;refine⟨_,(ah (aq (bQ (aa aA (aa (aH fm aA (pv 0)) (aa ag ae)))))),?_⟩
 try dsimp only[aC,aM]
 have hs:=aK
 have h11:(zM "ValueError ").length=11:=by decide
 walk_at"";exact⟨by rw[h11];omega,by omega,fun p hp=>q p hp⟩
def oY:Sp:=fun vs H Q _=>∃ z:Str,vs=[.str z]∧z.length≤1000∧Q (.bl (a9 z)) H
theorem nE:aw ["_law_text", "_law_sign"] ["_law_text"] (ao l7):=sM
theorem sZ {f:Addr}{fd:FuncData}(F:Fun K "_law_is_name" "_law_is_name" l7 f fd)
   (T:Txt mg)  :
   aU P w K mg base CX0 1 f fd ["_law_text"] oY:=by
 refine oq F nE fun cdv A outer s H vs Q E hr h=>?_;obtain⟨z,rfl,hz,q⟩:=h
 refine⟨_,(aj (aB (PW.pt (d8 (ap cY (al dW (by rfl) T.len zX (aa (pv 0) ae)) ag (ax _)) (cM (ap fw (al dW (by rfl) T.len zX (aa (pv 0) ae)) ag (ax _))))) (ah (aq cw)) am)
   (aj (bC PassesOwn.never rfl (uU (pv 0)) (pN 1 nE.nd) (ah (aB (ap ml (pv 1) aA (by with_unfolding_all rfl)) (ah (aq cw)) am)))
   (ah (aq cw)))),?_⟩
 try dsimp only[aC,aM]
 have hs:=aK
 have hgl:∀ c,c∈z.cps.toList→inL c=false→a9 z=false:=fun c hc h=>by
   cases hg:a9 z with
   | false=>rfl
   | true =>
     unfold a9 at hg;rw[Bool.and_eq_true] at hg;have:=List.all_eq_true.mp hg.2 c hc;rw[h] at this;cases this
 refine au (fun σ' H'=>σ'=[some (.str z),none]∧H'=H∧1≤z.length∧z.length≤8) (fun R hR=>?_) ?_
 . have gf:¬(1≤z.length∧z.length≤8)→a9 z=false:=fun h=>by
     cases hg:a9 z with
     | false=>rfl
     | true =>
       unfold a9 at hg;rw[Bool.and_eq_true,Bool.and_eq_true] at hg;exact absurd ⟨of_decide_eq_true hg.1.1,of_decide_eq_true hg.1.2⟩ h
   walk_at"";exact⟨by omega,ay (fun h=>by rw[←gf (by omega)];exact q) (fun h=>⟨by omega,ay (fun h'=>by rw[←gf (by omega)];exact q) (fun h'=>hR _ _ ⟨rfl,rfl,by omega,by omega⟩)⟩)⟩
 rintro σ1 H1 ⟨rfl,rfl,h1,h8⟩;refine au (fun σ' H'=>∃ o,σ'=[some (.str z),o]∧H'=H1∧a9 z=true) (fun R hR=>?_) ?_
 . walk_at"";refine bi (H0:=H1) jf (fun i σ' H'=>∃ o,σ'=[some (.str z),o]∧H'=H1∧(z.cps.toList.take i).all inL=true) ⟨none,rfl,rfl,rfl⟩ (fun _ _ _ _ ⟨_,_,h,_⟩=>h▸af.refl _) ?_ ?_
   . rintro i x σ H' hi ⟨c,hc,rfl⟩ ⟨o,rfl,rfl,hp⟩ R2 hR2
     have hc':z.cps.toList[i]?=some c:=by simpa using hc
     have e:inL c=!(Builtin.Str.occurrences (zM "abcdefghijklmnopqrstuvwxyz") ⟨#[c]⟩ 0 (zM "abcdefghijklmnopqrstuvwxyz").length 1).isEmpty:=rfl;walk_at"";rw[←e];exact ay (fun h=>by rw[←hgl c (zS hc') h];exact q) (fun h=>hR2 _ _ ⟨_,rfl,rfl,by rw[bu hc',List.all_append,hp];simp[Bool.of_not_eq_false h]⟩)
   . rintro σ H' ⟨o,rfl,rfl,hp⟩;rw[show z.cps.size=z.cps.toList.length from Array.length_toList.symm,AI] at hp;refine hR _ _ ⟨o,rfl,rfl,?_⟩;unfold a9;rw[decide_eq_true h1,decide_eq_true h8,hp];rfl
 rintro σ2 H2 ⟨o,rfl,rfl,hg⟩;walk_at"";rw[←hg];exact q
def jI:Sp:=fun vs H Q _=>∃ (F:Addr→Bool)(lk kc kd kt lo:Addr)(so ns ss:List Str) (h:Hs)(Tb:List (Int×LK)) (c z:Str),vs=[.ref lk,.str c,.str z]∧KI (bj F H) lk kc kd kt lo so ns ss h Tb∧eS F H∧bH ss ns h∧Shw c∧h.cl.length≤60∧(∀ t H' w,((a9 c=false∧w=zM "BadName")∨(a9 c=true∧c∈h.cl.map (·.1)∧w=zM "Known")∨(a9 c=true∧c∉h.cl.map (·.1)∧z∉so∧w=zM "NoShade"))→af H H'→H t=none→H' t=some (.tup (cX w))→Q (.ref t) H')∧(a9 c=true→c∉h.cl.map (·.1)→z∈so→∀ H',Owx [lk,kc,kd,kt] H H'→KI (bj F H') lk kc kd kt lo so ns ss { h with cl:=h.cl++[(c,z)] } Tb→Q .non H')
theorem pW:aw ["_law_kept", "_law_cloth", "_law_shade"] ["_law_kept", "_law_cloth", "_law_shade"] (ao iI):=sM
theorem nS {f fIs fNw:Addr}{fd fdIs fdNw:FuncData}(F:Fun K "_law_bring_due" "_law_bring_due" iI f fd)
   (T:Txt mg)
   (GIs:Cl P w K mg base CX0 1 "_law_is_name" ["_law_text"] oY fIs fdIs)
   (GNw:Cl P w K mg base CX0 1 "_law_no" ["_law_word"] iJ fNw fdNw) :
   aU P w K mg base CX0 2 f fd ["_law_kept", "_law_cloth", "_law_shade"] jI:=by
 refine oq F pW fun cdv A outer s H vs Q E hr h=>?_;obtain⟨F,lk,kc,kd,kt,lo,so,ns,ss,h,Tb,c,z,rfl,K0,oF,ho,hc,hcl,q1,q2⟩:=h;have hu:=eA hr;have hr1:=hr.mono (j:=1) (by omega)
 refine⟨_,(aj (aB (bV (bE (pC GIs hr1 az (aa (pv 1) ae)))) (ah (aq (pC GNw hr1 az (aa aA ae)))) am)
   (aj (aB (fc (uS hu (pv 1) (pI ak (pv 0) ag))) (ah (aq (pC GNw hr1 az (aa aA ae)))) am)
   (aj (aB (ap cD (pv 2) (pI ak (pv 0) ag) (by with_unfolding_all rfl)) (ah (aq (pC GNw hr1 az (aa aA ae)))) am)
   (aj (dE hu (pI ak (pv 0) ag) (pv 1) (pv 2) rfl)
   (ah (aq jL)))))),?_⟩
 try dsimp only[aC,aM]
 have hs:=aK;have up:=ar (F:=F) (H:=H);have KR0:=K0.r
 have hcll:(clV h.cl).length=h.cl.length:=by unfold clV;rw[be]
 refine au (fun σ' H'=>a9 c=true∧σ'=[some (.ref lk),some (.str c),some (.str z)]∧H'=H) (fun R hR=>?_) ?_
 . walk_at"";exact⟨c,rfl,hc.1,_,rfl,ay (fun hg=>⟨_,rfl,by decide,fun t ht=>q1 t _ _ (.inl ⟨hg,rfl⟩) (af.updN ht) ht ac⟩) (fun hg=>hR _ _ ⟨by cases hb:a9 c<;>first | rfl | exact absurd hb hg,rfl,rfl⟩)⟩
 rintro σ1 H1 ⟨hg,rfl,rfl⟩;refine au (fun σ' H'=>c∉h.cl.map (·.1)∧σ'=[some (.ref lk),some (.str c),some (.str z)]∧H'=H1) (fun R hR=>?_) ?_
 . walk_at"";by_cases hm:c∈h.cl.map (·.1)
   . obtain⟨z0,hv⟩:∃ z0,bG (clV h.cl) (Sum.inr c)=some (V.str z0):=by
       obtain⟨x,hx,rfl⟩:=List.mem_map.mp hm;exact⟨x.2,eo ho.cnd hx⟩
     exact⟨_,SqL.of (up _ _ KR0.hlk),_,rfl,kc,rfl,some _,.inl ⟨_,Sum.inr c,af.rd up KR0.hkc,rfl,hv.symm⟩,ay (fun _=>⟨_,rfl,by decide,fun t ht=>q1 t _ _ (.inr (.inl ⟨hg,hm,rfl⟩)) (af.updN ht) ht ac⟩) (fun h=>absurd rfl h)⟩
   . exact⟨_,SqL.of (up _ _ KR0.hlk),_,rfl,kc,rfl,none,.inl ⟨_,Sum.inr c,af.rd up KR0.hkc,rfl,(bL hm).symm⟩,ay (fun h=>by cases h) (fun _=>hR _ _ ⟨hm,rfl,rfl⟩)⟩
 rintro σ2 H2 ⟨hcn,rfl,rfl⟩;refine au (fun σ' H'=>z∈so∧σ'=[some (.ref lk),some (.str c),some (.str z)]∧H'=H2) (fun R hR=>?_) ?_
 . walk_at"";refine⟨_,SqL.of (up _ _ KR0.hlk),_,rfl,lo,rfl,_,.inl (SqL.of (up _ _ KR0.hlo)),rfl,cR so,ay (fun hn=>?_) (fun hn=>hR _ _ ⟨?_,rfl,rfl⟩)⟩
   . rw[cZ,decide_eq_false_iff_not] at hn;exact⟨_,rfl,by decide,fun t ht=>q1 t _ _ (.inr (.inr ⟨hg,hcn,hn,rfl⟩)) (af.updN ht) ht ac⟩
   . rw[cZ,decide_eq_false_iff_not] at hn;exact Classical.not_not.mp hn
 rintro σ3 H3 ⟨hzs,rfl,rfl⟩;refine au (fun σ' H'=>σ'=[some (.ref lk),some (.str c),some (.str z)]∧H'=upd H3 kc (.dK (clV (h.cl++[(c,z)])))) (fun R hR=>?_) ?_
 . walk_at"";refine⟨_,SqL.of (up _ _ KR0.hlk),_,rfl,kc,rfl,_,.inl ⟨_,Sum.inr c,up _ _ K0.kcx,rfl,by rw[hcll];omega,rfl⟩,hR _ _ ⟨rfl,?_⟩⟩;rw[da _ (bL hcn)];unfold clV;rw[zU];rfl
 rintro σ4 H4 ⟨rfl,rfl⟩;walk_at"";have hf:=(aQ K0.kcx).2;exact q2 hg hcn hzs _ (Owx.upd (by simp)) (by rw[dz hf];exact K0.cl)
theorem gy {kvs:List (Key×V)}{k:Key}:(bG kvs k).isSome=true↔k∈kvs.map (·.1):=by
 rw[←ef,List.any_eq_true];exact⟨fun⟨x,hx,he⟩=>by rw[←of_decide_eq_true he];exact Ao hx,fun h=>by obtain⟨x,hx,rfl⟩:=List.mem_map.mp h;exact⟨x,hx,decide_eq_true rfl⟩⟩
theorem fM.dip {ss ns:List Str}{h:Hs}(HR:fM h)(ho:bH ss ns h){c b:Str}{d:Int}(hge:h.day≤d):fM { h with day:=d,dp:=h.dp++[(d,c,b,lkB (aR h.bk d).1 (aR h.bk d).2 b (aV h c d))] }:=by
 refine⟨?_,fun i e he=>?_⟩
 . show(h.dp++[_]).Pairwise _;rw[Bx];exact⟨HR.srt,Bp _ _,fun x hx y hy=>by rw[List.mem_singleton.mp hy];exact Cq (ho.dd x hx).2 hge⟩
 . show e.2.2.2=lkB (aR h.bk e.1).1 (aR h.bk e.1).2 e.2.2.1 (aV { h with dp:=(h.dp++[_]).take i } e.2.1 e.1);have he':(h.dp++[(d,c,b,lkB (aR h.bk d).1 (aR h.bk d).2 b (aV h c d))])[i]?=some e:=he;by_cases hi:i < h.dp.length
   . rw[zY hi] at he';rw[List.take_append_of_le_length (by omega)];exact HR.out i e he'
   . rw[zT (by omega)] at he'
     have hj0:i - h.dp.length=0:=by
       have:=(List.getElem?_eq_some_iff.mp he').1;simp only[zV] at this;omega
     rw[hj0] at he';cases he'
     have:i=h.dp.length:=by omega
     subst this;rw[List.take_left]
def nN:Sp:=fun vs H Q _=>∃ (F:Addr→Bool)(lk kc kd kt lo:Addr)(so ns ss:List Str) (h:Hs)(Tb:List (Int×LK)) (c b:Str) (d:Int),vs=[.ref lk,.str c,.str b,.int d]∧KI (bj F H) lk kc kd kt lo so ns ss h Tb∧eS F H∧TOk ss ns h Tb∧fM h∧bH ss ns h∧(∀ e∈h.dp,e.2.2.1∈ns)∧h.dp.length < 1000∧(∀ t H' w,((c∉h.cl.map (·.1)∧w=zM "NoCloth")∨(c∈h.cl.map (·.1)∧b∉ns∧w=zM "NoBath")∨(c∈h.cl.map (·.1)∧b∈ns∧¬(1≤d∧d≤400)∧w=zM "NoDay")∨(c∈h.cl.map (·.1)∧b∈ns∧(1≤d∧d≤400)∧d < h.day∧w=zM "Late"))→af H H'→H t=none→H' t=some (.tup (cX w))→Q (.ref t) H')∧(c∈h.cl.map (·.1)→b∈ns→(1≤d∧d≤400)→h.day≤d→∀ o,lkB (aR h.bk d).1 (aR h.bk d).2 b (aV h c d)=o→∀ H',Owx [lk,kc,kd,kt] H H'→KI (bj F H') lk kc kd kt lo so ns ss { h with day:=d,dp:=h.dp++[(d,c,b,o)] } Tb→Q (.str o) H')
theorem u0:aw ["_law_kept", "_law_cloth", "_law_bath", "_law_day_here"] ["_law_kept", "_law_cloth", "_law_bath", "_law_day_here"] (ao ng):=sM
theorem sY {f fNw fSD:Addr}{fd fdNw fdSD:FuncData}(F:Fun K "_law_dip_due" "_law_dip_due" ng f fd)
   (T:Txt mg)
   (GNw:Cl P w K mg base CX0 1 "_law_no" ["_law_word"] iJ fNw fdNw)
   (GSD:Cl P w K mg base CX0 3 "_law_shade_due" ["_law_kept", "_law_cloth", "_law_day_here"] fr fSD fdSD) :
   aU P w K mg base CX0 4 f fd ["_law_kept", "_law_cloth", "_law_bath", "_law_day_here"] nN:=by
 refine oq F u0 fun cdv A outer s H vs Q E hr h=>?_;obtain⟨F,lk,kc,kd,kt,lo,so,ns,ss,h,Tb,c,b,d,rfl,K0,oF,TO,HR,ho,hbn,hdl,q1,q2⟩:=h;have hu:=eA hr;have hr1:=hr.mono (j:=1) (by omega);have hr3:=hr.mono (j:=3) (by omega)
 refine⟨_,(aj (aB (fc (dA hu (pv 1) (pI ak (pv 0) ag))) (ah (aq (pC GNw hr1 az (aa aA ae)))) am)
   (aj (aB (fc (dA hu (pv 2) (pI aJ (pI ak (pI ak (pv 0) ag) ag) ag))) (ah (aq (pC GNw hr1 az (aa aA ae)))) am)
   (aj (aB (PW.pt (d8 (ap cY (pv 3) ag (ax _)) (cM (ap fw (pv 3) ag (ax _))))) (ah (aq (pC GNw hr1 az (aa aA ae)))) am)
   (aj (aB (ap cY (pv 3) (pI ak (pv 0) ag) (ax _)) (ah (aq (pC GNw hr1 az (aa aA ae)))) am)
   (aj (aP (eW Ap AA AB bR (pI ak (pv 0) ag) (aa (bQ (aa (pv 3) (aa (pv 1) (aa (pv 2) ae)))) ae)))
   (aj (mF (pv 3) (pL (pv 0) ag kq))
   (ah (aq (pC GSD hr3 az (aa (pv 0) (aa (pv 1) (aa (pv 3) ae)))))))))))),?_⟩
 try dsimp only[aC,aM]
 have hs:=aK;have up:=ar (F:=F) (H:=H);have KR0:=K0.r;refine au (fun σ' H'=>c∈h.cl.map (·.1)∧σ'=[some (.ref lk),some (.str c),some (.str b),some (.int d)]∧H'=H) (fun R hR=>?_) ?_
 . walk_at"";by_cases hm:c∈h.cl.map (·.1)
   . obtain⟨z0,hv⟩:∃ z0,bG (clV h.cl) (Sum.inr c)=some (V.str z0):=by
       obtain⟨x,hx,rfl⟩:=List.mem_map.mp hm;exact⟨x.2,eo ho.cnd hx⟩
     exact⟨_,SqL.of (up _ _ KR0.hlk),_,rfl,kc,rfl,some _,.inl ⟨_,Sum.inr c,af.rd up KR0.hkc,rfl,hv.symm⟩,ay (fun h=>by cases h) (fun _=>hR _ _ ⟨hm,rfl,rfl⟩)⟩
   . exact⟨_,SqL.of (up _ _ KR0.hlk),_,rfl,kc,rfl,none,.inl ⟨_,Sum.inr c,af.rd up KR0.hkc,rfl,(bL hm).symm⟩,ay (fun _=>⟨_,rfl,by decide,fun t ht=>q1 t _ _ (.inl ⟨hm,rfl⟩) (af.updN ht) ht ac⟩) (fun h=>absurd rfl h)⟩
 rintro σ1 H1 ⟨hcm,rfl,rfl⟩;refine au (fun σ' H'=>b∈ns∧σ'=[some (.ref lk),some (.str c),some (.str b),some (.int d)]∧H'=H1) (fun R hR=>?_) ?_
 . obtain⟨ps,ds,hkt,hpl,hdl,hE⟩:=KR0.hkt;obtain⟨e0,Tr,hTe⟩:=TO.t0
   have hp0:0 < ps.length:=by rw[hpl,hTe];exact CG _
   obtain⟨p0,hp0'⟩:∃ p,ps[0]?=some p:=⟨_,zN hp0⟩;obtain⟨d0,hd0'⟩:∃ d,ds[0]?=some d:=⟨_,zN (by omega)⟩;obtain⟨ht0,hG0⟩:=hE 0 p0 d0 e0 hp0' hd0' (by rw[hTe];rfl);obtain⟨kvs,hRd,hkeys,_⟩:=Fz.tabG (af.fz (bK.trans up)) hG0
   have hiff:(bG kvs (Sum.inr b)).isSome=true↔b∈ns:=by
     rw[gy,hkeys];exact⟨fun h=>by obtain⟨x,hx,e⟩:=List.mem_map.mp h;cases e;exact hx,fun h=>Ao h⟩
   walk_at"";refine⟨_,SqL.of (up _ _ KR0.hlk),_,rfl,kt,rfl,_,SqL.of (up _ _ hkt),_,bT (j:=0) (by rw[zO,hp0'];rfl),p0,rfl,_,SqT.of (up _ _ ht0),_,rfl,d0,rfl,_,.inl ⟨_,Sum.inr b,hRd,rfl,rfl⟩,ay (fun hn=>?_) (fun hn=>hR _ _ ⟨hiff.mp (by cases hb:(bG kvs (Sum.inr b)).isSome<;>first | rfl | exact absurd hb hn),rfl,rfl⟩)⟩;exact⟨_,rfl,by decide,fun t ht=>q1 t _ _ (.inr (.inl ⟨hcm,(fun hb=>by rw[hiff.mpr hb] at hn;cases hn),rfl⟩)) (af.updN ht) ht ac⟩
 rintro σ2 H2 ⟨hbm,rfl,rfl⟩;refine au (fun σ' H'=>(1≤d∧d≤400)∧σ'=[some (.ref lk),some (.str c),some (.str b),some (.int d)]∧H'=H2) (fun R hR=>?_) ?_
 . walk_at"";have hbad:¬(1≤d∧d≤400)→iJ [V.str (zM "NoDay")] H2 Q E0:=fun hn=>⟨_,rfl,by decide,fun t ht=>q1 t _ _ (.inr (.inr (.inl ⟨hcm,hbm,hn,rfl⟩))) (af.updN ht) ht ac⟩;exact ay (fun h=>hbad (by omega)) (fun h1=>ay (fun h=>hbad (by omega)) (fun h2=>hR _ _ ⟨by omega,rfl,rfl⟩))
 rintro σ3 H3 ⟨hday,rfl,rfl⟩;refine au (fun σ' H'=>h.day≤d∧σ'=[some (.ref lk),some (.str c),some (.str b),some (.int d)]∧H'=H3) (fun R hR=>?_) ?_
 . walk_at"";exact⟨_,SqL.of (up _ _ KR0.hlk),_,rfl,_,rfl,ay (fun hl=>⟨_,rfl,by decide,fun t ht=>q1 t _ _ (.inr (.inr (.inr ⟨hcm,hbm,hday,hl,rfl⟩))) (af.updN ht) ht ac⟩) (fun hl=>hR _ _ ⟨by omega,rfl,rfl⟩)⟩
 rintro σ4 H4 ⟨hge,rfl,rfl⟩;obtain⟨ps,hkd,hT⟩:=KR0.hkd;have hpl:=hT.1;rw[be] at hpl;refine au (fun σ' H'=>∃ p,H4 p=none∧σ'=[some (.ref lk),some (.str c),some (.str b),some (.int d)]∧H'=upd (upd H4 p (.tup [.int d,.str c,.str b])) kd (.lst ((ps++[p]).map V.ref))) (fun R hR=>?_) ?_
 . walk_at"";refine⟨_,SqL.of (up _ _ KR0.hlk),_,rfl,.inl ⟨rfl,_,SqL.of (up _ _ hkd)⟩,by omega,fun p hp=>⟨kd,rfl,_,by rw[ai (aF (up _ _ hkd) hp)];exact up _ _ hkd,by rw[be];omega,hR _ _ ⟨p,hp,rfl,?_⟩⟩⟩;rw[zU];rfl
 rintro σ5 H5 ⟨p,hp,rfl,rfl⟩;obtain⟨o,hoe⟩:∃ o,lkB (aR h.bk d).1 (aR h.bk d).2 b (aV h c d)=o:=⟨_,rfl⟩
 have hos:o∈ss:=by
   obtain⟨Bd,hNd,hZd⟩:=ho.on d;rw[←hoe];exact(hZd _).mp (rF Bd b ((hNd b).mpr hbm) _ ((hZd _).mpr (gH ho hcm d)))
 have Sp:af H4 (upd H4 p (.tup [.int d,.str c,.str b])):=af.updN hp;have fkd:=(aQ hkd).2;have flk:=(aQ KR0.hlk).2;have fp:=oF.new hp
 have K1:=(K0.same (aO Sp)).dp (dp2:=h.dp++[(d,c,b,o)]) (ps2:=ps++[p]) (by
   rw[zU]
   exact(hT.same (aO Sp)).snoc (cj ac fp))
 rw[←dz fkd] at K1;generalize hH5:upd (upd H4 p (.tup [.int d,.str c,.str b])) kd (.lst ((ps++[p]).map V.ref))=H5 at *
 have O5:Owx [lk,kc,kd,kt] H4 H5:=by rw[←hH5];exact(Owx.same Sp).trans (Owx.upd (by simp))
 refine au (fun σ' H'=>σ'=[some (.ref lk),some (.str c),some (.str b),some (.int d)]∧H'=upd H5 lk (.lst [.ref kc,.ref kd,.ref kt,.int d,.ref lo])) (fun R hR=>?_) ?_
 . walk_at"";exact⟨_,ar _ _ K1.r.hlk,3,(by show ixN 5 3=some 3;decide),hR _ _ ⟨rfl,rfl⟩⟩
 rintro σ6 H6 ⟨rfl,rfl⟩;have K2:=K1.dy (d2:=d);rw[←dz flk] at K2;have O6:Owx [lk,kc,kd,kt] H4 (upd H5 lk (.lst [.ref kc,.ref kd,.ref kt,.int d,.ref lo])):=O5.trans (Owx.upd (by simp));generalize upd H5 lk (.lst [.ref kc,.ref kd,.ref kt,.int d,.ref lo])=H6 at *;have ho6:bH ss ns { h with day:=d,dp:=h.dp++[(d,c,b,o)] }:=ho.dip hday hge hdl hos
 have HR6:fM { h with day:=d,dp:=h.dp++[(d,c,b,o)] }:=by rw[←hoe];exact HR.dip ho hge
 walk_at"";refine⟨lk,kc,kd,kt,lo,so,ns,ss,_,Tb,c,d,rfl,K2.r.same ar,⟨TO.t0,TO.to,TO.tl⟩,HR6,ho6,fun e he=>?_,hcm,fun H' S=>?_⟩
 . rcases List.mem_append.mp he with he | he
   . exact hbn e he
   . rw[List.mem_singleton.mp he];exact hbm
 . rw[show aV { h with day:=d,dp:=h.dp++[(d,c,b,o)] } c d=o from by rw[jh,if_pos ⟨rfl,BA _⟩]];exact q2 hcm hbm hday hge o hoe H' (O6.trans (Owx.same S)) (K2.same (aO S))
theorem fM.last {ss ns:List Str}{h:Hs}(HR:fM h)(ho:bH ss ns h){d:Int}(hge:h.day≤d)(hne:bf h.dp d≠[]):∃ dp0 e0,h.dp=dp0++[e0]∧e0.1=d:=by
 obtain⟨x,hx,hxd⟩:∃ x∈h.dp,x.1=d:=by
   cases hf:h.dp.filter (fun e=>decide (e.1=d)) with
   | nil=>exact absurd (by unfold bf;rw[hf];rfl) hne
   | cons x r =>
     have:=List.mem_filter.mp (hf▸zZ:x∈h.dp.filter _);exact⟨x,this.1,of_decide_eq_true this.2⟩
 have hdn:h.dp≠[]:=fun e=>by rw[e] at hx;cases hx
 refine⟨h.dp.dropLast,h.dp.getLast hdn,(Ah hdn).symm,?_⟩;have h1:=(ho.dd _ (List.getLast_mem hdn)).2;have e:h.dp=h.dp.dropLast++[h.dp.getLast hdn]:=(Ah hdn).symm;have h2:=HR.srt;rw[e,Bx] at h2;rw[e] at hx
 rcases List.mem_append.mp hx with hx | hx
 . have:=h2.2.2 x hx _ zZ;omega
 . rw[←List.mem_singleton.mp hx];exact hxd
theorem oZ {n:Nat}{p:Nat→Bool}(h:p n=true):∃ l,(zW (n+1)).filter p=l++[n]:=by
 rw[Bg,AW,AZ h];exact⟨_,rfl⟩
theorem jV {dp:List (Int×Str×Str×Str)}{d:Int}:(zW dp.length).filter (fun i=>decide ((dp.getD i d0).1=d))=[]↔bf dp d=[]:=by
 unfold bf;rw[List.map_eq_nil_iff,BP,BP];constructor
 . intro h x hx;obtain⟨i,hi⟩:=AJ hx;have:=h i (List.mem_range.mpr (List.getElem?_eq_some_iff.mp hi).1);rw[zQ,hi] at this;exact this
 . intro h i hi;have hl:=List.mem_range.mp hi;rw[zQ,zN hl];exact h _ (AR hl)
def lw:Sp:=fun vs H Q _=>∃ (F:Addr→Bool)(lk kc kd kt lo:Addr)(so ns ss:List Str) (h:Hs)(Tb:List (Int×LK)) (d:Int),vs=[.ref lk,.int d]∧KI (bj F H) lk kc kd kt lo so ns ss h Tb∧eS F H∧fM h∧bH ss ns h∧(∀ t H' w,((¬(1≤d∧d≤400)∧w=zM "NoDay")∨((1≤d∧d≤400)∧d < h.day∧w=zM "Late")∨((1≤d∧d≤400)∧h.day≤d∧bf h.dp d=[]∧w=zM "NoDip"))→af H H'→H t=none→H' t=some (.tup (cX w))→Q (.ref t) H')∧((1≤d∧d≤400)→h.day≤d→∀ e,(bf h.dp d).getLast?=some e→∀ t H',Owx [lk,kc,kd,kt] H H'→H' t=some (.tup [.str e.1,.str e.2])→KI (bj F H') lk kc kd kt lo so ns ss { h with dp:=h.dp.dropLast } Tb→Q (.ref t) H')
theorem ip:aw ["_law_kept", "_law_day_here", "_law_spots", "_law_taken"] ["_law_kept", "_law_day_here"] (ao jO):=sM
theorem qB {f fNw:Addr}{fd fdNw:FuncData}(F:Fun K "_law_back_due" "_law_back_due" jO f fd)
   (T:Txt mg)
   (GNw:Cl P w K mg base CX0 1 "_law_no" ["_law_word"] iJ fNw fdNw) :
   aU P w K mg base CX0 2 f fd ["_law_kept", "_law_day_here"] lw:=by
 refine oq F ip fun cdv A outer s H vs Q E hr h=>?_;obtain⟨F,lk,kc,kd,kt,lo,so,ns,ss,h,Tb,d,rfl,K0,oF,HR,ho,q1,q2⟩:=h;have hu:=eA hr;have hr1:=hr.mono (j:=1) (by omega)
 refine⟨_,(aj (aB (PW.pt (d8 (ap cY (pv 1) ag (ax _)) (cM (ap fw (pv 1) ag (ax _))))) (ah (aq (pC GNw hr1 az (aa aA ae)))) am)
   (aj (aB (ap cY (pv 1) (pI ak (pv 0) ag) (ax _)) (ah (aq (pC GNw hr1 az (aa aA ae)))) am)
   (aj (vo (i:=2) (N':=["_law_k", "_law_kept", "_law_day_here"]) (pk:=[none,some 0,some 1]) ip.nd rfl (Or.inl rfl) rfl (bW.of (by rfl)) (cc rfl T.range (aa (al av (by rfl) T.len zX (aa (pI ak (pv 0) ag) ae)) ae)) (fun s H ex=>(pN 0 (by show(["_law_k", "_law_kept", "_law_day_here"]:List Str).Nodup;decide))) (fun s H ex=>(ap bM (pI (aJ:IxR _ (px K)) (pI (ak:IxR _ (hV K)) (pI (ak:IxR _ (hV K)) (pv 1) ag) (pv 0)) ag) (pv 2) (ax _))) (fun s H ex=>(pv 0)))
   (aj (aB (ap (vE (BO hu)) (pv 2) (bo ae) (ax _)) (ah (aq (pC GNw hr1 az (aa aA ae)))) am)
   (aj (pS 3 ip.nd (eW Ap PySem.F.slot_list_pop PySem.F.type_list_pop uW (pI ak (pv 0) ag) (aa (pI ak (pv 2) (eG dj ag)) ae)))
   (ah (aq (bQ (aa (pI aJ (pv 3) ag) (aa (pI aJ (pv 3) ag) ae)))))))))),?_⟩
 try dsimp only[aC,aM]
 have hs:=aK;have up:=ar (F:=F) (H:=H);have KR0:=K0.r;refine au (fun σ' H'=>(1≤d∧d≤400)∧σ'=[some (.ref lk),some (.int d),none,none]∧H'=H) (fun R hR=>?_) ?_
 . walk_at"";have hbad:¬(1≤d∧d≤400)→iJ [V.str (zM "NoDay")] H Q E0:=fun hn=>⟨_,rfl,by decide,fun t ht=>q1 t _ _ (.inl ⟨hn,rfl⟩) (af.updN ht) ht ac⟩;exact ay (fun h=>hbad (by omega)) (fun h1=>ay (fun h=>hbad (by omega)) (fun h2=>hR _ _ ⟨by omega,rfl,rfl⟩))
 rintro σ3 H3 ⟨hday,rfl,rfl⟩;refine au (fun σ' H'=>h.day≤d∧σ'=[some (.ref lk),some (.int d),none,none]∧H'=H3) (fun R hR=>?_) ?_
 . walk_at"";exact⟨_,SqL.of (up _ _ KR0.hlk),_,rfl,_,rfl,ay (fun hl=>⟨_,rfl,by decide,fun t ht=>q1 t _ _ (.inr (.inl ⟨hday,hl,rfl⟩)) (af.updN ht) ht ac⟩) (fun hl=>hR _ _ ⟨by omega,rfl,rfl⟩)⟩
 rintro σ4 H4 ⟨hge,rfl,rfl⟩;obtain⟨ps,hkd,hT⟩:=KR0.hkd;have hpl:=hT.1;rw[be] at hpl;have hdl:=ho.dl;refine au (fun σ' H'=>∃ ls,H4 ls=none∧σ'=[some (.ref lk),some (.int d),some (.ref ls),none]∧H'=upd H4 ls (.lst (((zW h.dp.length).filter (fun i=>decide ((h.dp.getD i d0).1=d))).map fun i:Nat=>V.int (i:Int)))) (fun R hR=>?_) ?_
 . walk_at"";refine⟨_,SqL.of (up _ _ KR0.hlk),_,rfl,kd,rfl,_,.inl (SqL.of (up _ _ hkd)),by rw[be];omega,by rw[be];omega,fun D hD=>?_⟩;rw[be,Au,hpl];refine fh (br (n:=h.dp.length)) (by omega) hD (fun σ=>∃ o,σ=[o,some (.ref lk),some (.int d)]) (fun i=>decide ((h.dp.getD i d0).1=d)) (fun i=>V.int (i:Int)) ⟨none,rfl⟩ ?_ (hR _ _ ⟨D,hD,rfl,rfl⟩);rintro i x σ' H' hi rfl ⟨o,rfl⟩ hS R1 R0 h1 h0
   have ei:(0:Int)+(i:Int)=i:=by omega
   rw[ei];obtain⟨e,he⟩:∃ e,h.dp[i]?=some e:=⟨_,zN hi⟩;obtain⟨p,hp⟩:∃ p,ps[i]?=some p:=⟨_,zN (by omega)⟩;have ht:=hS _ _ (up _ _ (hT.2 i p _ hp (by rw[zO,he];rfl)))
   have eg:h.dp.getD i d0=e:=by rw[zQ,he];rfl
   simp only[eg] at h1 h0;walk_at"";refine⟨_,SqL.of (hS _ _ (up _ _ KR0.hlk)),_,rfl,kd,rfl,_,SqL.of (hS _ _ (up _ _ hkd)),_,bT (by rw[zO,hp];rfl),p,rfl,_,SqT.of ht,_,rfl,rfl,ay (fun he=>h1 (decide_eq_true (V.int.inj he)) _ ⟨_,rfl⟩) (fun he=>h0 (decide_eq_false (fun k=>he (by rw[k]))) _ ⟨_,rfl⟩)⟩
 rintro σ5 H5 ⟨ls,hls,rfl,rfl⟩;have S5:=af.updN (o:=.lst (((zW h.dp.length).filter (fun i=>decide ((h.dp.getD i d0).1=d))).map fun i:Nat=>V.int (i:Int))) hls;have hls5:upd H4 ls (.lst (((zW h.dp.length).filter (fun i=>decide ((h.dp.getD i d0).1=d))).map fun i:Nat=>V.int (i:Int))) ls=some (.lst (((zW h.dp.length).filter (fun i=>decide ((h.dp.getD i d0).1=d))).map fun i:Nat=>V.int (i:Int))):=ac;have fls:=oF.new hls;generalize hH5:upd H4 ls (.lst (((zW h.dp.length).filter (fun i=>decide ((h.dp.getD i d0).1=d))).map fun i:Nat=>V.int (i:Int)))=H5 at *;have K5:=K0.same (aO S5);refine au (fun σ' H'=>bf h.dp d≠[]∧σ'=[some (.ref lk),some (.int d),some (.ref ls),none]∧af H5 H') (fun R hR=>?_) ?_
 . walk_at"";refine⟨by omega,fun p hp=>?_⟩;have Sp:=af.updN (o:=.lst []) hp;refine⟨_,SqL.of (Sp _ _ hls5),[],SqL.of ac,.inl ⟨by rw[List.all_eq_true];intro x hx;obtain⟨y,_,rfl⟩:=List.mem_map.mp hx;rfl,rfl⟩,?_⟩;rw[gO];by_cases hne:bf h.dp d=[]
   . rw[jV.mpr hne,Bl,if_pos (by decide)];exact⟨_,rfl,by decide,fun t ht=>q1 t _ _ (.inr (.inr ⟨hday,hge,hne,rfl⟩)) ((S5.trans Sp).trans (af.updN ht)) ((S5.trans Sp).free ht) ac⟩
   . rw[if_neg (by rw[decide_eq_false (fun e=>hne (jV.mp (List.map_eq_nil_iff.mp e)))];decide)];exact hR _ _ ⟨hne,rfl,Sp⟩
 rintro σ6 H6 ⟨hne,rfl,S6⟩;have K6:=K5.same (aO S6);have oF6:=(oF.same S5).same S6;have hls6:=S6 _ _ hls5;obtain⟨dp0,e0,hdp,he0⟩:∃ dp0 e0,h.dp=dp0++[e0]∧e0.1=d:=HR.last ho hge hne;have hkd6:=(aO (S5.trans S6)) _ _ hkd
 have hpe:ps≠[]:=fun e=>by rw[e,hdp] at hpl;simp at hpl
 obtain⟨ps0,p0,rfl⟩:∃ s q,ps=s++[q]:=⟨_,_,(Ah hpe).symm⟩
 have hpl0:ps0.length=dp0.length:=by
   rw[hdp,zP,zP] at hpl
   simpa using hpl
 have ht0:bj F H4 p0=some (.tup [.int e0.1,.str e0.2.1,.str e0.2.2.1]):=hT.2 ps0.length p0 _ (by rw[zT (zR _),AC];rfl) (by rw[hdp,zU,zT (by rw[be,hpl0];exact zR _),be,hpl0,AC];rfl);have hT0:cf (bj F H4) ps0 (dp0.map fun e=>[.int e.1,.str e.2.1,.str e.2.2.1]):=⟨by rw[be,hpl0],fun i p e hp he=>hT.2 i p e (by rw[zY (List.getElem?_eq_some_iff.mp hp).1];exact hp) (by rw[hdp,zU,zY (List.getElem?_eq_some_iff.mp he).1];exact he)⟩;have SS:=aO (F:=F) (S5.trans S6);have fkd:=(aQ hkd).2;refine au (fun σ' H'=>σ'=[some (.ref lk),some (.int d),some (.ref ls),some (.ref p0)]∧H'=upd H6 kd (.lst (ps0.map V.ref))) (fun R hR=>?_) ?_
 . walk_at""
   obtain⟨ll,hll⟩:=oZ (n:=dp0.length) (p:=fun i=>decide ((h.dp.getD i d0).1=d)) (by
     rw[hdp,zQ,zT (zR _),AC]
     exact decide_eq_true he0)
   have hdl1:h.dp.length=dp0.length+1:=by rw[hdp,zP];rfl
   have hsl:atI (((zW h.dp.length).filter (fun i=>decide ((h.dp.getD i d0).1=d))).map fun i:Nat=>V.int (i:Int)) (-1)=some (V.int (dp0.length:Int)):=by
     rw[hdl1,hll,zU];exact eX _ _
   refine⟨_,SqL.of (ar _ _ K6.r.hlk),_,rfl,.inl ⟨rfl,_,SqL.of (ar _ _ hkd6)⟩,_,SqL.of hls6,_,hsl,kd,rfl,_,_,rfl,ar _ _ hkd6,by omega,by omega,dp0.length,?_,V.ref p0,?_,hR _ _ ⟨rfl,?_⟩⟩
   . rw[be,zP,hpl0];exact(PySem.StrLaws.seqIndex_nonneg (by omega) (by rw[zV];omega)).trans (by rw[Au])
   . rw[zO,zT (by omega),hpl0,AC];rfl
   . rw[zU,List.eraseIdx_append_of_length_le (by rw[be];omega),be,hpl0,AC];simp
 rintro σ7 H7 ⟨rfl,rfl⟩;have K7:=K6.dp (dp2:=dp0) (hT0.same SS);rw[←dz fkd] at K7;have O7:Owx [lk,kc,kd,kt] H4 (upd H6 kd (.lst (ps0.map V.ref))):=(Owx.same (S5.trans S6)).trans (Owx.upd (by simp))
 have ht7:upd H6 kd (.lst (ps0.map V.ref)) p0=some (.tup [.int e0.1,.str e0.2.1,.str e0.2.2.1]):=by
   have h6:=ar _ _ (SS _ _ ht0);rw[ai (fun z=>by rw[z,ar _ _ hkd6] at h6;cases h6)];exact h6
 generalize upd H6 kd (.lst (ps0.map V.ref))=H7 at *;walk_at"";refine⟨_,SqT.of ht7,_,rfl,_,SqT.of ht7,_,rfl,by omega,fun t ht=>?_⟩;have St:=af.updN (o:=.tup [V.str e0.2.1,V.str e0.2.2.1]) ht;refine q2 hday hge (e0.2.1,e0.2.2.1) ?_ t _ (O7.trans (Owx.same St)) ac ?_
 . rw[hdp];unfold bf;rw[AW,AZ (by simp[he0]),Bh,zU];simp
 . rw[show h.dp.dropLast=dp0 by rw[hdp,List.dropLast_concat]];exact K7.same (aO St)
def i9 (K:PySem.W.Frag):Sp:=fun vs H Q _=>∃ (F:Addr→Bool)(lk kc kd kt lo:Addr)(so ns ss:List Str) (h:Hs)(Tb:List (Int×LK)) (b:Str)(lu:Addr)(os:List Str) (d:Int),vs=[.ref lk,.str b,.ref lu,.int d]∧KI (bj F H) lk kc kd kt lo so ns ss h Tb∧eS F H∧TOk ss ns h Tb∧bH ss ns h∧so.Nodup∧so.Perm ss∧so.length≤12∧ns.length≤8∧H lu=some (.lst (os.map V.str))∧os.length≤100∧Tb.length < 1000∧(∀ t H' w,((b∉ns∧w=zM "NoBath")∨(b∈ns∧¬GO so os∧w=zM "BadBook")∨(b∈ns∧GO so os∧¬(1≤d∧d≤400)∧w=zM "NoDay")∨(b∈ns∧GO so os∧(1≤d∧d≤400)∧(d < h.day∨bf h.dp d≠[])∧w=zM "Late"))→af H H'→H t=none→H' t=some (.tup (cX w))→Q (.ref t) H')∧(b∈ns→GO so os→(1≤d∧d≤400)→h.day≤d→bf h.dp d=[]→∀ el,Tb.getLast?=some el→∀ H',Owx [lk,kc,kd,kt] H H'→KI (bj F H') lk kc kd kt lo so ns ss { h with day:=d } (Tb++[(d,d9 so b os el.2)])→Q .non H')
theorem fF:aw ["_law_kept", "_law_bath", "_law_outs", "_law_day_here", "_law_tables_here", "_law_k"] ["_law_kept", "_law_bath", "_law_outs", "_law_day_here"] (ao gF):=sM
theorem ma {f fNw fDpD:Addr}{fd fdNw fdDpD:FuncData}(F:Fun K "_law_change_due" "_law_change_due" gF f fd)
   (T:Txt mg)
   (GNw:Cl P w K mg base CX0 1 "_law_no" ["_law_word"] iJ fNw fdNw)
   (GDpD:Cl P w K mg base CX0 1 "_law_dips_due" ["_law_kept", "_law_day_here"] gj fDpD fdDpD) :
   aU P w K mg base CX0 2 f fd ["_law_kept", "_law_bath", "_law_outs", "_law_day_here"] (i9 K):=by
 refine oq F fF fun cdv A outer s H vs Q E hr h=>?_;obtain⟨F,lk,kc,kd,kt,lo,so,ns,ss,h,Tb,b,lu,os,d,rfl,K0,oF,TO,ho,hson,hpm,hso12,hns8,hlu,hos100,htl9,q1,q2⟩:=h;have hu:=eA hr;have hr1:=hr.mono (j:=1) (by omega)
 refine⟨_,(aj (aB (fc (dA hu (pv 1) (pI aJ (pI ak (pI ak (pv 0) ag) ag) ag))) (ah (aq (pC GNw hr1 az (aa aA ae)))) am)
   (aj (aB (PW.pt (d8 (ap i6 (al av (by rfl) T.len zX (aa (pv 2) ae)) (al av (by rfl) T.len zX (aa (pI ak (pv 0) ag) ae)) (ax _)) (cM (ap (vt (BO hu)) (eQ (N':=["_law_one", "_law_kept"]) (pk:=[none,some 0]) rfl (bW.of (by rfl)) (a8 (pv 2)) (fun s H ex=>(pN 0 (by show(["_law_one", "_law_kept"]:List Str).Nodup;decide))) (fun s H ex=>(ap (cD:OpR _ (compareOp .NotIn) (rIn K true)) (pv 0) (pI (ak:IxR _ (hV K)) (pv 1) ag) (by with_unfolding_all rfl))) (fun s H ex=>(pv 0))) (bo ae) (ax _))))) (ah (aq (pC GNw hr1 az (aa aA ae)))) am)
   (aj (aB (PW.pt (d8 (ap cY (pv 3) ag (ax _)) (cM (ap fw (pv 3) ag (ax _))))) (ah (aq (pC GNw hr1 az (aa aA ae)))) am)
   (aj (aB (PW.pt (d8 (ap cY (pv 3) (pI ak (pv 0) ag) (ax _)) (cM (ap (vt (BO hu)) (pC GDpD hr1 az (aa (pv 0) (aa (pv 3) ae))) (bo ae) (ax _))))) (ah (aq (pC GNw hr1 az (aa aA ae)))) am)
   (aj (pS 4 fF.nd (cu qL (by rfl) T.dict (by decide) (aa (pI aJ (pI ak (pI ak (pv 0) ag) (eG dj ag)) ag) ae)))
   (aj (dE hu (pv 4) (pv 1) ed rfl)
   (aj (bC PassesOwn.never rfl (cc rfl T.range (aa (al av (by rfl) T.len zX (aa (pv 2) ae)) ae)) (pN 5 fF.nd) (ah (dE hu (cv hu (pv 4) (pv 1) (fun _ _=>rfl)) (pI ak (pI ak (pv 0) ag) (pv 5)) (pI ak (pv 2) (pv 5)) rfl)))
   (aj (aP (eW Ap AA AB bR (pI ak (pv 0) ag) (aa (bQ (aa (pv 3) (aa (pv 4) ae))) ae)))
   (aj (mF (pv 3) (pL (pv 0) ag kq))
   (ah (aq jL))))))))))),?_⟩
 try dsimp only[aC,aM]
 have hs:=aK;have up:=ar (F:=F) (H:=H);have KR0:=K0.r;obtain⟨qs,ds,hkt,hql,hdsl,hE⟩:=KR0.hkt;obtain⟨e0,Tr,hTe⟩:=TO.t0
 have hp0:0 < qs.length:=by rw[hql,hTe];exact CG _
 have hnl2:Tb≠[]:=fun e=>by rw[hTe] at e;cases e
 have htl:=TO.tl;refine au (fun σ' H'=>b∈ns∧σ'=[some (.ref lk),some (.str b),some (.ref lu),some (.int d),none,none]∧H'=H) (fun R hR=>?_) ?_
 . obtain⟨p0,hp0'⟩:∃ p,qs[0]?=some p:=⟨_,zN hp0⟩;obtain⟨d0,hd0'⟩:∃ d,ds[0]?=some d:=⟨_,zN (by omega)⟩;obtain⟨ht0,hG0⟩:=hE 0 p0 d0 e0 hp0' hd0' (by rw[hTe];rfl);obtain⟨kvs,hRd,hkeys,_⟩:=Fz.tabG (af.fz (bK.trans up)) hG0
   have hiff:(bG kvs (Sum.inr b)).isSome=true↔b∈ns:=by
     rw[gy,hkeys];exact⟨fun h=>by obtain⟨x,hx,e⟩:=List.mem_map.mp h;cases e;exact hx,fun h=>Ao h⟩
   walk_at"";refine⟨_,SqL.of (up _ _ KR0.hlk),_,rfl,kt,rfl,_,SqL.of (up _ _ hkt),_,bT (j:=0) (by rw[zO,hp0'];rfl),p0,rfl,_,SqT.of (up _ _ ht0),_,rfl,d0,rfl,_,.inl ⟨_,Sum.inr b,hRd,rfl,rfl⟩,ay (fun hn=>?_) (fun hn=>hR _ _ ⟨hiff.mp (by cases hb:(bG kvs (Sum.inr b)).isSome<;>first | rfl | exact absurd hb hn),rfl,rfl⟩)⟩;exact⟨_,rfl,by decide,fun t ht=>q1 t _ _ (.inl ⟨(fun hb=>by rw[hiff.mpr hb] at hn;cases hn),rfl⟩) (af.updN ht) ht ac⟩
 rintro σ2 H2 ⟨hbm,rfl,rfl⟩;refine au (fun σ' H'=>GO so os∧σ'=[some (.ref lk),some (.str b),some (.ref lu),some (.int d),none,none]∧af H2 H') (fun R hR=>?_) ?_
 . walk_at"";refine⟨_,.inl (SqL.of hlu),_,SqL.of (up _ _ KR0.hlk),_,rfl,lo,rfl,_,.inl (SqL.of (up _ _ KR0.hlo)),rfl,ay (fun hn=>?_) (fun hn=>⟨⟨_,SqL.of hlu⟩,fun D hD=>?_⟩)⟩
   . rw[be,be] at hn;exact⟨_,rfl,by decide,fun t ht=>q1 t _ _ (.inr (.inl ⟨hbm,(fun g=>hn (by rw[g.1])),rfl⟩)) (af.updN ht) ht ac⟩
   rw[be,be] at hn
   have hol:os.length=so.length:=by have:=Classical.not_not.mp hn;omega
   refine fh (aG (SqL.of hlu)) (by rw[be];omega) hD (fun σ=>∃ o,σ=[o,some (.ref lk)]) (fun i=>decide (os.getD i ⟨#[]⟩∉so)) (fun i=>V.str (os.getD i ⟨#[]⟩)) ⟨none,rfl⟩ ?_ ?_
   . rintro i x σ' H' hi hx ⟨o,rfl⟩ hS R1 R0 h1 h0;rw[zO] at hx;obtain⟨y,hy,rfl⟩:=Option.map_eq_some_iff.mp hx
     have eg:os.getD i ⟨#[]⟩=y:=by rw[zQ,hy];rfl
     simp only[eg] at h1 h0;walk_at"";refine⟨_,SqL.of (hS _ _ (up _ _ KR0.hlk)),_,rfl,lo,rfl,_,.inl (SqL.of (hS _ _ (up _ _ KR0.hlo))),rfl,cR so,ay (fun hin=>?_) (fun hin=>?_)⟩
     . rw[cZ,decide_eq_false_iff_not] at hin;exact h1 (decide_eq_true hin) _ ⟨_,rfl⟩
     . rw[cZ,decide_eq_false_iff_not] at hin;exact h0 (decide_eq_false hin) _ ⟨_,rfl⟩
   . have SD:=af.updN (o:=.lst (((zW (os.map V.str).length).filter fun i=>decide (os.getD i ⟨#[]⟩∉so)).map fun i=>V.str (os.getD i ⟨#[]⟩))) hD;have hDs:upd H2 D (.lst (((zW (os.map V.str).length).filter fun i=>decide (os.getD i ⟨#[]⟩∉so)).map fun i=>V.str (os.getD i ⟨#[]⟩))) D=some (.lst (((zW (os.map V.str).length).filter fun i=>decide (os.getD i ⟨#[]⟩∉so)).map fun i=>V.str (os.getD i ⟨#[]⟩))):=ac;refine⟨by omega,fun p hp=>?_⟩;have Sp:=af.updN (o:=.lst []) hp;refine⟨_,SqL.of (Sp _ _ hDs),[],SqL.of ac,.inl ⟨by rw[List.all_eq_true];intro x hx;obtain⟨y,_,rfl⟩:=List.mem_map.mp hx;rfl,rfl⟩,?_⟩;rw[gO];by_cases hall:∀ x∈os,x∈so
     . have hnil:((zW (os.map V.str).length).filter fun i=>decide (os.getD i ⟨#[]⟩∉so))=[]:=by
         rw[BP];intro i hi;have hl:=List.mem_range.mp hi;rw[be] at hl;rw[zQ,zN hl];simp only[decide_eq_true_eq,Classical.not_not];exact hall _ (AR hl)
       rw[hnil,Bl,if_neg (by decide)];rw[hnil,Bl] at SD Sp;exact hR _ _ ⟨⟨hol,hall⟩,rfl,SD.trans Sp⟩
     . have hnn:¬((zW (os.map V.str).length).filter fun i=>decide (os.getD i ⟨#[]⟩∉so))=[]:=fun e=>hall fun x hx=>by
         obtain⟨i,hi⟩:=AJ hx;have hl:=(List.getElem?_eq_some_iff.mp hi).1;have:=List.filter_eq_nil_iff.mp e i (List.mem_range.mpr (by rw[be];exact hl));rw[zQ,hi] at this;simp only[BC,decide_eq_true_eq,Classical.not_not] at this;exact this
       rw[if_pos (by rw[decide_eq_false (fun e=>hnn (List.map_eq_nil_iff.mp e))];decide)];exact⟨_,rfl,by decide,fun t ht=>q1 t _ _ (.inr (.inl ⟨hbm,(fun g=>hall g.2),rfl⟩)) ((SD.trans Sp).trans (af.updN ht)) ((SD.trans Sp).free ht) ac⟩
 rintro σ3 H3 ⟨hGO,rfl,S3⟩;have K3:=K0.same (aO S3);have oF3:=oF.same S3;refine au (fun σ' H'=>(1≤d∧d≤400)∧σ'=[some (.ref lk),some (.str b),some (.ref lu),some (.int d),none,none]∧H'=H3) (fun R hR=>?_) ?_
 . walk_at"";have hbad:¬(1≤d∧d≤400)→iJ [V.str (zM "NoDay")] H3 Q E0:=fun hn=>⟨_,rfl,by decide,fun t ht=>q1 t _ _ (.inr (.inr (.inl ⟨hbm,hGO,hn,rfl⟩))) (S3.trans (af.updN ht)) (S3.free ht) ac⟩;exact ay (fun h=>hbad (by omega)) (fun h1=>ay (fun h=>hbad (by omega)) (fun h2=>hR _ _ ⟨by omega,rfl,rfl⟩))
 rintro σ4 H4 ⟨hday,rfl,rfl⟩;refine au (fun σ' H'=>h.day≤d∧bf h.dp d=[]∧σ'=[some (.ref lk),some (.str b),some (.ref lu),some (.int d),none,none]∧af H4 H') (fun R hR=>?_) ?_
 . walk_at"";refine⟨_,SqL.of (ar _ _ K3.r.hlk),_,rfl,_,rfl,ay (fun hl=>⟨_,rfl,by decide,fun t ht=>q1 t _ _ (.inr (.inr (.inr ⟨hbm,hGO,hday,.inl hl,rfl⟩))) (S3.trans (af.updN ht)) (S3.free ht) ac⟩) (fun hl=>?_)⟩;refine⟨lk,kc,kd,kt,lo,so,ns,ss,h,Tb,d,rfl,K3.r.same ar,ho.dl,fun l ps H' S _ hl2 hT=>⟨by omega,fun p hp=>?_⟩⟩;have hpl:=hT.1;rw[be] at hpl;have Sp:=af.updN (o:=.lst []) hp;refine⟨l,rfl,_,SqL.of (Sp _ _ hl2),[],SqL.of ac,?_,?_⟩
   . by_cases e:ps=[]
     . exact .inr (.inr (by rw[e];rfl))
     . exact .inr (.inl (by rw[be];exact fun z=>e (List.length_eq_zero_iff.mp z)))
   rw[gO];by_cases hne:bf h.dp d=[]
   . have hpe:ps=[]:=List.length_eq_zero_iff.mp (by rw[hpl,hne];rfl);rw[hpe,if_neg (by decide)];exact hR _ _ ⟨by omega,hne,rfl,S.trans Sp⟩
   . have hpe:ps≠[]:=fun e=>hne (List.length_eq_zero_iff.mp (by rw[←hpl,e];rfl));rw[if_pos (by rw[decide_eq_false (fun e=>hpe (List.map_eq_nil_iff.mp e))];decide)];exact⟨_,rfl,by decide,fun t ht=>q1 t _ _ (.inr (.inr (.inr ⟨hbm,hGO,hday,.inr hne,rfl⟩))) (((S3.trans S).trans Sp).trans (af.updN ht)) (((S3.trans S).trans Sp).free ht) ac⟩
 rintro σ5 H5 ⟨hge,hno,rfl,S5⟩;have K5:=K3.same (aO S5);have oF5:=oF3.same S5;obtain⟨T0,el,hTl⟩:∃ s q,Tb=s++[q]:=⟨_,_,(Ah hnl2).symm⟩
 have hql0:qs≠[]:=fun e=>by rw[e] at hp0;cases hp0
 obtain⟨qs0,p1,hqs⟩:∃ s q,qs=s++[q]:=⟨_,_,(Ah hql0).symm⟩
 have hdl0:ds≠[]:=fun e=>by rw[e,hTl] at hdsl;simp at hdsl
 obtain⟨ds0,d1,hds⟩:∃ s q,ds=s++[q]:=⟨_,_,(Ah hdl0).symm⟩
 have l1:qs0.length=T0.length:=by rw[hqs,hTl,zP,zP] at hql;simpa using hql
 have l2:ds0.length=T0.length:=by rw[hds,hTl,zP,zP] at hdsl;simpa using hdsl
 obtain⟨ht1,hG1⟩:=hE T0.length p1 d1 el (by rw[hqs,zT (by omega),l1,AC];rfl) (by rw[hds,zT (by omega),l2,AC];rfl) (by rw[hTl,zT (zR _),AC];rfl);have S35:=S3.trans S5;have SB:=aO (F:=F) S35;have hE5:∀ (i:Nat) p d e,qs[i]?=some p→ds[i]?=some d→Tb[i]?=some e→bj F H5 p=some (.tup [.int e.1,.ref d])∧dc (hide (bj F H5) kc) d ss ns e.2:=fun i p d e a b c=>⟨SB _ _ (hE i p d e a b c).1,Fz.tabG (af.fz (eT SB kc)) (hE i p d e a b c).2⟩;have hkt5:=SB _ _ hkt;have ht15:=ar _ _ (SB _ _ ht1);obtain⟨kvs,hRdh,hkeys,hent⟩:=Fz.tabG (af.fz (eT SB kc)) hG1;have hRd:=af.rd (bK.trans ar) hRdh
 have hkl:kvs.length=ns.length:=by
   have:=congrArg Cf hkeys
   rwa [be,be] at this
 refine au (fun σ' H'=>∃ dn,H5 dn=none∧σ'=[some (.ref lk),some (.str b),some (.ref lu),some (.int d),some (.ref dn),none]∧H'=upd H5 dn (.dK kvs)) (fun R hR=>?_) ?_
 . walk_at"";exact⟨_,SqL.of (ar _ _ K5.r.hlk),_,rfl,kt,rfl,_,SqL.of (ar _ _ hkt5),V.ref p1,by rw[hqs,zU];exact eX _ _,p1,rfl,_,SqT.of ht15,_,rfl,d1,rfl,_,hRd,fun p hp=>hR _ _ ⟨p,hp,rfl,rfl⟩⟩
 rintro σ6 H6 ⟨dn,hdn,rfl,rfl⟩;refine au (fun σ' H'=>∃ r,H5 r=none∧r≠dn∧σ'=[some (.ref lk),some (.str b),some (.ref lu),some (.int d),some (.ref dn),none]∧af H5 H'∧H' dn=some (.dK (dt kvs (Sum.inr b) (.ref r)))∧H' r=some (.dK [])) (fun R hR=>?_) ?_
 . walk_at"";intro r hr;have Sn:=af.updN (o:=.dK kvs) hdn;have hr5:=Sn.free hr
   have hrd:r≠dn:=fun z=>by rw[z,ac] at hr;cases hr
   refine⟨_,.inl ⟨_,Sum.inr b,by rw[ai (Ne.symm hrd)];exact ac,rfl,by omega,rfl⟩,hR _ _ ⟨r,hr5,hrd,rfl,?_,ac,by rw[ai hrd];exact ac⟩⟩;exact cI (Sn.trans (af.updN hr)) hdn
 rintro σ7 H7 ⟨r,hr5,hrd,rfl,S7,hdn7,hr7⟩;have hlo7:=S7 _ _ (ar _ _ K5.r.hlo);have hlk7:=S7 _ _ (ar _ _ K5.r.hlk);have hlu7:=S7 _ _ (S35 _ _ hlu)
 have hval:bG (dt kvs (Sum.inr b) (.ref r)) (Sum.inr b)=some (V.ref r):=by rw[jU,if_pos rfl]
 refine au (fun σ' H'=>∃ o5,σ'=[some (.ref lk),some (.str b),some (.ref lu),some (.int d),some (.ref dn),o5]∧H'=upd H7 r (.dK (bX so (os.map V.str)))) (fun R hR=>?_) ?_
 . walk_at"";refine⟨_,.inl (SqL.of hlu7),by rw[be];omega,by rw[be];omega,?_⟩;rw[be,Au];refine bi (H0:=fun _=>none) br (fun k σ' H''=>∃ o5,σ'=[some (.ref lk),some (.str b),some (.ref lu),some (.int d),some (.ref dn),o5]∧H''=upd H7 r (.dK (bX (so.take k) ((os.take k).map V.str)))) ⟨none,rfl,?_⟩ (fun _ _ _ _ _ b o e=>by cases e) ?_ ?_
   . funext y;by_cases e:y=r
     . rw[e,ac];exact hr7
     . rw[ai e]
   . rintro k x σ H'' hk2 rfl ⟨o5,rfl,rfl⟩ R4 hR4
     have ek:(0:Int)+(k:Int)=k:=by omega
     rw[ek];have hol:=hGO.1;obtain⟨sk,hsk⟩:∃ y,so[k]?=some y:=⟨_,zN (by omega)⟩;obtain⟨ok,hok⟩:∃ y,os[k]?=some y:=⟨_,zN hk2⟩
     have hl2:(so.take k).length=((os.take k).map V.str).length:=by rw[be,Af,Af];omega
     have nl:∀ {x xs},H7 x=some (.lst xs)→x≠r:=fun {x xs} e z=>by rw[z,hr7] at e;cases e
     walk_at"";refine⟨_,SqL.of (by rw[ai (nl hlu7)];exact hlu7),_,bZ hok,V.ref r,.inl ⟨_,Sum.inr b,.inl (by rw[ai (Ne.symm hrd)];exact hdn7),rfl,hval.symm⟩,_,SqL.of (by rw[ai (nl hlk7)];exact hlk7),_,rfl,lo,rfl,_,SqL.of (by rw[ai (nl hlo7)];exact hlo7),_,bZ hsk,r,rfl,_,.inl ⟨_,Sum.inr sk,ac,rfl,by rw[fV hl2,Af];omega,rfl⟩,hR4 _ _ ⟨_,rfl,?_⟩⟩;rw[gP,da _ (bU _ _ _ (eF hson hsk)),bu hsk,bu hok,zU];exact congrArg (fun z=>upd H7 r (HO.dK z)) (eV sk (V.str ok) hl2).symm
   . rintro σ H'' ⟨o5,rfl,rfl⟩;rw[AI,show so.take os.length=so by rw[hGO.1,AI]];exact hR _ _ ⟨_,rfl,rfl⟩
 rintro σ8 H8 ⟨o5,rfl,rfl⟩;have S8:af H5 (upd H7 r (.dK (bX so (os.map V.str)))):=cI S7 hr5
 have hdn8:upd H7 r (.dK (bX so (os.map V.str))) dn=some (.dK (dt kvs (Sum.inr b) (.ref r))):=by rw[ai (Ne.symm hrd)];exact hdn7
 have hr8:upd H7 r (.dK (bX so (os.map V.str))) r=some (.dK (bX so (os.map V.str))):=ac;generalize upd H7 r (.dK (bX so (os.map V.str)))=H8 at *;have K8:=K5.same (aO S8);have oF8:=oF5.same S8
 have hnc:∀ {x},H5 x=none→x≠kc:=fun {x} hx z=>by rw[z,ar _ _ K5.kcx] at hx;cases hx
 have hT8:dc (hide (bj F H8) kc) dn ss ns (d9 so b os el.2):=by
   have hid8:∀ {x u},H5 x=none→H8 x=some u→hide (bj F H8) kc x=some u:=fun {x u} h1 h2=>by
     rw[aW (hnc h1)];exact cj h2 (oF5.new h1)
   refine⟨_,.inl (hid8 hdn hdn8),?_,fun n hn=>?_⟩
   . obtain⟨r0,kv0,e0,_⟩:=hent b hbm;rw[vm (by rw[e0];rfl),hkeys]
   . by_cases hnb:n=b
     . subst hnb;refine⟨r,_,by rw[jU,if_pos rfl],.inl (hid8 hr5 hr8),fun z hz=>?_⟩;unfold d9;rw[if_pos rfl];exact mK (b:=(n,os)) hson hGO.1 (hpm.mem_iff.mpr hz)
     . obtain⟨r1,kv1,f1,f2,f3⟩:=hent n hn;refine⟨r1,kv1,by rw[jU,if_neg (fun e=>hnb (Sum.inr.inj e))];exact f1,af.rd (eT (aO S8) kc) f2,fun z hz=>?_⟩;unfold d9;rw[if_neg hnb];exact f3 z hz
 have hkt8:=(aO S8) _ _ hkt5;refine au (fun σ' H'=>∃ p,H8 p=none∧σ'=[some (.ref lk),some (.str b),some (.ref lu),some (.int d),some (.ref dn),o5]∧H'=upd (upd H8 p (.tup [.int d,.ref dn])) kt (.lst ((qs++[p]).map V.ref))) (fun R hR=>?_) ?_
 . walk_at"";refine⟨_,SqL.of (ar _ _ K8.r.hlk),_,rfl,.inl ⟨rfl,_,SqL.of (ar _ _ hkt8)⟩,by omega,fun p hp=>⟨kt,rfl,_,by rw[ai (aF (ar _ _ hkt8) hp)];exact ar _ _ hkt8,by rw[be];omega,hR _ _ ⟨p,hp,rfl,?_⟩⟩⟩;rw[zU];rfl
 rintro σ9 H9 ⟨p,hp,rfl,rfl⟩;have Sp:af H8 (upd H8 p (.tup [.int d,.ref dn])):=af.updN hp;have SpB:=aO (F:=F) Sp;have fkt:=(aQ hkt).2;have flk:=(aQ KR0.hlk).2;have K9:=(K8.same SpB).tb (p:=p) (d:=dn) (dd:=d) (lk2:=d9 so b os el.2) (SpB _ _ hkt8) hdsl (fun i p d e a b c=>⟨SpB _ _ ((aO S8) _ _ (hE5 i p d e a b c).1),Fz.tabG (af.fz (eT ((aO S8).trans SpB) kc)) (hE5 i p d e a b c).2⟩) (cj ac (oF8.new hp)) (Fz.tabG (af.fz (eT SpB kc)) hT8);rw[←dz fkt] at K9;have O9:Owx [lk,kc,kd,kt] H2 (upd (upd H8 p (.tup [.int d,.ref dn])) kt (.lst ((qs++[p]).map V.ref))):=(Owx.same ((S35.trans S8).trans Sp)).trans (Owx.upd (by simp));generalize upd (upd H8 p (.tup [.int d,.ref dn])) kt (.lst ((qs++[p]).map V.ref))=H9 at *;refine au (fun σ' H'=>σ'=[some (.ref lk),some (.str b),some (.ref lu),some (.int d),some (.ref dn),o5]∧H'=upd H9 lk (.lst [.ref kc,.ref kd,.ref kt,.int d,.ref lo])) (fun R hR=>?_) ?_
 . walk_at"";exact⟨_,ar _ _ K9.r.hlk,3,(by show ixN 5 3=some 3;decide),hR _ _ ⟨rfl,rfl⟩⟩
 rintro σ10 H10 ⟨rfl,rfl⟩;have K10:=K9.dy (d2:=d);rw[←dz flk] at K10;walk_at"";exact q2 hbm hGO hday hge hno el (by rw[hTl];simp) _ (O9.trans (Owx.upd (by simp))) K10
theorem aY {K:PySem.W.Frag}{σ:St}{H:Hp}{i:Nat}{t:Addr}{nm k:Str}{cE:List V}{A B:TS}{D:gk}(hσ:σ[i]?=some (some (.ref t)))(ht:H t=some (.tup (.str nm::cE)))(hn:nm≠k)(q:B D σ H):ug (oE (tOp rEq (tOp (px K) (kP i) (tC (.int 0))) (tC (.str k)))) A B D σ H:=by
 unfold ug oE tOp kP tC;rw[hσ];refine⟨.str nm::cE,.str nm,SqT.of ht,bT (j:=0) rfl,rfl,?_⟩;have h:decide (V.str nm=V.str k)=false:=decide_eq_false fun e=>hn (V.str.inj e);rw[h];exact q
inductive Dd where
 | bring (c z:Str)
 | dip (c b:Str) (d:Int)
 | back (d:Int)
 | change (b:Str)(lu:Addr)(os:List Str) (d:Int)
 | shade (c:Str) (d:Int)
 | trail (c:Str) (d:Int)
 | dips (d:Int)
 | book (d:Int)
def Dd.tup:Dd→List V
 | .bring c z=>[.str "bring",.str c,.str z]
 | .dip c b d=>[.str "dip",.str c,.str b,.int d]
 | .back d=>[.str "back",.int d]
 | .change b lu _ d=>[.str "change",.str b,.ref lu,.int d]
 | .shade c d=>[.str "shade",.str c,.int d]
 | .trail c d=>[.str "trail",.str c,.int d]
 | .dips d=>[.str "dips",.int d]
 | .book d=>[.str "book",.int d]
def Dd.bad (ns so:List Str) (h:Hs) (w:Str):Dd→Prop
 | .bring c z=>(a9 c=false∧w=zM "BadName")∨(a9 c=true∧c∈h.cl.map (·.1)∧w=zM "Known")∨(a9 c=true∧c∉h.cl.map (·.1)∧z∉so∧w=zM "NoShade")
 | .dip c b d=>(c∉h.cl.map (·.1)∧w=zM "NoCloth")∨(c∈h.cl.map (·.1)∧b∉ns∧w=zM "NoBath")∨(c∈h.cl.map (·.1)∧b∈ns∧¬(1≤d∧d≤400)∧w=zM "NoDay")∨(c∈h.cl.map (·.1)∧b∈ns∧(1≤d∧d≤400)∧d < h.day∧w=zM "Late")
 | .back d=>(¬(1≤d∧d≤400)∧w=zM "NoDay")∨((1≤d∧d≤400)∧d < h.day∧w=zM "Late")∨((1≤d∧d≤400)∧h.day≤d∧bf h.dp d=[]∧w=zM "NoDip")
 | .change b _ os d=>(b∉ns∧w=zM "NoBath")∨(b∈ns∧¬GO so os∧w=zM "BadBook")∨(b∈ns∧GO so os∧¬(1≤d∧d≤400)∧w=zM "NoDay")∨(b∈ns∧GO so os∧(1≤d∧d≤400)∧(d < h.day∨bf h.dp d≠[])∧w=zM "Late")
 | .shade c d=>(c∉h.cl.map (·.1)∧w=zM "NoCloth")∨(c∈h.cl.map (·.1)∧¬(1≤d∧d≤400)∧w=zM "NoDay")
 | .trail c d=>(c∉h.cl.map (·.1)∧w=zM "NoCloth")∨(c∈h.cl.map (·.1)∧¬(1≤d∧d≤400)∧w=zM "NoDay")
 | .dips d=>¬(1≤d∧d≤400)∧w=zM "NoDay"
 | .book d=>¬(1≤d∧d≤400)∧w=zM "NoDay"
def Dd.good (ns so:List Str) (h:Hs):Dd→Prop
 | .bring c z=>a9 c=true∧c∉h.cl.map (·.1)∧z∈so
 | .dip c b d=>c∈h.cl.map (·.1)∧b∈ns∧(1≤d∧d≤400)∧h.day≤d
 | .back d=>(1≤d∧d≤400)∧h.day≤d∧bf h.dp d≠[]
 | .change b _ os d=>b∈ns∧GO so os∧(1≤d∧d≤400)∧h.day≤d∧bf h.dp d=[]
 | .shade c d=>c∈h.cl.map (·.1)∧(1≤d∧d≤400)
 | .trail c d=>c∈h.cl.map (·.1)∧(1≤d∧d≤400)
 | .dips d=>1≤d∧d≤400
 | .book d=>1≤d∧d≤400
inductive DV where
 | non
 | str (z:Str)
 | pair (a b:Str)
 | trail (L:List (Int×Str×Str))
 | dips (L:List (Str×Str))
def Dd.val (h:Hs):Dd→DV
 | .dip c b d=>.str (lkB (aR h.bk d).1 (aR h.bk d).2 b (aV h c d))
 | .back d=>match (bf h.dp d).getLast? with
   | some e=>.pair e.1 e.2
   | none=>.non
 | .shade c d=>.str (aV h c d)
 | .trail c d=>.trail (aX h.dp c d)
 | .dips d=>.dips (bf h.dp d)
 | _=>.non
def n6 (H:Hp) (v:V):DV→Prop
 | .non=>v=.non
 | .str z=>v=.str z
 | .pair a b=>∃ t,v=.ref t∧H t=some (.tup [.str a,.str b])
 | .trail L=>∃ (l:Addr)(ps:List Addr),v=.ref l∧H l=some (.lst (ps.map V.ref))∧cf H ps (L.map fun e=>[.int e.1,.str e.2.1,.str e.2.2])
 | .dips L=>∃ (l:Addr)(ps:List Addr),v=.ref l∧H l=some (.lst (ps.map V.ref))∧cf H ps (L.map fun e=>[.str e.1,.str e.2])
def DvN (H0 H:Hp) (v:V):DV→Prop
 | .trail L=>∃ (l:Addr)(ps:List Addr),v=.ref l∧H0 l=none∧H l=some (.lst (ps.map V.ref))∧cf H ps (L.map fun e=>[.int e.1,.str e.2.1,.str e.2.2])
 | .dips L=>∃ (l:Addr)(ps:List Addr),v=.ref l∧H0 l=none∧H l=some (.lst (ps.map V.ref))∧cf H ps (L.map fun e=>[.str e.1,.str e.2])
 | x=>n6 H v x
def Dd.step (h:Hs):Dd→Hs
 | .bring c z=>{ h with cl:=h.cl++[(c,z)] }
 | .dip c b d=>{ h with day:=d,dp:=h.dp++[(d,c,b,lkB (aR h.bk d).1 (aR h.bk d).2 b (aV h c d))] }
 | .back _=>{ h with dp:=h.dp.dropLast }
 | .change _ _ _ d=>{ h with day:=d }
 | _=>h
def Dd.tb (so:List Str)(Tb:List (Int×LK)):Dd→List (Int×LK)
 | .change b _ os d=>match Tb.getLast? with
   | some el=>Tb++[(d,d9 so b os el.2)]
   | none=>Tb
 | _=>Tb
def Dd.fine (H:Hp):Dd→Prop
 | .bring c z=>Shw c∧Shw z
 | .dip c b _=>Shw c∧Shw b
 | .change b lu os _=>Shw b∧H lu=some (.lst (os.map V.str))∧os.length≤100∧∀ v∈os,Shw v
 | .shade c _=>Shw c
 | .trail c _=>Shw c
 | _=>True
structure oI (ns so ss:List Str) (h:Hs)(Tb:List (Int×LK)):Prop where
 TO:TOk ss ns h Tb
 HR:fM h
 ho:bH ss ns h
 hbn:∀ e∈h.dp,e.2.2.1∈ns
 hcn:∀ e∈h.dp,e.2.1∈h.cl.map (·.1)
 ts:∀ e∈Tb,1≤e.1∧e.1≤h.day
 ssn:ss.Nodup
 son:so.Nodup
 srt:Aq so=true
 nsn:ns.Nodup
 pm:so.Perm ss
 so12:so.length≤12
 ns8:ns.length≤8
 dl:h.dp.length < 1000
 cl60:h.cl.length≤60
 tl9:Tb.length < 1000
def ku:Sp:=fun vs H Q _=>∃ (lk kc kd kt lo:Addr)(so ns ss:List Str) (h:Hs)(Tb:List (Int×LK))(t:Addr)(dd:Dd),vs=[.ref lk,.ref t]∧H t=some (.tup dd.tup)∧KR H lk kc kd kt lo so ns ss h Tb∧oI ns so ss h Tb∧((∃ c d,dd=.shade c d)∨(∃ c d,dd=.trail c d)∨(∃ d,dd=.dips d)∨∃ d,dd=.book d)∧(∀ t' H' w,dd.bad ns so h w→af H H'→H t'=none→H' t'=some (.tup (cX w))→Q (.ref t') H')∧(dd.good ns so h→∀ v H',af H H'→DvN H H' v (dd.val h)→Q v H')
theorem qP:aw ["_law_kept", "_law_deed_here"] ["_law_kept", "_law_deed_here"] (ao io):=sM
theorem oH {f fNw fSD fTD fDpD:Addr}{fd fdNw fdSD fdTD fdDpD:FuncData}(F:Fun K "_law_asked_due" "_law_asked_due" io f fd)
   (T:Txt mg)
   (GNw:Cl P w K mg base CX0 1 "_law_no" ["_law_word"] iJ fNw fdNw)
   (GSD:Cl P w K mg base CX0 3 "_law_shade_due" ["_law_kept", "_law_cloth", "_law_day_here"] fr fSD fdSD)
   (GTD:Cl P w K mg base CX0 2 "_law_trail_due" ["_law_kept", "_law_cloth", "_law_day_here"] eZ fTD fdTD)
   (GDpD:Cl P w K mg base CX0 1 "_law_dips_due" ["_law_kept", "_law_day_here"] gj fDpD fdDpD) :
   aU P w K mg base CX0 4 f fd ["_law_kept", "_law_deed_here"] ku:=by
 refine oq F qP fun cdv A outer s H vs Q E hr h=>?_;obtain⟨lk,kc,kd,kt,lo,so,ns,ss,h,Tb,t,dd,rfl,htt,KR0,KA0,hk,q1,q2⟩:=h;have hu:=eA hr;have hr1:=hr.mono (j:=1) (by omega);have hr2:=hr.mono (j:=2) (by omega);have hr3:=hr.mono (j:=3) (by omega)
 refine⟨_,(aj (aB (PW.pt (im (ap lY (pI aJ (pv 1) ag) (bQ (aa aA (aa aA ae))) (by with_unfolding_all rfl)) (gi (fc (dA hu (pI aJ (pv 1) ag) (pI ak (pv 0) ag)))))) (ah (aq (pC GNw hr1 az (aa aA ae)))) am)
   (aj (aB (PW.pt (d8 (ap cY (pI aJ (pv 1) (eG dj ag)) ag (ax _)) (cM (ap fw (pI aJ (pv 1) (eG dj ag)) ag (ax _))))) (ah (aq (pC GNw hr1 az (aa aA ae)))) am)
   (aj (aB (ap bM (pI aJ (pv 1) ag) aA (ax _)) (ah (aq (pC GSD hr3 az (aa (pv 0) (aa (pI aJ (pv 1) ag) (aa (pI aJ (pv 1) ag) ae)))))) am)
   (aj (aB (ap bM (pI aJ (pv 1) ag) aA (ax _)) (ah (aq (pC GTD hr2 az (aa (pv 0) (aa (pI aJ (pv 1) ag) (aa (pI aJ (pv 1) ag) ae)))))) am)
   (aj (aB (ap bM (pI aJ (pv 1) ag) aA (ax _)) (ah (aq jL)) am)
   (ah (aq (pC GDpD hr1 az (aa (pv 0) (aa (pI aJ (pv 1) ag) ae)))))))))),?_⟩
 try dsimp only[aC,aM]
 have hs:=aK
 have hval:∀ c∈h.cl.map (·.1),∃ z0,bG (clV h.cl) (Sum.inr c)=some (V.str z0):=fun c hm=>by
   obtain⟨x,hx,rfl⟩:=List.mem_map.mp hm;exact⟨x.2,eo KA0.ho.cnd hx⟩
 rcases hk with ⟨c,d,rfl⟩ | ⟨c,d,rfl⟩ | ⟨d,rfl⟩ | ⟨d,rfl⟩
 . refine au (fun σ' H'=>c∈h.cl.map (·.1)∧σ'=[some (.ref lk),some (.ref t)]∧af H H') (fun R hR=>?_) ?_
   . walk_at"";refine⟨_,SqT.of htt,_,rfl,by omega,fun p hp=>?_⟩;have Sp:=af.updN (o:=.tup [V.str (zM "shade"),V.str (zM "trail")]) hp;refine⟨_,.inr (SqT.of ac),rfl,rfl,ay (fun _=>?_) (fun h=>absurd (by decide) h)⟩;by_cases hm:c∈h.cl.map (·.1)
     . obtain⟨z0,hv⟩:=hval c hm;exact⟨_,SqT.of (Sp _ _ htt),_,rfl,_,SqL.of (Sp _ _ KR0.hlk),_,rfl,kc,rfl,some _,.inl ⟨_,Sum.inr c,af.rd Sp KR0.hkc,rfl,hv.symm⟩,ay (fun h=>by cases h) (fun _=>hR _ _ ⟨hm,rfl,Sp⟩)⟩
     . exact⟨_,SqT.of (Sp _ _ htt),_,rfl,_,SqL.of (Sp _ _ KR0.hlk),_,rfl,kc,rfl,none,.inl ⟨_,Sum.inr c,af.rd Sp KR0.hkc,rfl,(bL hm).symm⟩,ay (fun _=>⟨_,rfl,by decide,fun t ht=>q1 t _ _ (.inl ⟨hm,rfl⟩) (Sp.trans (af.updN ht)) (Sp.free ht) ac⟩) (fun h=>absurd rfl h)⟩
   rintro σ1 H1 ⟨hcm,rfl,S1⟩;refine au (fun σ' H'=>(1≤d∧d≤400)∧σ'=[some (.ref lk),some (.ref t)]∧H'=H1) (fun R hR=>?_) ?_
   . walk_at"";have hbad:¬(1≤d∧d≤400)→iJ [V.str (zM "NoDay")] H1 Q E0:=fun hn=>⟨_,rfl,by decide,fun t ht=>q1 t _ _ (.inr ⟨hcm,hn,rfl⟩) (S1.trans (af.updN ht)) (S1.free ht) ac⟩;exact⟨_,SqT.of (S1 _ _ htt),_,rfl,_,rfl,ay (fun h=>hbad (by omega)) (fun h1=>⟨_,SqT.of (S1 _ _ htt),_,rfl,_,rfl,ay (fun h=>hbad (by omega)) (fun h2=>hR _ _ ⟨by omega,rfl,rfl⟩)⟩)⟩
   rintro σ2 H2 ⟨hday,rfl,rfl⟩;refine au (fun σ' H'=>False) (fun R hR=>?_) (fun _ _ h=>h.elim);walk_at"";exact⟨_,SqT.of (S1 _ _ htt),_,rfl,rfl,ay (fun _=>⟨_,SqT.of (S1 _ _ htt),_,rfl,_,SqT.of (S1 _ _ htt),_,rfl,lk,kc,kd,kt,lo,so,ns,ss,h,Tb,c,d,rfl,KR0.same S1,KA0.TO,KA0.HR,KA0.ho,KA0.hbn,hcm,fun H' S=>q2 ⟨hcm,hday⟩ _ _ (S1.trans S) rfl⟩) (fun h=>absurd rfl h)⟩
 . refine au (fun σ' H'=>c∈h.cl.map (·.1)∧σ'=[some (.ref lk),some (.ref t)]∧af H H') (fun R hR=>?_) ?_
   . walk_at"";refine⟨_,SqT.of htt,_,rfl,by omega,fun p hp=>?_⟩;have Sp:=af.updN (o:=.tup [V.str (zM "shade"),V.str (zM "trail")]) hp;refine⟨_,.inr (SqT.of ac),rfl,rfl,ay (fun _=>?_) (fun h=>absurd (by decide) h)⟩;by_cases hm:c∈h.cl.map (·.1)
     . obtain⟨z0,hv⟩:=hval c hm;exact⟨_,SqT.of (Sp _ _ htt),_,rfl,_,SqL.of (Sp _ _ KR0.hlk),_,rfl,kc,rfl,some _,.inl ⟨_,Sum.inr c,af.rd Sp KR0.hkc,rfl,hv.symm⟩,ay (fun h=>by cases h) (fun _=>hR _ _ ⟨hm,rfl,Sp⟩)⟩
     . exact⟨_,SqT.of (Sp _ _ htt),_,rfl,_,SqL.of (Sp _ _ KR0.hlk),_,rfl,kc,rfl,none,.inl ⟨_,Sum.inr c,af.rd Sp KR0.hkc,rfl,(bL hm).symm⟩,ay (fun _=>⟨_,rfl,by decide,fun t ht=>q1 t _ _ (.inl ⟨hm,rfl⟩) (Sp.trans (af.updN ht)) (Sp.free ht) ac⟩) (fun h=>absurd rfl h)⟩
   rintro σ1 H1 ⟨hcm,rfl,S1⟩;refine au (fun σ' H'=>(1≤d∧d≤400)∧σ'=[some (.ref lk),some (.ref t)]∧H'=H1) (fun R hR=>?_) ?_
   . walk_at"";have hbad:¬(1≤d∧d≤400)→iJ [V.str (zM "NoDay")] H1 Q E0:=fun hn=>⟨_,rfl,by decide,fun t ht=>q1 t _ _ (.inr ⟨hcm,hn,rfl⟩) (S1.trans (af.updN ht)) (S1.free ht) ac⟩;exact⟨_,SqT.of (S1 _ _ htt),_,rfl,_,rfl,ay (fun h=>hbad (by omega)) (fun h1=>⟨_,SqT.of (S1 _ _ htt),_,rfl,_,rfl,ay (fun h=>hbad (by omega)) (fun h2=>hR _ _ ⟨by omega,rfl,rfl⟩)⟩)⟩
   rintro σ2 H2 ⟨hday,rfl,rfl⟩;refine au (fun σ' H'=>σ'=[some (.ref lk),some (.ref t)]∧H'=H2) (fun R hR=>?_) ?_
   . walk_at"";exact⟨_,SqT.of (S1 _ _ htt),_,rfl,rfl,ay (fun h=>absurd (V.str.inj h) (by decide)) (fun _=>hR _ _ ⟨rfl,rfl⟩)⟩
   rintro σ3 H3 ⟨rfl,rfl⟩;refine au (fun σ' H'=>False) (fun R hR=>?_) (fun _ _ h=>h.elim);walk_at"";exact⟨_,SqT.of (S1 _ _ htt),_,rfl,rfl,ay (fun _=>⟨_,SqT.of (S1 _ _ htt),_,rfl,_,SqT.of (S1 _ _ htt),_,rfl,lk,kc,kd,kt,lo,so,ns,ss,h,Tb,c,d,rfl,KR0.same S1,KA0.TO,KA0.HR,KA0.ho,KA0.hbn,hcm,fun l ps H' S hn hl hT=>q2 ⟨hcm,hday⟩ _ _ (S1.trans S) ⟨l,ps,rfl,S1.free hn,hl,hT⟩⟩) (fun h=>absurd rfl h)⟩
 . refine au (fun σ' H'=>σ'=[some (.ref lk),some (.ref t)]∧af H H') (fun R hR=>?_) ?_
   . walk_at"";refine⟨_,SqT.of htt,_,rfl,by omega,fun p hp=>?_⟩;have Sp:=af.updN (o:=.tup [V.str (zM "shade"),V.str (zM "trail")]) hp;exact⟨_,.inr (SqT.of ac),rfl,rfl,ay (fun h=>absurd h (by decide)) (fun _=>hR _ _ ⟨rfl,Sp⟩)⟩
   rintro σ1 H1 ⟨rfl,S1⟩;refine au (fun σ' H'=>(1≤d∧d≤400)∧σ'=[some (.ref lk),some (.ref t)]∧H'=H1) (fun R hR=>?_) ?_
   . walk_at"";have hbad:¬(1≤d∧d≤400)→iJ [V.str (zM "NoDay")] H1 Q E0:=fun hn=>⟨_,rfl,by decide,fun t ht=>q1 t _ _ (⟨hn,rfl⟩) (S1.trans (af.updN ht)) (S1.free ht) ac⟩;exact⟨_,SqT.of (S1 _ _ htt),_,rfl,_,rfl,ay (fun h=>hbad (by omega)) (fun h1=>⟨_,SqT.of (S1 _ _ htt),_,rfl,_,rfl,ay (fun h=>hbad (by omega)) (fun h2=>hR _ _ ⟨by omega,rfl,rfl⟩)⟩)⟩
   rintro σ2 H2 ⟨hday,rfl,rfl⟩;refine au (fun σ' H'=>σ'=[some (.ref lk),some (.ref t)]∧H'=H2) (fun R hR=>?_) ?_
   . walk_at"";exact⟨_,SqT.of (S1 _ _ htt),_,rfl,rfl,ay (fun h=>absurd (V.str.inj h) (by decide)) (fun _=>hR _ _ ⟨rfl,rfl⟩)⟩
   rintro σ3 H3 ⟨rfl,rfl⟩;refine au (fun σ' H'=>σ'=[some (.ref lk),some (.ref t)]∧H'=H3) (fun R hR=>?_) ?_
   . walk_at"";exact⟨_,SqT.of (S1 _ _ htt),_,rfl,rfl,ay (fun h=>absurd (V.str.inj h) (by decide)) (fun _=>hR _ _ ⟨rfl,rfl⟩)⟩
   rintro σ4 H4 ⟨rfl,rfl⟩;refine au (fun σ' H'=>σ'=[some (.ref lk),some (.ref t)]∧H'=H4) (fun R hR=>?_) ?_
   . walk_at"";exact⟨_,SqT.of (S1 _ _ htt),_,rfl,rfl,ay (fun h=>absurd (V.str.inj h) (by decide)) (fun _=>hR _ _ ⟨rfl,rfl⟩)⟩
   rintro σ5 H5 ⟨rfl,rfl⟩;walk_at"";exact⟨_,SqT.of (S1 _ _ htt),_,rfl,lk,kc,kd,kt,lo,so,ns,ss,h,Tb,d,rfl,KR0.same S1,KA0.ho.dl,fun l ps H' S hn hl hT=>q2 hday _ _ (S1.trans S) ⟨l,ps,rfl,S1.free hn,hl,hT⟩⟩
 . refine au (fun σ' H'=>σ'=[some (.ref lk),some (.ref t)]∧af H H') (fun R hR=>?_) ?_
   . walk_at"";refine⟨_,SqT.of htt,_,rfl,by omega,fun p hp=>?_⟩;have Sp:=af.updN (o:=.tup [V.str (zM "shade"),V.str (zM "trail")]) hp;exact⟨_,.inr (SqT.of ac),rfl,rfl,ay (fun h=>absurd h (by decide)) (fun _=>hR _ _ ⟨rfl,Sp⟩)⟩
   rintro σ1 H1 ⟨rfl,S1⟩;refine au (fun σ' H'=>(1≤d∧d≤400)∧σ'=[some (.ref lk),some (.ref t)]∧H'=H1) (fun R hR=>?_) ?_
   . walk_at"";have hbad:¬(1≤d∧d≤400)→iJ [V.str (zM "NoDay")] H1 Q E0:=fun hn=>⟨_,rfl,by decide,fun t ht=>q1 t _ _ (⟨hn,rfl⟩) (S1.trans (af.updN ht)) (S1.free ht) ac⟩;exact⟨_,SqT.of (S1 _ _ htt),_,rfl,_,rfl,ay (fun h=>hbad (by omega)) (fun h1=>⟨_,SqT.of (S1 _ _ htt),_,rfl,_,rfl,ay (fun h=>hbad (by omega)) (fun h2=>hR _ _ ⟨by omega,rfl,rfl⟩)⟩)⟩
   rintro σ2 H2 ⟨hday,rfl,rfl⟩;refine au (fun σ' H'=>σ'=[some (.ref lk),some (.ref t)]∧H'=H2) (fun R hR=>?_) ?_
   . walk_at"";exact⟨_,SqT.of (S1 _ _ htt),_,rfl,rfl,ay (fun h=>absurd (V.str.inj h) (by decide)) (fun _=>hR _ _ ⟨rfl,rfl⟩)⟩
   rintro σ3 H3 ⟨rfl,rfl⟩;refine au (fun σ' H'=>σ'=[some (.ref lk),some (.ref t)]∧H'=H3) (fun R hR=>?_) ?_
   . walk_at"";exact⟨_,SqT.of (S1 _ _ htt),_,rfl,rfl,ay (fun h=>absurd (V.str.inj h) (by decide)) (fun _=>hR _ _ ⟨rfl,rfl⟩)⟩
   rintro σ4 H4 ⟨rfl,rfl⟩;refine au (fun σ' H'=>False) (fun R hR=>?_) (fun _ _ h=>h.elim);walk_at"";exact⟨_,SqT.of (S1 _ _ htt),_,rfl,rfl,ay (fun _=>q2 hday _ _ S1 rfl) (fun h=>absurd rfl h)⟩
def xn (K:PySem.W.Frag):Sp:=fun vs H Q _=>∃ (F:Addr→Bool)(lk kc kd kt lo:Addr)(so ns ss:List Str) (h:Hs)(Tb:List (Int×LK))(t:Addr)(dd:Dd),vs=[.ref lk,.ref t]∧H t=some (.tup dd.tup)∧KI (bj F H) lk kc kd kt lo so ns ss h Tb∧eS F H∧oI ns so ss h Tb∧dd.fine H∧(∀ t' H' w,dd.bad ns so h w→af H H'→H t'=none→H' t'=some (.tup (cX w))→Q (.ref t') H')∧(dd.good ns so h→∀ v H',Owx [lk,kc,kd,kt] H H'→DvN H H' v (dd.val h)→KI (bj F H') lk kc kd kt lo so ns ss (dd.step h) (dd.tb so Tb)→Q v H')
theorem yV:aw ["_law_kept", "_law_deed_here"] ["_law_kept", "_law_deed_here"] (ao xF):=sM
theorem yA {f fBrD fDiD fBaD fChD fAsD:Addr}{fd fdBrD fdDiD fdBaD fdChD fdAsD:FuncData}(F:Fun K "_law_due" "_law_due" xF f fd)
   (T:Txt mg)
   (GBrD:Cl P w K mg base CX0 2 "_law_bring_due" ["_law_kept", "_law_cloth", "_law_shade"] jI fBrD fdBrD)
   (GDiD:Cl P w K mg base CX0 4 "_law_dip_due" ["_law_kept", "_law_cloth", "_law_bath", "_law_day_here"] nN fDiD fdDiD)
   (GBaD:Cl P w K mg base CX0 2 "_law_back_due" ["_law_kept", "_law_day_here"] lw fBaD fdBaD)
   (GChD:Cl P w K mg base CX0 2 "_law_change_due" ["_law_kept", "_law_bath", "_law_outs", "_law_day_here"] (i9 K) fChD fdChD)
   (GAsD:Cl P w K mg base CX0 4 "_law_asked_due" ["_law_kept", "_law_deed_here"] ku fAsD fdAsD) :
   aU P w K mg base CX0 5 f fd ["_law_kept", "_law_deed_here"] (xn K):=by
 refine oq F yV fun cdv A outer s H vs Q E hr h=>?_;obtain⟨F,lk,kc,kd,kt,lo,so,ns,ss,h,Tb,t,dd,rfl,htt,K0,oF,KA0,hf,q1,q2⟩:=h;have hr2:=hr.mono (j:=2) (by omega);have hr4:=hr.mono (j:=4) (by omega)
 refine⟨_,(aj (aB (ap bM (pI aJ (pv 1) ag) aA (ax _)) (ah (aq (pC GBrD hr2 az (aa (pv 0) (aa (pI aJ (pv 1) ag) (aa (pI aJ (pv 1) ag) ae)))))) am)
   (aj (aB (ap bM (pI aJ (pv 1) ag) aA (ax _)) (ah (aq (pC GDiD hr4 az (aa (pv 0) (aa (pI aJ (pv 1) ag) (aa (pI aJ (pv 1) ag) (aa (pI aJ (pv 1) ag) ae))))))) am)
   (aj (aB (ap bM (pI aJ (pv 1) ag) aA (ax _)) (ah (aq (pC GBaD hr2 az (aa (pv 0) (aa (pI aJ (pv 1) ag) ae))))) am)
   (aj (aB (ap bM (pI aJ (pv 1) ag) aA (ax _)) (ah (aq (pC GChD hr2 az (aa (pv 0) (aa (pI aJ (pv 1) ag) (aa (pI aJ (pv 1) ag) (aa (pI aJ (pv 1) ag) ae))))))) am)
   (ah (aq (pC GAsD hr4 az (aa (pv 0) (aa (pv 1) ae))))))))),?_⟩
 try dsimp only[aC,aM]
 have hs:=aK;have up:=ar (F:=F) (H:=H)
 cases dd with
 | bring c z =>
   refine au (fun σ' H'=>False) (fun R hR=>?_) (fun _ _ h=>h.elim);walk_at"";exact⟨_,SqT.of htt,_,rfl,rfl,ay (fun _=>⟨_,SqT.of htt,_,rfl,_,SqT.of htt,_,rfl,F,lk,kc,kd,kt,lo,so,ns,ss,h,Tb,c,z,rfl,K0,oF,KA0.ho,hf.1,KA0.cl60,q1,fun g1 g2 g3 H' O K=>q2 ⟨g1,g2,g3⟩ _ _ O rfl K⟩) (fun h=>absurd rfl h)⟩
 | dip c b d =>
   refine au (fun σ' H'=>σ'=[some (.ref lk),some (.ref t)]∧H'=H) (fun R hR=>?_) ?_
   . exact aY rfl htt (by decide) (hR _ _ ⟨rfl,rfl⟩)
   rintro σ1 H1 ⟨rfl,rfl⟩;refine au (fun σ' H'=>False) (fun R hR=>?_) (fun _ _ h=>h.elim);walk_at"";exact⟨_,SqT.of htt,_,rfl,rfl,ay (fun _=>⟨_,SqT.of htt,_,rfl,_,SqT.of htt,_,rfl,_,SqT.of htt,_,rfl,F,lk,kc,kd,kt,lo,so,ns,ss,h,Tb,c,b,d,rfl,K0,oF,KA0.TO,KA0.HR,KA0.ho,KA0.hbn,KA0.dl,q1,fun g1 g2 g3 g4 o ho' H' O K=>by subst ho';exact q2 ⟨g1,g2,g3,g4⟩ _ _ O rfl K⟩) (fun h=>absurd rfl h)⟩
 | back d =>
   refine au (fun σ' H'=>σ'=[some (.ref lk),some (.ref t)]∧H'=H) (fun R hR=>?_) ?_
   . exact aY rfl htt (by decide) (hR _ _ ⟨rfl,rfl⟩)
   rintro σ1 H1 ⟨rfl,rfl⟩;refine au (fun σ' H'=>σ'=[some (.ref lk),some (.ref t)]∧H'=H1) (fun R hR=>?_) ?_
   . exact aY rfl htt (by decide) (hR _ _ ⟨rfl,rfl⟩)
   rintro σ2 H2 ⟨rfl,rfl⟩;refine au (fun σ' H'=>False) (fun R hR=>?_) (fun _ _ h=>h.elim);walk_at"";refine⟨_,SqT.of htt,_,rfl,rfl,ay (fun _=>⟨_,SqT.of htt,_,rfl,F,lk,kc,kd,kt,lo,so,ns,ss,h,Tb,d,rfl,K0,oF,KA0.HR,KA0.ho,q1,fun g1 g2 e he t' H' O ht K=>?_⟩) (fun h=>absurd rfl h)⟩;refine q2 ⟨g1,g2,fun hn=>by rw[hn] at he;cases he⟩ _ _ O ?_ K;show DvN _ _ (.ref t') (match (bf h.dp d).getLast? with | some e=>.pair e.1 e.2 | none=>.non);rw[he];exact⟨t',rfl,ht⟩
 | change b lu os d =>
   refine au (fun σ' H'=>σ'=[some (.ref lk),some (.ref t)]∧H'=H) (fun R hR=>?_) ?_
   . exact aY rfl htt (by decide) (hR _ _ ⟨rfl,rfl⟩)
   rintro σ1 H1 ⟨rfl,rfl⟩;refine au (fun σ' H'=>σ'=[some (.ref lk),some (.ref t)]∧H'=H1) (fun R hR=>?_) ?_
   . exact aY rfl htt (by decide) (hR _ _ ⟨rfl,rfl⟩)
   rintro σ2 H2 ⟨rfl,rfl⟩;refine au (fun σ' H'=>σ'=[some (.ref lk),some (.ref t)]∧H'=H2) (fun R hR=>?_) ?_
   . exact aY rfl htt (by decide) (hR _ _ ⟨rfl,rfl⟩)
   rintro σ3 H3 ⟨rfl,rfl⟩;refine au (fun σ' H'=>False) (fun R hR=>?_) (fun _ _ h=>h.elim);walk_at"";refine⟨_,SqT.of htt,_,rfl,rfl,ay (fun _=>⟨_,SqT.of htt,_,rfl,_,SqT.of htt,_,rfl,_,SqT.of htt,_,rfl,F,lk,kc,kd,kt,lo,so,ns,ss,h,Tb,b,lu,os,d,rfl,K0,oF,KA0.TO,KA0.ho,KA0.son,KA0.pm,KA0.so12,KA0.ns8,hf.2.1,hf.2.2.1,KA0.tl9,q1,fun g1 g2 g3 g4 g5 el hel H' O K=>?_⟩) (fun h=>absurd rfl h)⟩;refine q2 ⟨g1,g2,g3,g4,g5⟩ _ _ O rfl ?_;show KI _ _ _ _ _ _ _ _ _ _ (match Tb.getLast? with | some el=>Tb++[(d,d9 so b os el.2)] | none=>Tb);rw[hel];exact K
 | shade c d =>
   refine au (fun σ' H'=>σ'=[some (.ref lk),some (.ref t)]∧H'=H) (fun R hR=>?_) ?_
   . exact aY rfl htt (by decide) (hR _ _ ⟨rfl,rfl⟩)
   rintro σ1 H1 ⟨rfl,rfl⟩;refine au (fun σ' H'=>σ'=[some (.ref lk),some (.ref t)]∧H'=H1) (fun R hR=>?_) ?_
   . exact aY rfl htt (by decide) (hR _ _ ⟨rfl,rfl⟩)
   rintro σ2 H2 ⟨rfl,rfl⟩;refine au (fun σ' H'=>σ'=[some (.ref lk),some (.ref t)]∧H'=H2) (fun R hR=>?_) ?_
   . exact aY rfl htt (by decide) (hR _ _ ⟨rfl,rfl⟩)
   rintro σ3 H3 ⟨rfl,rfl⟩;refine au (fun σ' H'=>σ'=[some (.ref lk),some (.ref t)]∧H'=H3) (fun R hR=>?_) ?_
   . exact aY rfl htt (by decide) (hR _ _ ⟨rfl,rfl⟩)
   rintro σ4 H4 ⟨rfl,rfl⟩;walk_at"";exact⟨lk,kc,kd,kt,lo,so,ns,ss,h,Tb,t,_,rfl,htt,K0.r.same up,KA0,.inl ⟨_,_,rfl⟩,q1,fun g v H' S dv=>q2 g v H' (Owx.same S) dv (K0.same (aO S))⟩
 | trail c d =>
   refine au (fun σ' H'=>σ'=[some (.ref lk),some (.ref t)]∧H'=H) (fun R hR=>?_) ?_
   . exact aY rfl htt (by decide) (hR _ _ ⟨rfl,rfl⟩)
   rintro σ1 H1 ⟨rfl,rfl⟩;refine au (fun σ' H'=>σ'=[some (.ref lk),some (.ref t)]∧H'=H1) (fun R hR=>?_) ?_
   . exact aY rfl htt (by decide) (hR _ _ ⟨rfl,rfl⟩)
   rintro σ2 H2 ⟨rfl,rfl⟩;refine au (fun σ' H'=>σ'=[some (.ref lk),some (.ref t)]∧H'=H2) (fun R hR=>?_) ?_
   . exact aY rfl htt (by decide) (hR _ _ ⟨rfl,rfl⟩)
   rintro σ3 H3 ⟨rfl,rfl⟩;refine au (fun σ' H'=>σ'=[some (.ref lk),some (.ref t)]∧H'=H3) (fun R hR=>?_) ?_
   . exact aY rfl htt (by decide) (hR _ _ ⟨rfl,rfl⟩)
   rintro σ4 H4 ⟨rfl,rfl⟩;walk_at"";exact⟨lk,kc,kd,kt,lo,so,ns,ss,h,Tb,t,_,rfl,htt,K0.r.same up,KA0,.inr (.inl ⟨_,_,rfl⟩),q1,fun g v H' S dv=>q2 g v H' (Owx.same S) dv (K0.same (aO S))⟩
 | dips d =>
   refine au (fun σ' H'=>σ'=[some (.ref lk),some (.ref t)]∧H'=H) (fun R hR=>?_) ?_
   . exact aY rfl htt (by decide) (hR _ _ ⟨rfl,rfl⟩)
   rintro σ1 H1 ⟨rfl,rfl⟩;refine au (fun σ' H'=>σ'=[some (.ref lk),some (.ref t)]∧H'=H1) (fun R hR=>?_) ?_
   . exact aY rfl htt (by decide) (hR _ _ ⟨rfl,rfl⟩)
   rintro σ2 H2 ⟨rfl,rfl⟩;refine au (fun σ' H'=>σ'=[some (.ref lk),some (.ref t)]∧H'=H2) (fun R hR=>?_) ?_
   . exact aY rfl htt (by decide) (hR _ _ ⟨rfl,rfl⟩)
   rintro σ3 H3 ⟨rfl,rfl⟩;refine au (fun σ' H'=>σ'=[some (.ref lk),some (.ref t)]∧H'=H3) (fun R hR=>?_) ?_
   . exact aY rfl htt (by decide) (hR _ _ ⟨rfl,rfl⟩)
   rintro σ4 H4 ⟨rfl,rfl⟩;walk_at"";exact⟨lk,kc,kd,kt,lo,so,ns,ss,h,Tb,t,_,rfl,htt,K0.r.same up,KA0,.inr (.inr (.inl ⟨_,rfl⟩)),q1,fun g v H' S dv=>q2 g v H' (Owx.same S) dv (K0.same (aO S))⟩
 | book d =>
   refine au (fun σ' H'=>σ'=[some (.ref lk),some (.ref t)]∧H'=H) (fun R hR=>?_) ?_
   . exact aY rfl htt (by decide) (hR _ _ ⟨rfl,rfl⟩)
   rintro σ1 H1 ⟨rfl,rfl⟩;refine au (fun σ' H'=>σ'=[some (.ref lk),some (.ref t)]∧H'=H1) (fun R hR=>?_) ?_
   . exact aY rfl htt (by decide) (hR _ _ ⟨rfl,rfl⟩)
   rintro σ2 H2 ⟨rfl,rfl⟩;refine au (fun σ' H'=>σ'=[some (.ref lk),some (.ref t)]∧H'=H2) (fun R hR=>?_) ?_
   . exact aY rfl htt (by decide) (hR _ _ ⟨rfl,rfl⟩)
   rintro σ3 H3 ⟨rfl,rfl⟩;refine au (fun σ' H'=>σ'=[some (.ref lk),some (.ref t)]∧H'=H3) (fun R hR=>?_) ?_
   . exact aY rfl htt (by decide) (hR _ _ ⟨rfl,rfl⟩)
   rintro σ4 H4 ⟨rfl,rfl⟩;walk_at"";exact⟨lk,kc,kd,kt,lo,so,ns,ss,h,Tb,t,_,rfl,htt,K0.r.same up,KA0,.inr (.inr (.inr ⟨_,rfl⟩)),q1,fun g v H' S dv=>q2 g v H' (Owx.same S) dv (K0.same (aO S))⟩
def zA (cBN cKn cNS cNC cNB cBB cND cLa cNo C:Addr) (w:Str):Prop :=
 (C=cBN∧w=zM "BadName")∨(C=cKn∧w=zM "Known")∨(C=cNS∧w=zM "NoShade")∨(C=cNC∧w=zM "NoCloth")∨(C=cNB∧w=zM "NoBath")∨(C=cBB∧w=zM "BadBook")∨(C=cND∧w=zM "NoDay")∨(C=cLa∧w=zM "Late")∨(C=cNo∧w=zM "NoDip")
def n0 (h:Hs) (h':Hs):Dd→Prop
 | .change b lu os d=>∃ so2 ns2,kQ (aR h.bk 400).1 so2 ns2 (aR h.bk 400).2∧aN so2 (ns2.map (chB (aR h.bk 400).1 so2 (aR h.bk 400).2 b os))∧h'={ h with day:=d,bk:=cg h.bk d (so2,ns2.map (chB (aR h.bk 400).1 so2 (aR h.bk 400).2 b os)) }
 | dd=>h'=dd.step h
def zp (H W:Hp)(CB:Addr) (h:Hs) (v:V):Dd→Prop
 | .book d=>∃ r,v=.ref r∧bv W CB r (aR h.bk d).1 (aR h.bk d).2
 | dd=>n6 H v (dd.val h)
theorem GO.perm {s1 s2 os:List Str}(p:s1.Perm s2):GO s1 os↔GO s2 os :=
 ⟨fun g=>⟨by rw[g.1,p.length_eq],fun x hx=>p.mem_iff.mp (g.2 x hx)⟩,fun g=>⟨by rw[g.1,p.length_eq],fun x hx=>p.mem_iff.mpr (g.2 x hx)⟩⟩
def vb (K:PySem.W.Frag)(CH CB cBN cKn cNS cFu cNC cNB cBB cND cLa cNo:Addr):Sp:=fun vs H Q E=>∃ (A:Ad)(W:Hp)(ss ns so:List Str) (h:Hs)(t:Addr)(dd:Dd),vs=[.ref A.x,.ref t]∧aI H CH CB A W ss h∧bH ss ns h∧H t=some (.tup dd.tup)∧dd.fine H∧so.Perm ss∧ss.Nodup∧h.dp.length < 1000∧h.cl.length < 50∧(∀ C w H',dd.bad ns so h w→zA cBN cKn cNS cNC cNB cBB cND cLa cNo C w→af H H'→E (.ref C) none H')∧(dd.good ns so h→∀ v H' W' h',af (hid H A) (hid H' A)→dH H W W'→aI H' CH CB A W' ss h'→bH ss ns h'→n0 h h' dd→zp H' W' CB h v dd→Q v H')
theorem wB:aw ["_law_house", "_law_deed_here"] ["_law_house", "_law_deed_here"] (ao q9):=sM
theorem uw {f fHR fHQ fHK fHG fHS fHT fHP fHB:Addr}{fd fdHR fdHQ fdHK fdHG fdHS fdHT fdHP fdHB:FuncData}{CH CB cBN cKn cNS cFu cNC cNB cBB cND cLa cNo:Addr}(F:Fun K "_law_asked" "_law_asked" q9 f fd)
   (T:Txt mg)(hX:Hx K mg CH)
   (GHR:Cm P w K mg base (CX1 P w) 5 CH "bring" ["self", "cloth", "shade"] (kn CH CB cBN cKn cNS cFu) fHR fdHR)
   (GHQ:Cm P w K mg base (CX1 P w) 5 CH "dip" ["self", "cloth", "bath", "day"] (vw CH CB cNC cNB cND cLa cFu) fHQ fdHQ)
   (GHK:Cm P w K mg base (CX1 P w) 4 CH "back" ["self", "day"] (rD CH CB cND cLa cNo) fHK fdHK)
   (GHG:Cm P w K mg base (CX1 P w) 7 CH "change" ["self", "bath", "outs", "day"] (k6 K CH CB cNB cBB cND cLa) fHG fdHG)
   (GHS:Cm P w K mg base (CX1 P w) 3 CH "shade" ["self", "cloth", "day"] (gZ CH CB cNC cND) fHS fdHS)
   (GHT:Cm P w K mg base (CX1 P w) 2 CH "trail" ["self", "cloth", "day"] (hJ CH CB cNC cND) fHT fdHT)
   (GHP:Cm P w K mg base (CX1 P w) 2 CH "dips" ["self", "day"] (gY CH CB cND) fHP fdHP)
   (GHB:Cm P w K mg base (CX1 P w) 2 CH "book" ["self", "day"] (gM CH CB cND) fHB fdHB) :
   aU P w K mg base (CX1 P w) 8 f fd ["_law_house", "_law_deed_here"] (vb K CH CB cBN cKn cNS cFu cNC cNB cBB cND cLa cNo):=by
 refine oqX F wB fun cdv A outer s H vs Q E hr h=>?_;obtain⟨A0,W,ss,ns,so,h,t,dd,rfl,hh,ho,htt,hf,hpm,hsn,hdl,hcl,q1,q2⟩:=h;have cH:=hX.c;have hr2:=hr.mono (j:=2) (by omega);have hr3:=hr.mono (j:=3) (by omega);have hr4:=hr.mono (j:=4) (by omega);have hr5:=hr.mono (j:=5) (by omega);have hr7:=hr.mono (j:=7) (by omega)
 refine⟨_,(aj (aB (ap bM (pI aJ (pv 1) ag) aA (ax _)) (ah (aq (pM (pv 0) cH GHR hr5 bD (aa (pI aJ (pv 1) ag) (aa (pI aJ (pv 1) ag) ae))))) am)
   (aj (aB (ap bM (pI aJ (pv 1) ag) aA (ax _)) (ah (aq (pM (pv 0) cH GHQ hr5 bD (aa (pI aJ (pv 1) ag) (aa (pI aJ (pv 1) ag) (aa (pI aJ (pv 1) ag) ae)))))) am)
   (aj (aB (ap bM (pI aJ (pv 1) ag) aA (ax _)) (ah (aq (pM (pv 0) cH GHK hr4 bD (aa (pI aJ (pv 1) ag) ae)))) am)
   (aj (aB (ap bM (pI aJ (pv 1) ag) aA (ax _)) (ah (aq (pM (pv 0) cH GHG hr7 bD (aa (pI aJ (pv 1) ag) (aa (cu dU (by rfl) T.list (by decide) (aa (pI aJ (pv 1) ag) ae)) (aa (pI aJ (pv 1) ag) ae)))))) am)
   (aj (aB (ap bM (pI aJ (pv 1) ag) aA (ax _)) (ah (aq (pM (pv 0) cH GHS hr3 bD (aa (pI aJ (pv 1) ag) (aa (pI aJ (pv 1) ag) ae))))) am)
   (aj (aB (ap bM (pI aJ (pv 1) ag) aA (ax _)) (ah (aq (pM (pv 0) cH GHT hr2 bD (aa (pI aJ (pv 1) ag) (aa (pI aJ (pv 1) ag) ae))))) am)
   (aj (aB (ap bM (pI aJ (pv 1) ag) aA (ax _)) (ah (aq (pM (pv 0) cH GHP hr2 bD (aa (pI aJ (pv 1) ag) ae)))) am)
   (ah (aq (pM (pv 0) cH GHB hr2 bD (aa (pI aJ (pv 1) ag) ae))))))))))),?_⟩
 try dsimp only[aC,aM]
 have hs:=aK;have lo:∀ {m:Str}{dd:Int},(m==zM "first_shades")=false→(m==zM "day_now")=false→(m==zM "standing")=false→(m==zM "books_from")=false→Aj m (hfs A0 dd)=none:=fun h1 h2 h3 h4=>ee h1 h2 h3 h4;have hp4:=gc ho hsn 400;have hgo:∀ os,GO so os↔GO (aR h.bk 400).1 os:=fun os=>GO.perm (hpm.trans hp4.symm)
 cases dd with
 | bring c z =>
   refine au (fun σ' H'=>False) (fun R hR=>?_) (fun _ _ h=>h.elim);walk_at"";refine⟨_,SqT.of htt,_,rfl,rfl,ay (fun _=>⟨A0.dx,_,hh.ins,lo (by decide) (by decide) (by decide) (by decide),_,SqT.of htt,_,rfl,_,SqT.of htt,_,rfl,A0,W,ss,ns,h,c,z,rfl,hh,ho,by omega,hf.1,hf.2,fun g H' S=>q1 _ _ H' (.inl ⟨g,rfl⟩) (.inl ⟨rfl,rfl⟩) S,fun g1 g2 H' S=>q1 _ _ H' (.inr (.inl ⟨g1,g2,rfl⟩)) (.inr (.inl ⟨rfl,rfl⟩)) S,fun g1 g2 g3 H' S=>q1 _ _ H' (.inr (.inr ⟨g1,g2,fun hz=>g3 (hpm.mem_iff.mp hz),rfl⟩)) (.inr (.inr (.inl ⟨rfl,rfl⟩))) S,fun _ _ _ hn=>absurd hn (by omega),fun g1 g2 g3 _ H' S hh'=>?_⟩) (fun h=>absurd rfl h)⟩;exact q2 ⟨g1,g2,hpm.mem_iff.mpr g3⟩ _ _ _ _ S (dH.refl H W) hh' (ho.bring g2 g3 g1) rfl rfl
 | dip c b d =>
   refine au (fun σ' H'=>σ'=[some (.ref A0.x),some (.ref t)]∧H'=H) (fun R hR=>?_) ?_
   . exact aY rfl htt (by decide) (hR _ _ ⟨rfl,rfl⟩)
   rintro σ1 H1 ⟨rfl,rfl⟩;refine au (fun σ' H'=>False) (fun R hR=>?_) (fun _ _ h=>h.elim);walk_at"";refine⟨_,SqT.of htt,_,rfl,rfl,ay (fun _=>⟨A0.dx,_,hh.ins,lo (by decide) (by decide) (by decide) (by decide),_,SqT.of htt,_,rfl,_,SqT.of htt,_,rfl,_,SqT.of htt,_,rfl,A0,W,ss,ns,h,c,b,d,rfl,hh,ho,hf.1,hf.2,fun g H' S=>q1 _ _ H' (.inl ⟨g,rfl⟩) (.inr (.inr (.inr (.inl ⟨rfl,rfl⟩)))) S,fun g1 g2 H' S=>q1 _ _ H' (.inr (.inl ⟨g1,g2,rfl⟩)) (.inr (.inr (.inr (.inr (.inl ⟨rfl,rfl⟩))))) S,fun g1 g2 g3 H' S=>q1 _ _ H' (.inr (.inr (.inl ⟨g1,g2,g3,rfl⟩))) (.inr (.inr (.inr (.inr (.inr (.inr (.inl ⟨rfl,rfl⟩))))))) S,fun g1 g2 g3 g4 H' S=>q1 _ _ H' (.inr (.inr (.inr ⟨g1,g2,g3,g4,rfl⟩))) (.inr (.inr (.inr (.inr (.inr (.inr (.inr (.inl ⟨rfl,rfl⟩)))))))) S,fun _ _ _ _ hn=>absurd hn (by omega),fun g1 g2 g3 g4 _ H' W' S G hh'=>?_⟩) (fun h=>absurd rfl h)⟩;obtain⟨Bd,hNd,hZd⟩:=ho.on d;exact q2 ⟨g1,g2,g3,g4⟩ _ _ _ _ S G hh' (ho.dip g3 g4 hdl ((hZd _).mp (rF Bd b ((hNd b).mpr g2) _ ((hZd _).mpr (gH ho g1 d))))) rfl rfl
 | back d =>
   refine au (fun σ' H'=>σ'=[some (.ref A0.x),some (.ref t)]∧H'=H) (fun R hR=>?_) ?_
   . exact aY rfl htt (by decide) (hR _ _ ⟨rfl,rfl⟩)
   rintro σ1 H1 ⟨rfl,rfl⟩;refine au (fun σ' H'=>σ'=[some (.ref A0.x),some (.ref t)]∧H'=H1) (fun R hR=>?_) ?_
   . exact aY rfl htt (by decide) (hR _ _ ⟨rfl,rfl⟩)
   rintro σ2 H2 ⟨rfl,rfl⟩;refine au (fun σ' H'=>False) (fun R hR=>?_) (fun _ _ h=>h.elim);walk_at"";refine⟨_,SqT.of htt,_,rfl,rfl,ay (fun _=>⟨A0.dx,_,hh.ins,lo (by decide) (by decide) (by decide) (by decide),_,SqT.of htt,_,rfl,A0,W,ss,ns,h,d,rfl,hh,ho,fun g H' S=>q1 _ _ H' (.inl ⟨g,rfl⟩) (.inr (.inr (.inr (.inr (.inr (.inr (.inl ⟨rfl,rfl⟩))))))) S,fun g1 g2 H' S=>q1 _ _ H' (.inr (.inl ⟨g1,g2,rfl⟩)) (.inr (.inr (.inr (.inr (.inr (.inr (.inr (.inl ⟨rfl,rfl⟩)))))))) S,fun g1 g2 g3 H' S=>q1 _ _ H' (.inr (.inr ⟨g1,g2,g3,rfl⟩)) (.inr (.inr (.inr (.inr (.inr (.inr (.inr (.inr (⟨rfl,rfl⟩))))))))) S,fun g1 g2 e he t' H' S ht' hh'=>?_⟩) (fun h=>absurd rfl h)⟩;refine q2 ⟨g1,g2,fun hn=>by rw[hn] at he;cases he⟩ _ _ _ _ S (dH.refl _ W) hh' ho.back rfl ?_;show n6 H' (.ref t') (match (bf h.dp d).getLast? with | some e=>.pair e.1 e.2 | none=>.non);rw[he];exact⟨t',rfl,ht'⟩
 | change b lu os d =>
   refine au (fun σ' H'=>σ'=[some (.ref A0.x),some (.ref t)]∧H'=H) (fun R hR=>?_) ?_
   . exact aY rfl htt (by decide) (hR _ _ ⟨rfl,rfl⟩)
   rintro σ1 H1 ⟨rfl,rfl⟩;refine au (fun σ' H'=>σ'=[some (.ref A0.x),some (.ref t)]∧H'=H1) (fun R hR=>?_) ?_
   . exact aY rfl htt (by decide) (hR _ _ ⟨rfl,rfl⟩)
   rintro σ2 H2 ⟨rfl,rfl⟩;refine au (fun σ' H'=>σ'=[some (.ref A0.x),some (.ref t)]∧H'=H2) (fun R hR=>?_) ?_
   . exact aY rfl htt (by decide) (hR _ _ ⟨rfl,rfl⟩)
   rintro σ3 H3 ⟨rfl,rfl⟩;refine au (fun σ' H'=>False) (fun R hR=>?_) (fun _ _ h=>h.elim);walk_at"";refine⟨_,SqT.of htt,_,rfl,rfl,ay (fun _=>⟨A0.dx,_,hh.ins,lo (by decide) (by decide) (by decide) (by decide),_,SqT.of htt,_,rfl,_,SqT.of htt,_,rfl,lu,rfl,_,.inl (SqL.of hf.2.1),fun l2 hl2=>?_⟩) (fun h=>absurd rfl h)⟩;have S2:=af.updN (o:=.lst (os.map V.str)) hl2;have hh2:=af.house S2 hh;refine⟨_,SqT.of (S2 _ _ htt),_,rfl,A0,W,ss,ns,os,h,b,l2,d,rfl,hh2,ho,hf.1,ac,hf.2.2.1,hf.2.2.2,fun g H' S=>q1 _ _ H' (.inl ⟨g,rfl⟩) (.inr (.inr (.inr (.inr (.inl ⟨rfl,rfl⟩))))) (S2.trans S),fun g1 g2 H' S=>q1 _ _ H' (.inr (.inl ⟨g1,fun g=>g2 ((hgo os).mp g),rfl⟩)) (.inr (.inr (.inr (.inr (.inr (.inl ⟨rfl,rfl⟩)))))) (S2.trans S),fun g1 g2 g3 H' S=>q1 _ _ H' (.inr (.inr (.inl ⟨g1,(hgo os).mpr g2,g3,rfl⟩))) (.inr (.inr (.inr (.inr (.inr (.inr (.inl ⟨rfl,rfl⟩))))))) (S2.trans S),fun g1 g2 g3 g4 H' S=>q1 _ _ H' (.inr (.inr (.inr ⟨g1,(hgo os).mpr g2,g3,g4,rfl⟩))) (.inr (.inr (.inr (.inr (.inr (.inr (.inr (.inl ⟨rfl,rfl⟩)))))))) (S2.trans S),fun g1 g2 g3 g4 g5 so2 ns2 H' W' CI B2 S G hh'=>?_⟩;exact q2 ⟨g1,(hgo os).mpr g2,g3,g4,g5⟩ _ _ _ _ ((ck S2).trans S) ⟨G.1,fun b o h1 h2=>G.2 b o h1 (S2 _ _ h2)⟩ hh' (ho.change g3 g4 (ho.ch CI B2)) ⟨so2,ns2,CI,B2,rfl⟩ rfl
 | shade c d =>
   refine au (fun σ' H'=>σ'=[some (.ref A0.x),some (.ref t)]∧H'=H) (fun R hR=>?_) ?_
   . exact aY rfl htt (by decide) (hR _ _ ⟨rfl,rfl⟩)
   rintro σ1 H1 ⟨rfl,rfl⟩;refine au (fun σ' H'=>σ'=[some (.ref A0.x),some (.ref t)]∧H'=H1) (fun R hR=>?_) ?_
   . exact aY rfl htt (by decide) (hR _ _ ⟨rfl,rfl⟩)
   rintro σ2 H2 ⟨rfl,rfl⟩;refine au (fun σ' H'=>σ'=[some (.ref A0.x),some (.ref t)]∧H'=H2) (fun R hR=>?_) ?_
   . exact aY rfl htt (by decide) (hR _ _ ⟨rfl,rfl⟩)
   rintro σ3 H3 ⟨rfl,rfl⟩;refine au (fun σ' H'=>σ'=[some (.ref A0.x),some (.ref t)]∧H'=H3) (fun R hR=>?_) ?_
   . exact aY rfl htt (by decide) (hR _ _ ⟨rfl,rfl⟩)
   rintro σ4 H4 ⟨rfl,rfl⟩;refine au (fun σ' H'=>False) (fun R hR=>?_) (fun _ _ h=>h.elim);walk_at"";refine⟨_,SqT.of htt,_,rfl,rfl,ay (fun _=>⟨A0.dx,_,hh.ins,lo (by decide) (by decide) (by decide) (by decide),_,SqT.of htt,_,rfl,_,SqT.of htt,_,rfl,A0,W,ss,ns,h,c,d,rfl,hh,ho,hf,fun g1 g2 H' S=>?_,fun g=>q1 _ _ _ (.inl ⟨g,rfl⟩) (.inr (.inr (.inr (.inl ⟨rfl,rfl⟩)))) (af.refl _),fun g1 g2=>q1 _ _ _ (.inr ⟨g1,g2,rfl⟩) (.inr (.inr (.inr (.inr (.inr (.inr (.inl ⟨rfl,rfl⟩))))))) (af.refl _)⟩) (fun h=>absurd rfl h)⟩;exact q2 ⟨g1,g2⟩ _ _ _ _ (ck S) (dH.refl _ W) (af.house S hh) ho rfl rfl
 | trail c d =>
   refine au (fun σ' H'=>σ'=[some (.ref A0.x),some (.ref t)]∧H'=H) (fun R hR=>?_) ?_
   . exact aY rfl htt (by decide) (hR _ _ ⟨rfl,rfl⟩)
   rintro σ1 H1 ⟨rfl,rfl⟩;refine au (fun σ' H'=>σ'=[some (.ref A0.x),some (.ref t)]∧H'=H1) (fun R hR=>?_) ?_
   . exact aY rfl htt (by decide) (hR _ _ ⟨rfl,rfl⟩)
   rintro σ2 H2 ⟨rfl,rfl⟩;refine au (fun σ' H'=>σ'=[some (.ref A0.x),some (.ref t)]∧H'=H2) (fun R hR=>?_) ?_
   . exact aY rfl htt (by decide) (hR _ _ ⟨rfl,rfl⟩)
   rintro σ3 H3 ⟨rfl,rfl⟩;refine au (fun σ' H'=>σ'=[some (.ref A0.x),some (.ref t)]∧H'=H3) (fun R hR=>?_) ?_
   . exact aY rfl htt (by decide) (hR _ _ ⟨rfl,rfl⟩)
   rintro σ4 H4 ⟨rfl,rfl⟩;refine au (fun σ' H'=>σ'=[some (.ref A0.x),some (.ref t)]∧H'=H4) (fun R hR=>?_) ?_
   . exact aY rfl htt (by decide) (hR _ _ ⟨rfl,rfl⟩)
   rintro σ5 H5 ⟨rfl,rfl⟩;refine au (fun σ' H'=>False) (fun R hR=>?_) (fun _ _ h=>h.elim);walk_at"";refine⟨_,SqT.of htt,_,rfl,rfl,ay (fun _=>⟨A0.dx,_,hh.ins,lo (by decide) (by decide) (by decide) (by decide),_,SqT.of htt,_,rfl,_,SqT.of htt,_,rfl,A0,W,ss,ns,h,c,d,rfl,hh,ho,hf,fun g1 g2 l ps H' S _ hl hT=>?_,fun g=>q1 _ _ _ (.inl ⟨g,rfl⟩) (.inr (.inr (.inr (.inl ⟨rfl,rfl⟩)))) (af.refl _),fun g1 g2=>q1 _ _ _ (.inr ⟨g1,g2,rfl⟩) (.inr (.inr (.inr (.inr (.inr (.inr (.inl ⟨rfl,rfl⟩))))))) (af.refl _)⟩) (fun h=>absurd rfl h)⟩;exact q2 ⟨g1,g2⟩ _ _ _ _ (ck S) (dH.refl _ W) (af.house S hh) ho rfl ⟨l,ps,rfl,hl,hT⟩
 | dips d =>
   refine au (fun σ' H'=>σ'=[some (.ref A0.x),some (.ref t)]∧H'=H) (fun R hR=>?_) ?_
   . exact aY rfl htt (by decide) (hR _ _ ⟨rfl,rfl⟩)
   rintro σ1 H1 ⟨rfl,rfl⟩;refine au (fun σ' H'=>σ'=[some (.ref A0.x),some (.ref t)]∧H'=H1) (fun R hR=>?_) ?_
   . exact aY rfl htt (by decide) (hR _ _ ⟨rfl,rfl⟩)
   rintro σ2 H2 ⟨rfl,rfl⟩;refine au (fun σ' H'=>σ'=[some (.ref A0.x),some (.ref t)]∧H'=H2) (fun R hR=>?_) ?_
   . exact aY rfl htt (by decide) (hR _ _ ⟨rfl,rfl⟩)
   rintro σ3 H3 ⟨rfl,rfl⟩;refine au (fun σ' H'=>σ'=[some (.ref A0.x),some (.ref t)]∧H'=H3) (fun R hR=>?_) ?_
   . exact aY rfl htt (by decide) (hR _ _ ⟨rfl,rfl⟩)
   rintro σ4 H4 ⟨rfl,rfl⟩;refine au (fun σ' H'=>σ'=[some (.ref A0.x),some (.ref t)]∧H'=H4) (fun R hR=>?_) ?_
   . exact aY rfl htt (by decide) (hR _ _ ⟨rfl,rfl⟩)
   rintro σ5 H5 ⟨rfl,rfl⟩;refine au (fun σ' H'=>σ'=[some (.ref A0.x),some (.ref t)]∧H'=H5) (fun R hR=>?_) ?_
   . exact aY rfl htt (by decide) (hR _ _ ⟨rfl,rfl⟩)
   rintro σ6 H6 ⟨rfl,rfl⟩;refine au (fun σ' H'=>False) (fun R hR=>?_) (fun _ _ h=>h.elim);walk_at"";refine⟨_,SqT.of htt,_,rfl,rfl,ay (fun _=>⟨A0.dx,_,hh.ins,lo (by decide) (by decide) (by decide) (by decide),_,SqT.of htt,_,rfl,A0,W,ss,ns,h,d,rfl,hh,ho,fun g l ps H' S _ hl hT=>?_,fun g=>q1 _ _ _ ⟨g,rfl⟩ (.inr (.inr (.inr (.inr (.inr (.inr (.inl ⟨rfl,rfl⟩))))))) (af.refl _)⟩) (fun h=>absurd rfl h)⟩;exact q2 g _ _ _ _ (ck S) (dH.refl _ W) (af.house S hh) ho rfl ⟨l,ps,rfl,hl,hT⟩
 | book d =>
   refine au (fun σ' H'=>σ'=[some (.ref A0.x),some (.ref t)]∧H'=H) (fun R hR=>?_) ?_
   . exact aY rfl htt (by decide) (hR _ _ ⟨rfl,rfl⟩)
   rintro σ1 H1 ⟨rfl,rfl⟩;refine au (fun σ' H'=>σ'=[some (.ref A0.x),some (.ref t)]∧H'=H1) (fun R hR=>?_) ?_
   . exact aY rfl htt (by decide) (hR _ _ ⟨rfl,rfl⟩)
   rintro σ2 H2 ⟨rfl,rfl⟩;refine au (fun σ' H'=>σ'=[some (.ref A0.x),some (.ref t)]∧H'=H2) (fun R hR=>?_) ?_
   . exact aY rfl htt (by decide) (hR _ _ ⟨rfl,rfl⟩)
   rintro σ3 H3 ⟨rfl,rfl⟩;refine au (fun σ' H'=>σ'=[some (.ref A0.x),some (.ref t)]∧H'=H3) (fun R hR=>?_) ?_
   . exact aY rfl htt (by decide) (hR _ _ ⟨rfl,rfl⟩)
   rintro σ4 H4 ⟨rfl,rfl⟩;refine au (fun σ' H'=>σ'=[some (.ref A0.x),some (.ref t)]∧H'=H4) (fun R hR=>?_) ?_
   . exact aY rfl htt (by decide) (hR _ _ ⟨rfl,rfl⟩)
   rintro σ5 H5 ⟨rfl,rfl⟩;refine au (fun σ' H'=>σ'=[some (.ref A0.x),some (.ref t)]∧H'=H5) (fun R hR=>?_) ?_
   . exact aY rfl htt (by decide) (hR _ _ ⟨rfl,rfl⟩)
   rintro σ6 H6 ⟨rfl,rfl⟩;refine au (fun σ' H'=>σ'=[some (.ref A0.x),some (.ref t)]∧H'=H6) (fun R hR=>?_) ?_
   . exact aY rfl htt (by decide) (hR _ _ ⟨rfl,rfl⟩)
   rintro σ7 H7 ⟨rfl,rfl⟩;walk_at"";refine⟨A0.dx,_,hh.ins,lo (by decide) (by decide) (by decide) (by decide),_,SqT.of htt,_,rfl,A0,W,ss,ns,h,d,rfl,hh,ho,fun g r H' S hb=>?_,fun g=>q1 _ _ H7 ⟨g,rfl⟩ (.inr (.inr (.inr (.inr (.inr (.inr (.inl ⟨rfl,rfl⟩))))))) (af.refl _)⟩;exact q2 g _ _ _ _ (ck S) (dH.refl _ W) (af.house S hh) ho rfl ⟨r,rfl,hb⟩
def oQ:Sp:=fun _ _ _ _=>False
theorem yv {f:Addr}{fd:FuncData}{ps:List Str}:aU P w K mg base CX0 0 f fd ps oQ:=⟨fun _ _ _ _ h=>h.elim,fun _ _ _ _ _ _ _ _ _ _ _ _ _ h=>h.elim⟩
theorem uA {spR:Sp}{z:Str}{H:Hp}{Q:VK}{E:XK}(q:Q (.bl true) H):eP spR [.str z,.str z] H Q E:=⟨_,_,rfl,.inl ⟨z,z,rfl,rfl,by rw[decide_eq_true rfl];exact q⟩⟩
theorem p8 {spR:Sp}{a b:Addr}{xs:List V}{H:Hp}{Q:VK}{E:XK}(ha:H a=some (.tup xs))(hb:H b=some (.tup xs))(hn:xs.length≤1000)(hx:∀ x∈xs,(∃ z,x=.str z)∨∃ i,x=.int i)(q:Q (.bl true) H):eP (eP spR) [.ref a,.ref b] H Q E :=
 ⟨_,_,rfl,.inr (.inr (.inr ⟨a,b,xs,xs,rfl,rfl,.inr ⟨ha,hb⟩,rfl,hn,fun i u v hu hv Q' E' q'=>by
   rw[hu] at hv;cases hv
   rcases hx u (zS hu) with ⟨z,rfl⟩ | ⟨z,rfl⟩
   . exact uA q'
   . exact⟨_,_,rfl,.inr (.inl ⟨z,z,rfl,rfl,by rw[decide_eq_true rfl];exact q'⟩)⟩,q⟩))⟩
theorem vX {spR:Sp}{a b:Addr}{ps qs:List Addr}{L:List (List V)}{H:Hp}{Q:VK}{E:XK}(ha:H a=some (.lst (ps.map V.ref)))(hb:H b=some (.lst (qs.map V.ref)))(hp:cf H ps L)(hq:cf H qs L)(hn:L.length≤1000)(hk:∀ e∈L,e.length≤1000)(hx:∀ e∈L,∀ x∈e,(∃ z,x=.str z)∨∃ i,x=.int i)(q:Q (.bl true) H):eP (eP (eP spR)) [.ref a,.ref b] H Q E:=by
 refine⟨_,_,rfl,.inr (.inr (.inr ⟨a,b,_,_,rfl,rfl,.inl ⟨ha,hb⟩,by rw[be,be,hp.1,hq.1],by rw[be,hq.1];exact hn,fun i u v hu hv Q' E' q'=>?_,q⟩))⟩;rw[zO] at hu hv;obtain⟨p,hp1,rfl⟩:=Option.map_eq_some_iff.mp hu;obtain⟨r,hr1,rfl⟩:=Option.map_eq_some_iff.mp hv;obtain⟨e,he⟩:∃ e,L[i]?=some e:=⟨_,zN (by rw[←hp.1];exact(List.getElem?_eq_some_iff.mp hp1).1)⟩;have hm:=zS he;exact p8 (hp.2 i p e hp1 he) (hq.2 i r e hr1 he) (hk e hm) (hx e hm) q'
theorem xK {spR:Sp}{H:Hp}{Q:VK}{E:XK}(q:Q (.bl true) H):eP spR [.non,.non] H Q E:=⟨_,_,rfl,.inr (.inr (.inl ⟨rfl,rfl,q⟩))⟩
theorem zL {t:Str}:∀ x∈[V.str "refused",V.str t,V.int 0],(∃ z,x=.str z)∨∃ i,x=.int i:=by
 intro x hx;simp only[AE,Ax,or_false] at hx
 rcases hx with rfl | rfl | rfl
 . exact .inl ⟨_,rfl⟩
 . exact .inl ⟨_,rfl⟩
 . exact .inr ⟨_,rfl⟩
theorem yL {t u:Str}:∀ x∈[V.str t,V.str u],(∃ z,x=.str z)∨∃ i,x=.int i:=by
 intro x hx;simp only[AE,Ax,or_false] at hx
 rcases hx with rfl | rfl
 . exact .inl ⟨_,rfl⟩
 . exact .inl ⟨_,rfl⟩
theorem Dd.one {ns so:List Str}{h:Hs}{dd:Dd}{w w':Str}(a:dd.bad ns so h w)(b:dd.bad ns so h w'):w=w':=by
 cases dd<;>simp only[Dd.bad] at a b<;>grind
theorem Dd.not {ns so:List Str}{h:Hs}{dd:Dd}{w:Str}(a:dd.bad ns so h w)(b:dd.good ns so h):False:=by
 cases dd<;>simp only[Dd.bad,Dd.good] at a b<;>grind
def fX (A:Ad)(W:Hp)(X:Addr→Bool):Addr→Bool:=fun b=>decide (b=A.x∨b=A.d1∨b=A.ls∨b=A.db)||(W b).isSome||X b
theorem dg {A:Ad}{W:Hp}{X:Addr→Bool}{b:Addr}(h:fX A W X b=false):(b≠A.x∧b≠A.d1∧b≠A.ls∧b≠A.db)∧W b=none∧X b=false:=by
 unfold fX at h;rw[Bool.or_eq_false_iff,Bool.or_eq_false_iff,decide_eq_false_iff_not] at h;refine⟨⟨fun e=>h.1.1 (.inl e),fun e=>h.1.1 (.inr (.inl e)),fun e=>h.1.1 (.inr (.inr (.inl e))),fun e=>h.1.1 (.inr (.inr (.inr e)))⟩,?_,h.2⟩
 cases hw:W b with
 | none=>rfl
 | some o=>have:=h.1.2;rw[hw] at this;cases this
theorem v7 {A:Ad}{W:Hp}{X:Addr→Bool}{b:Addr}(h1:b≠A.x∧b≠A.d1∧b≠A.ls∧b≠A.db)(h2:W b=none)(h3:X b=false):fX A W X b=false:=by
 unfold fX;rw[Bool.or_eq_false_iff,Bool.or_eq_false_iff,decide_eq_false_iff_not];exact⟨⟨fun e=>by rcases e with e | e | e | e;exact h1.1 e;exact h1.2.1 e;exact h1.2.2.1 e;exact h1.2.2.2 e,by rw[h2];rfl⟩,h3⟩
theorem rA {H H' W W':Hp}{A:Ad}{X:Addr→Bool}(S:af (hid H A) (hid H' A))(G:dH H W W'):af (bj (fX A W X) H) (bj (fX A W' X) H'):=fun b o e=>by
 obtain⟨h1,h2⟩:=aQ e;obtain⟨n1,n2,n3⟩:=dg h2;have h3:=S b o (fe h1 n1.1 n1.2.1 n1.2.2.1 n1.2.2.2);exact cj (aZ _ _ h3) (v7 n1 (G.2 b o n2 h1) n3)
theorem aI.own {H H':Hp}{C CB:Addr}{A:Ad}{W:Hp}{ss:List Str}{h:Hs}{ks:List Addr}(hh:aI H C CB A W ss h)(O:Owx ks H H')(hk:∀ k∈ks,(k≠A.x∧k≠A.d1∧k≠A.ls∧k≠A.db)∧W k=none):aI H' C CB A W ss h:=by
 obtain⟨h1,h2,⟨ps,h3,h4,h5⟩,⟨rs,h6,h7,h8⟩,h9,h10⟩:=hh;refine⟨O _ _ (fun m=>(hk _ m).1.1 rfl) h1,O _ _ (fun m=>(hk _ m).1.2.1 rfl) h2,⟨ps,O _ _ (fun m=>(hk _ m).1.2.2.1 rfl) h3,h4,h5⟩,⟨rs,O _ _ (fun m=>(hk _ m).1.2.2.2 rfl) h6,h7,h8⟩,h9,fun b o e=>?_⟩;obtain⟨e1,n⟩:=gI (h10 b o e);exact fe (O b o (fun m=>by have:=(hk b m).2;rw[e] at this;cases this) e1) n.1 n.2.1 n.2.2.1 n.2.2.2
theorem KI.bk {G:Hp}{lk kc kd kt lo:Addr}{so ns ss:List Str}{h h':Hs}{T:List (Int×LK)}(K:KI G lk kc kd kt lo so ns ss h T)(e1:h'.cl=h.cl)(e2:h'.day=h.day)(e3:h'.dp=h.dp):KI G lk kc kd kt lo so ns ss h' T:=by
 obtain⟨⟨h1,h2,h3,h4,h5⟩,h6,h7⟩:=K;exact⟨⟨by rw[e2];exact h1,h2,by rw[e1];exact h3,by rw[e3];exact h4,h5⟩,by rw[e1];exact h6,h7⟩
structure J38 (H:Hp)(CH CB:Addr)(A:Ad)(W:Hp)(X:Addr→Bool)(lk kc kd kt lo:Addr)(so ns ss:List Str) (h:Hs)(Tb:List (Int×LK)):Prop where
 hh:aI H CH CB A W ss h
 ki:KI (bj (fX A W X) H) lk kc kd kt lo so ns ss h Tb
 oc:eS X H
 ka:oI ns so ss h Tb
theorem aI.occ {H:Hp}{C CB:Addr}{A:Ad}{W:Hp}{ss:List Str}{h:Hs}{X:Addr→Bool}(hh:aI H C CB A W ss h)(oc:eS X H):eS (fX A W X) H:=fun b hb e=>by
 have:fX A W X b=false:=v7 ⟨(fun z=>by rw[z,hh.ins] at e;cases e),(fun z=>by rw[z,hh.cl] at e;cases e),(fun z=>by obtain⟨ps,h1,_⟩:=hh.dp;rw[z,h1] at e;cases e),(fun z=>by obtain⟨rs,h1,_⟩:=hh.bk;rw[z,h1] at e;cases e)⟩ (hh.up.free e) (oc.new e);rw[this] at hb;cases hb
def Dd.nm:Dd→Str
 | .bring _ _=>"bring"
 | .dip _ _ _=>"dip"
 | .back _=>"back"
 | .change _ _ _ _=>"change"
 | .shade _ _=>"shade"
 | .trail _ _=>"trail"
 | .dips _=>"dips"
 | .book _=>"book"
def Dd.luok (ks:List Addr):Dd→Prop
 | .change _ lu _ _=>lu∉ks
 | _=>True
theorem DvN.keep {H H1 H2:Hp}{C CB:Addr}{A:Ad}{W W1:Hp}{ss:List Str}{h h1:Hs}{v:V}{dv:DV}(d:DvN H H1 v dv)(hh:aI H C CB A W ss h)(hh1:aI H1 C CB A W1 ss h1)(S:af (hid H1 A) (hid H2 A)):n6 H2 v dv:=by
 have kt:∀ {ps:List Addr}{L:List (List V)},cf H1 ps L→cf H2 ps L:=fun {ps L} t=>⟨t.1,fun i p e hp he=>aZ _ _ (S _ _ (nq hh1 (t.2 i p e hp he)))⟩
 cases dv with
 | non=>exact d
 | str z=>exact d
 | pair a b =>
   obtain⟨t,rfl,ht⟩:=d;exact⟨t,rfl,aZ _ _ (S _ _ (nq hh1 ht))⟩
 | trail L =>
   obtain⟨l,ps,rfl,hn,hl,hT⟩:=d;exact⟨l,ps,rfl,aZ _ _ (S _ _ (nw hh hn hl)),kt hT⟩
 | dips L =>
   obtain⟨l,ps,rfl,hn,hl,hT⟩:=d;exact⟨l,ps,rfl,aZ _ _ (S _ _ (nw hh hn hl)),kt hT⟩
structure zi (K:PySem.W.Frag)(cs:List Addr)(dip cBN cKn cNS cNC cNB cBB cND cLa cNo:Addr):Prop where
 bits:∀ C w,zA cBN cKn cNS cNC cNB cBB cND cLa cNo C w→∃ bits,Bits K cs dip C bits∧dN (true::bits)=zM "ValueError "++w
theorem sF {dd:Dd}{H H':Hp}(h:dd.fine H)(S:af H H'):dd.fine H':=by
 cases dd with
 | change b lu os d=>exact⟨h.1,S _ _ h.2.1,h.2.2⟩
 | bring c z=>exact h
 | dip c b d=>exact h
 | back d=>trivial
 | shade c d=>exact h
 | trail c d=>exact h
 | dips d=>trivial
 | book d=>trivial
theorem TOk.last {ss ns:List Str}{h:Hs}{Tb:List (Int×LK)}(TO:TOk ss ns h Tb)(ts:∀ e∈Tb,e.1≤h.day)(hd:h.day≤400){el:Int×LK}(hl:Tb.getLast?=some el):∀ n∈ns,∀ z∈ss,el.2 n z=lkB (aR h.bk 400).1 (aR h.bk 400).2 n z:=by
 obtain⟨lk,h1,h2⟩:=TO.to 400 (by decide)
 have:fQ Tb 400=some el.2:=by
   unfold fQ;rw[List.filter_eq_self.mpr (fun e he=>decide_eq_true (Cq (ts e he) hd)),hl];rfl
 rw[this] at h1;cases h1;exact h2
theorem fM.bring {h:Hs}(HR:fM h)(hcn:∀ e∈h.dp,e.2.1∈h.cl.map (·.1)){c z:Str}:fM { h with cl:=h.cl++[(c,z)] }:=by
 refine⟨HR.srt,fun i e he=>?_⟩;have h1:=HR.out i e he;rw[h1]
 congr 1
 have hm:=hcn e (zS he);unfold aV;show(match (aX (h.dp.take i) e.2.1 e.1).getLast? with | some e=>e.2.2 | none=>((h.cl.lookup e.2.1).getD ⟨#[]⟩))=(match (aX (h.dp.take i) e.2.1 e.1).getLast? with | some e=>e.2.2 | none=>(((h.cl++[(c,z)]).lookup e.2.1).getD ⟨#[]⟩))
 have hl:(h.cl++[(c,z)]).lookup e.2.1=h.cl.lookup e.2.1:=by
   rw[List.lookup_append];obtain⟨x,hx,hxe⟩:=List.mem_map.mp hm
   cases hk:h.cl.lookup e.2.1 with
   | some y=>rfl
   | none =>
     exfalso;have:=List.lookup_eq_none_iff.mp hk x hx;simp[hxe] at this
 rw[hl]
theorem fM.back {h:Hs}(HR:fM h):fM { h with dp:=h.dp.dropLast }:=by
 refine⟨HR.srt.sublist (Bf _),fun i e he=>?_⟩;have hi:i < h.dp.dropLast.length:=(List.getElem?_eq_some_iff.mp he).1
 have he2:h.dp[i]?=some e:=by
   have he3:h.dp.dropLast[i]?=some e:=he;rw[List.getElem?_dropLast] at he3
   split at he3
   . exact he3
   . cases he3
 have h1:=HR.out i e he2;rw[AM] at hi;rw[h1]
 congr 2
 show({ h with dp:=h.dp.take i }:Hs)={ h with dp:=h.dp.dropLast.take i };rw[BR,List.take_take,Nat.min_eq_left (by omega)]
theorem wL {dp:List (Int×Str×Str×Str)}{d:Int}(h:bf dp d=[]):∀ e∈dp,e.1≠d:=fun e he k=>by
 unfold bf at h;have:=List.filter_eq_nil_iff.mp (List.map_eq_nil_iff.mp h) e he;simp[k] at this
theorem oI.step {ns so ss:List Str}{h h':Hs}{Tb:List (Int×LK)}{dd:Dd}(ka:oI ns so ss h Tb)(hg:dd.good ns so h)(hst:n0 h h' dd)(ho':bH ss ns h')(hdl:h.dp.length+1 < 1000)(htl:Tb.length+1 < 1000)(hcl:h.cl.length < 50) :
   oI ns so ss h' (dd.tb so Tb)∧h'.dp.length≤h.dp.length+1∧(dd.tb so Tb).length≤Tb.length+1∧∀ c∈h'.cl,c∈h.cl∨∃ z,dd=.bring c.1 z:=by
 have same:h'=h→Dd.tb so Tb dd=Tb→oI ns so ss h' (dd.tb so Tb)∧h'.dp.length≤h.dp.length+1∧(dd.tb so Tb).length≤Tb.length+1∧∀ c∈h'.cl,c∈h.cl∨∃ z,dd=.bring c.1 z:=fun e1 e2=>by
   rw[e1,e2];exact⟨ka,by omega,by omega,fun c hc=>.inl hc⟩
 cases dd with
 | bring c z =>
   cases hst;refine⟨⟨⟨ka.TO.t0,ka.TO.to,ka.TO.tl⟩,ka.HR.bring ka.hcn,ho',ka.hbn,fun e he=>?_,ka.ts,ka.ssn,ka.son,ka.srt,ka.nsn,ka.pm,ka.so12,ka.ns8,ka.dl,?_,ka.tl9⟩,by show h.dp.length≤_;omega,by show Tb.length≤_;omega,fun x hx=>?_⟩
   . show e.2.1∈(h.cl++[(c,z)]).map (·.1);rw[zU];exact AX _ (ka.hcn e he)
   . show(h.cl++[(c,z)]).length≤60;rw[zP,zV];omega
   . rcases List.mem_append.mp hx with hx | hx
     . exact .inl hx
     . rw[List.mem_singleton.mp hx];exact .inr ⟨z,rfl⟩
 | dip c b d =>
   obtain⟨g1,g2,g3,g4⟩:=hg;cases hst;refine⟨⟨⟨ka.TO.t0,ka.TO.to,ka.TO.tl⟩,ka.HR.dip ka.ho g4,ho',fun e he=>?_,fun e he=>?_,fun e he=>⟨(ka.ts e he).1,Cq (ka.ts e he).2 g4⟩,ka.ssn,ka.son,ka.srt,ka.nsn,ka.pm,ka.so12,ka.ns8,?_,ka.cl60,ka.tl9⟩,?_,by show Tb.length≤_;omega,fun x hx=>.inl hx⟩
   . rcases List.mem_append.mp he with he | he
     . exact ka.hbn e he
     . rw[List.mem_singleton.mp he];exact g2
   . rcases List.mem_append.mp he with he | he
     . exact ka.hcn e he
     . rw[List.mem_singleton.mp he];exact g1
   . show(h.dp++[_]).length < 1000;rw[zP,zV];omega
   . show(h.dp++[_]).length≤_;rw[zP,zV];omega
 | back d =>
   cases hst;refine⟨⟨⟨ka.TO.t0,ka.TO.to,ka.TO.tl⟩,ka.HR.back,ho',fun e he=>ka.hbn e ((Bf _).subset he),fun e he=>ka.hcn e ((Bf _).subset he),ka.ts,ka.ssn,ka.son,ka.srt,ka.nsn,ka.pm,ka.so12,ka.ns8,?_,ka.cl60,ka.tl9⟩,?_,by show Tb.length≤_;omega,fun x hx=>.inl hx⟩
   . show h.dp.dropLast.length < 1000;rw[AM];omega
   . show h.dp.dropLast.length≤_;rw[AM];omega
 | change b lu os d =>
   obtain⟨g1,g2,g3,g4,g5⟩:=hg;obtain⟨so2,ns2,CI,B2,rfl⟩:=hst;have e2:=yX ka.ho ka.ssn ka.pm ka.srt CI;subst e2
   obtain⟨el,hel⟩:∃ el,Tb.getLast?=some el:=by
     obtain⟨e0,r,he⟩:=ka.TO.t0;exact⟨_,AL (by rw[he];intro k;cases k)⟩
   have etb:Dd.tb so2 Tb (.change b lu os d)=Tb++[(d,d9 so2 b os el.2)]:=by
     show(match Tb.getLast? with | some el=>Tb++[(d,d9 so2 b os el.2)] | none=>Tb)=_;rw[hel]
   rw[etb];have hlast:=ka.TO.last (fun e he=>(ka.ts e he).2) ka.ho.d4 hel;obtain⟨B4,hN4,hZ4⟩:=ka.ho.on 400
   have hlt:∀ e∈h.dp,e.1 < d:=fun e he=>by
     have h1:=(ka.ho.dd e he).2;have h2:=wL g5 e he;omega
   refine⟨⟨⟨?_,fun e he=>?_,by rw[zP,zV];omega⟩,⟨ka.HR.srt,fun i e he=>?_⟩,ho',ka.hbn,ka.hcn,fun e he=>?_,ka.ssn,ka.son,ka.srt,ka.nsn,ka.pm,ka.so12,ka.ns8,ka.dl,ka.cl60,by rw[zP,zV];omega⟩,by show h.dp.length≤_;omega,by rw[zP,zV];omega,fun x hx=>.inl hx⟩
   . obtain⟨e0,r,he⟩:=ka.TO.t0;exact⟨e0,r++[_],by rw[he];rfl⟩
   . rw[fJ];show ∃ lk:LK,_∧∀ n∈ns,∀ z∈ss,lk n z=lkB (aR (cg h.bk d _) e).1 (aR (cg h.bk d _) e).2 n z;rw[nP ka.ho ho' he];by_cases hle:d≤e
     . rw[if_pos hle,if_pos hle];refine⟨_,rfl,fun n hn z hz=>?_⟩;have hn2:n∈ns2:=CI.pn.mem_iff.mpr ((hN4 n).mpr hn);rw[xG B4 CI B2 hn2 (ka.pm.mem_iff.mpr hz)];show d9 so2 b os el.2 n z=_;unfold d9;by_cases hnb:n=b
       . rw[if_pos hnb,if_pos hnb]
       . rw[if_neg hnb,if_neg hnb];exact hlast n hn z hz
     . rw[if_neg hle,if_neg hle];exact ka.TO.to e he
   . have h1:=ka.HR.out i e he;show e.2.2.2=lkB (aR (cg h.bk d _) e.1).1 (aR (cg h.bk d _) e.1).2 e.2.2.1 _;rw[nP ka.ho ho' (ka.ho.dd e (zS he)).1,if_neg (by have:=hlt e (zS he);omega)];exact h1
   . rcases List.mem_append.mp he with he | he
     . exact⟨(ka.ts e he).1,Cq (ka.ts e he).2 g4⟩
     . rw[List.mem_singleton.mp he];exact⟨g3.1,BA _⟩
 | shade c d=>exact same hst rfl
 | trail c d=>exact same hst rfl
 | dips d=>exact same hst rfl
 | book d=>exact same hst rfl
theorem n0.eq {h h':Hs}{dd:Dd}(s:n0 h h' dd):h'.cl=(dd.step h).cl∧h'.day=(dd.step h).day∧h'.dp=(dd.step h).dp:=by
 cases dd with
 | change b lu os d=>obtain⟨_,_,_,_,rfl⟩:=s;exact⟨rfl,rfl,rfl⟩
 | bring c z=>cases s;exact⟨rfl,rfl,rfl⟩
 | dip c b d=>cases s;exact⟨rfl,rfl,rfl⟩
 | back d=>cases s;exact⟨rfl,rfl,rfl⟩
 | shade c d=>cases s;exact⟨rfl,rfl,rfl⟩
 | trail c d=>cases s;exact⟨rfl,rfl,rfl⟩
 | dips d=>cases s;exact⟨rfl,rfl,rfl⟩
 | book d=>cases s;exact⟨rfl,rfl,rfl⟩
theorem J38.same {H H':Hp}{CH CB:Addr}{A:Ad}{W:Hp}{X:Addr→Bool}{lk kc kd kt lo:Addr}{so ns ss:List Str}{h:Hs}{Tb:List (Int×LK)}(J:J38 H CH CB A W X lk kc kd kt lo so ns ss h Tb)(S:af H H'):J38 H' CH CB A W X lk kc kd kt lo so ns ss h Tb :=
 ⟨af.house S J.hh,J.ki.same (aO S),J.oc.same S,J.ka⟩
def DV.len:DV→Nat
 | .trail L=>L.length
 | .dips L=>L.length
 | _=>0
theorem il {H:Hp}{a b:V}{dv:DV}{Q:VK}{E:XK}(h1:n6 H a dv)(h2:n6 H b dv)(hl:dv.len≤1000)(q:Q (.bl true) H):eP (eP (eP oQ)) [a,b] H Q E:=by
 cases dv with
 | non=>cases h1;cases h2;exact xK q
 | str z=>cases h1;cases h2;exact uA q
 | pair x y =>
   obtain⟨t,rfl,ht⟩:=h1;obtain⟨t2,rfl,ht2⟩:=h2;exact p8 ht ht2 (by show 2≤1000;decide) yL q
 | trail L =>
   obtain⟨l,ps,rfl,hl1,hT1⟩:=h1;obtain⟨l2,ps2,rfl,hl2,hT2⟩:=h2;refine vX hl1 hl2 hT1 hT2 (by rw[be];exact hl) (fun e he=>?_) (fun e he=>?_) q
   . obtain⟨x,_,rfl⟩:=List.mem_map.mp he;show 3≤1000
     decide
   . obtain⟨x,_,rfl⟩:=List.mem_map.mp he;intro y hy;simp only[AE,Ax,or_false] at hy
     rcases hy with rfl | rfl | rfl
     . exact .inr ⟨_,rfl⟩
     . exact .inl ⟨_,rfl⟩
     . exact .inl ⟨_,rfl⟩
 | dips L =>
   obtain⟨l,ps,rfl,hl1,hT1⟩:=h1;obtain⟨l2,ps2,rfl,hl2,hT2⟩:=h2;refine vX hl1 hl2 hT1 hT2 (by rw[be];exact hl) (fun e he=>?_) (fun e he=>?_) q
   . obtain⟨x,_,rfl⟩:=List.mem_map.mp he;show 2≤1000
     decide
   . obtain⟨x,_,rfl⟩:=List.mem_map.mp he;exact yL
theorem Dd.vlen {h:Hs}{dd:Dd}(hd:h.dp.length≤1000):(dd.val h).len≤1000:=by
 cases dd with
 | trail c d =>
   show(aX h.dp c d).length≤1000;unfold aX;rw[be];exact AG (A4 _ _) hd
 | dips d =>
   show(bf h.dp d).length≤1000;unfold bf;rw[be];exact AG (A4 _ _) hd
 | back d =>
   show(match (bf h.dp d).getLast? with | some e=>DV.pair e.1 e.2 | none=>DV.non).len≤1000
   split<;>exact AF _
 | bring c z=>exact AF _
 | dip c b d=>exact AF _
 | change b lu os d=>exact AF _
 | shade c d=>exact AF _
 | book d=>exact AF _
structure Own (K:PySem.W.Frag)(C:Addr):Prop where
 ha:AV K (.ref (C)) "__class__"=some (some (.builtin "object.__class__"))
 hn:PySem.W.specialIn K (.builtin "object.__class__") "__get__"=some (some (.builtin "getset_descriptor.__get__"))
 ht:PySem.W.takesIn K (.builtin "object.__class__")=some true
 hm:PySem.W.mroIn K C (.type "object")=some true
theorem oX {F:Addr→Bool}{H H':Hp}(S:Fz H H'):Fz (bj F H) (bj F H'):=by
 refine⟨fun b o h n=>cj (S.1 b o (aQ h).1 n) (aQ h).2,fun b o h=>?_⟩
 have hb:F b=false∧Rd H b o:=by
   rcases h with h | ⟨u,h⟩
   . exact⟨(aQ h).2,.inl (aQ h).1⟩
   . exact⟨(aQ h).2,.inr ⟨u,(aQ h).1⟩⟩
 rcases S.2 b o hb.2 with h | ⟨u,h⟩
 . exact .inl (cj h hb.1)
 . exact .inr ⟨u,cj h hb.1⟩
theorem KI.frz {G G':Hp}{lk kc kd kt lo d:Addr}{so ns ss:List Str}{h:Hs}{T:List (Int×LK)}(K:KI G lk kc kd kt lo so ns ss h T)(S:Fz G G')(SX:i5 d G G')(hd:d≠kc):KI G' lk kc kd kt lo so ns ss h T:=⟨K.r.fz S,SX _ _ (Ne.symm hd) K.kcx,K.ne⟩
theorem J38.frz {H H':Hp}{CH CB d:Addr}{A:Ad}{W:Hp}{X:Addr→Bool}{lk kc kd kt lo:Addr}{so ns ss:List Str}{h:Hs}{Tb:List (Int×LK)}(J:J38 H CH CB A W X lk kc kd kt lo so ns ss h Tb)(S:Fz H H')(SX:i5 d H H')(hf:fX A W X d=false)(hd:d≠kc):J38 H' CH CB A W X lk kc kd kt lo so ns ss h Tb:=by
 obtain⟨n1,n2,n3⟩:=dg hf;refine⟨J.hh.frz n1 n2 SX,J.ki.frz (oX S) (fun b o hb e=>cj (SX b o hb (aQ e).1) (aQ e).2) hd,fun b hb e=>?_,J.ka⟩
 cases hH:H b with
 | none=>exact J.oc b hb hH
 | some o =>
   have:=SX b o (fun z=>by rw[z,n3] at hb;cases hb) hH;rw[e] at this;cases this
theorem lx {F:Addr→Bool}{H:Hp}{kc d:Addr}{ss ns:List Str}{lk:LK}(h:dc (hide (bj F H) kc) d ss ns lk):F d=false∧d≠kc:=by
 obtain⟨kvs,hR,_⟩:=h
 have k:∀ {o},hide (bj F H) kc d=some o→F d=false∧d≠kc:=fun {o} e=>by
   have hne:d≠kc:=fun z=>by rw[z] at e;unfold hide at e;rw[if_pos rfl] at e;cases e
   rw[aW hne] at e;exact⟨(aQ e).2,hne⟩
 rcases hR with h | ⟨_,h⟩
 . exact k h
 . exact k h
def Kp0 (ks:List Addr)(A:Ad)(H H':Hp):Prop:=∀ b o,b∉ks→(b≠A.x∧b≠A.d1∧b≠A.ls∧b≠A.db)→H b=some o→H' b=some o
def Kp (ks:List Addr)(A:Ad)(W:Hp)(X:Addr→Bool)(H H':Hp):Prop:=∀ b o,b∉ks→(b≠A.x∧b≠A.d1∧b≠A.ls∧b≠A.db)→H b=some o→H' b=some o∨(fX A W X b=false∧∃ u v,o=.dK u∧H' b=some (.frz v (.dK u)))
theorem Kp0.frz {ks:List Addr}{A:Ad}{W:Hp}{X:Addr→Bool}{H H1 H':Hp}{d:Addr}(k:Kp0 ks A H H1)(F:Fz H1 H')(SX:i5 d H1 H')(hf:fX A W X d=false):Kp ks A W X H H':=fun b o hb na e=>by
 have h1:=k b o hb na e;by_cases hd:b=d
 . subst hd;by_cases ho:∃ u,o=.dK u
   . obtain⟨u,rfl⟩:=ho
     rcases F.2 b _ (.inl h1) with h2 | ⟨v,h2⟩
     . exact .inl h2
     . exact .inr ⟨hf,u,v,rfl,h2⟩
   . exact .inl (F.1 b o h1 fun u e=>ho ⟨u,e⟩)
 . exact .inl (SX b o hd h1)
theorem wX {A:Ad}{W W':Hp}{X:Addr→Bool}{H:Hp}{b:Addr}(G:dH H W W')(h:fX A W' X b=false):fX A W X b=false:=by
 obtain⟨h1,h2,h3⟩:=dg h;refine v7 h1 ?_ h3
 cases hw:W b with
 | none=>rfl
 | some o=>rw[G.1 b o hw] at h2;cases h2
theorem KI.free {F:Addr→Bool}{H:Hp}{lk kc kd kt lo:Addr}{so ns ss:List Str}{h:Hs}{T:List (Int×LK)}(K:KI (bj F H) lk kc kd kt lo so ns ss h T):∀ k∈[lk,kc,kd,kt],F k=false:=fun k hk=>by
 obtain⟨psd,hkd,_⟩:=K.r.hkd;obtain⟨pst,dst,hkt,_⟩:=K.r.hkt;simp only[AE,Ax,or_false] at hk
 rcases hk with rfl | rfl | rfl | rfl
 . exact(aQ K.r.hlk).2
 . exact(aQ K.kcx).2
 . exact(aQ hkd).2
 . exact(aQ hkt).2
def uE (K:PySem.W.Frag)(CH CB cBN cKn cNS cFu cNC cNB cBB cND cLa cNo:Addr)(cs:List Addr)(dip:Addr):Sp:=fun vs H Q _=>∃ (A:Ad)(W:Hp)(X:Addr→Bool)(lk kc kd kt lo:Addr)(so ns ss:List Str) (h:Hs)(Tb:List (Int×LK))(t:Addr)(dd:Dd),vs=[.ref A.x,.ref lk,.ref t]∧J38 H CH CB A W X lk kc kd kt lo so ns ss h Tb∧H t=some (.tup dd.tup)∧dd.fine H∧dd.luok [lk,kc,kd,kt]∧ss.Nodup∧h.cl.length < 50∧h.dp.length+1 < 1000∧Tb.length+1 < 1000∧∀ H' W' h' Tb',J38 H' CH CB A W' X lk kc kd kt lo so ns ss h' Tb'→Kp [lk,kc,kd,kt] A W X H H'→dH H W W'→h'.dp.length≤h.dp.length+1→Tb'.length≤Tb.length+1→(∀ c∈h'.cl,c∈h.cl∨∃ z,dd=.bring c.1 z)→Q (.bl true) H'
theorem qG:aw ["_law_house", "_law_kept", "_law_deed_here", "_law_due_here", "_law_found"] ["_law_house", "_law_kept", "_law_deed_here"] (ao ua):=sM
theorem wQ {f fDu fDo fTe fIF fAl:Addr}{fd fdDu fdDo fdTe fdIF fdAl:FuncData}{CH CB cBN cKn cNS cFu cNC cNB cBB cND cLa cNo dip:Addr}{cs:List Addr}(F:Fun K "_law_fits" "_law_fits" ua f fd)
   (T:Txt mg)(hX:Hx K mg CH)(cB:Cls K CB)(O:Own K CB)(mCB:mg "Book"=some (.ref CB))(BT:zi K cs dip cBN cKn cNS cNC cNB cBB cND cLa cNo)
   (GDu:Cl P w K mg base CX0 5 "_law_due" ["_law_kept", "_law_deed_here"] (xn K) fDu fdDu)
   (GDo:Cl P w K mg base (CX1 P w) 9 "_law_do" ["_law_thing", "_law_deed_here"] (zy (vb K CH CB cBN cKn cNS cFu cNC cNB cBB cND cLa cNo) K cs dip) fDo fdDo)
   (GTe:Cl P w K mg base CX0 3 "_law_tells" ["_law_book", "_law_order", "_law_tables_here"] (mG K CB) fTe fdTe)
   (GIF:Cl P w K mg base CX0 1 "_law_in_force" ["_law_kept", "_law_day_here"] ge fIF fdIF)
   (GAl:Cl P w K mg base CX0 3 "_law_alike" ["_law_found", "_law_due_here"] (eP (eP (eP oQ))) fAl fdAl) :
   aU P w K mg base CX0 10 f fd ["_law_house", "_law_kept", "_law_deed_here"] (uE K CH CB cBN cKn cNS cFu cNC cNB cBB cND cLa cNo cs dip):=by
 refine oq F qG fun cdv A outer s H vs Q E hr h=>?_;obtain⟨A0,W,X,lk,kc,kd,kt,lo,so,ns,ss,h,Tb,t,dd,rfl,J,htt,hf,hlu,hsn,hcl50,hdl1,htl1,q⟩:=h;have hr1:=hr.mono (j:=1) (by omega);have hr3:=hr.mono (j:=3) (by omega);have hr5:=hr.mono (j:=5) (by omega);have hr9:=hr.mono (j:=9) (by omega)
 refine⟨_,(aj (pS 3 qG.nd (pC GDu hr5 az (aa (pv 1) (aa (pv 2) ae))))
   (aj (pS 4 qG.nd (pC GDo hr9 gx (aa (pv 0) (aa (pv 2) ae))))
   (aj (aB (PW.pt (im (ap bM (pI aJ (pv 2) ag) aA (ax _)) (gi (ap v4 (pv 3) jL (ax _))))) (ah (aq (l4 (al sV (by rfl) T.isi (by decide) (aa (pv 4) (aa (bc (v:=.ref CB) rfl mCB rfl) ae))) (qh (pC GTe hr3 az (aa (pv 4) (aa (pI ak (pv 1) ag) (aa (pC GIF hr1 az (aa (pv 1) (aa (pI aJ (pv 2) ag) ae))) ae)))))))) am)
   (ah (aq (pC GAl hr3 az (aa (pv 4) (aa (pv 3) ae)))))))),?_⟩
 try dsimp only[aC,aM]
 have hs:=aK;have hoF:=J.hh.occ J.oc;have flk:=aQ J.ki.r.hlk;have fkc:=aQ J.ki.kcx;obtain⟨psd,hkd,_⟩:=J.ki.r.hkd;obtain⟨pst,dst,hkt,_⟩:=J.ki.r.hkt;have fkd:=aQ hkd;have fkt:=aQ hkt
 have hks:∀ k∈[lk,kc,kd,kt],(k≠A0.x∧k≠A0.d1∧k≠A0.ls∧k≠A0.db)∧W k=none:=fun k hk=>by
   simp only[AE,Ax,or_false] at hk
   rcases hk with rfl | rfl | rfl | rfl
   . exact⟨(dg flk.2).1,(dg flk.2).2.1⟩
   . exact⟨(dg fkc.2).1,(dg fkc.2).2.1⟩
   . exact⟨(dg fkd.2).1,(dg fkd.2).2.1⟩
   . exact⟨(dg fkt.2).1,(dg fkt.2).2.1⟩
 have htk:t∉[lk,kc,kd,kt]:=fun hm=>by
   simp only[AE,Ax,or_false] at hm
   rcases hm with rfl | rfl | rfl | rfl
   . rw[flk.1] at htt;cases htt
   . rw[fkc.1] at htt;cases htt
   . rw[fkd.1] at htt;cases htt
   . rw[fkt.1] at htt;cases htt
 have hdk:∃ cE,dd.tup=.str dd.nm::cE:=by cases dd<;>exact⟨_,rfl⟩
 obtain⟨cE,hdt⟩:=hdk;refine au (fun σ' H'=>∃ v1,σ'=[some (.ref A0.x),some (.ref lk),some (.ref t),some v1,none]∧(((∃ w t1,dd.bad ns so h w∧v1=.ref t1∧af H H'∧H' t1=some (.tup (cX w))))∨(dd.good ns so h∧Owx [lk,kc,kd,kt] H H'∧DvN H H' v1 (dd.val h)∧KI (bj (fX A0 W X) H') lk kc kd kt lo so ns ss (dd.step h) (dd.tb so Tb)))) (fun R hR=>?_) ?_
 . walk_at"";exact⟨fX A0 W X,lk,kc,kd,kt,lo,so,ns,ss,h,Tb,t,dd,rfl,htt,J.ki,hoF,J.ka,hf,fun t' H' w hb S _ ht=>hR _ _ ⟨_,rfl,.inl ⟨w,t',hb,rfl,S,ht⟩⟩,fun hg v H' O dv K=>hR _ _ ⟨v,rfl,.inr ⟨hg,O,dv,K⟩⟩⟩
 rintro σ1 H1 ⟨v1,rfl,hc1⟩
 have O1:Owx [lk,kc,kd,kt] H H1:=by
   rcases hc1 with ⟨_,_,_,_,S,_⟩ | ⟨_,O,_⟩
   . exact Owx.same S
   . exact O
 have hh1:=J.hh.own O1 hks;have htt1:=O1 _ _ htk htt
 have hf1:dd.fine H1:=by
   cases dd with
   | change b lu os d=>exact⟨hf.1,O1 _ _ hlu hf.2.1,hf.2.2⟩
   | bring c z=>exact hf
   | dip c b d=>exact hf
   | back d=>trivial
   | shade c d=>exact hf
   | trail c d=>exact hf
   | dips d=>trivial
   | book d=>trivial
 refine au (fun σ' H'=>∃ v2,σ'=[some (.ref A0.x),some (.ref lk),some (.ref t),some v1,some v2]∧H' t=some (.tup dd.tup)∧Kp0 [lk,kc,kd,kt] A0 H H'∧(((∃ w t1 t2,dd.bad ns so h w∧v1=.ref t1∧v2=.ref t2∧af H H'∧H' t1=some (.tup (cX w))∧H' t2=some (.tup (cX w))))∨(dd.good ns so h∧∃ W' h',dH H W W'∧n6 H' v1 (dd.val h)∧zp H' W' CB h v2 dd∧aI H' CH CB A0 W' ss h'∧bH ss ns h'∧n0 h h' dd∧eS X H'∧KI (bj (fX A0 W' X) H') lk kc kd kt lo so ns ss (dd.step h) (dd.tb so Tb)))) (fun R hR=>?_) ?_
 . walk_at"";refine⟨_,_,rfl,fun H1' E' S1' hE=>?_⟩;have hh1':=af.house S1' hh1;have htt1':=S1' _ _ htt1;refine⟨A0,W,ss,ns,so,h,t,dd,rfl,hh1',J.ka.ho,htt1',sF hf1 S1',J.ka.pm,hsn,J.ka.dl,hcl50,fun C w H2 hb he S2=>?_,fun hg v H2 W' h' S2 G2 hh2 ho2 hst hv=>?_⟩
   . obtain⟨bits,hB,htx⟩:=BT.bits C w he;refine hE C bits H2 hB fun t2 H3 S3 ht2=>?_
     rcases hc1 with ⟨w1,t1,hb1,rfl,S1,ht1⟩ | ⟨hg,_⟩
     . have:=Dd.one hb1 hb;subst this;have SS:=S1.trans (S1'.trans (S2.trans S3));exact hR _ _ ⟨_,rfl,SS _ _ htt,fun b o _ _ e=>SS b o e,.inl ⟨w1,t1,t2,hb1,rfl,rfl,SS,(S1'.trans (S2.trans S3)) _ _ ht1,by rw[ht2,htx];rfl⟩⟩
     . exact(Dd.not hb hg).elim
   . rcases hc1 with ⟨w1,t1,hb1,_⟩ | ⟨_,O,dv,K⟩
     . exact(Dd.not hb1 hg).elim
     . have K3:=(K.same (aO S1')).same (rA S2 G2)
       refine hR _ _ ⟨v,rfl,aZ _ _ (S2 _ _ (nq hh1' htt1')),fun b o hb na e=>aZ _ _ (S2 b o (fe (S1' _ _ (O b o hb e)) na.1 na.2.1 na.2.2.1 na.2.2.2)),.inr ⟨hg,W',h',⟨G2.1,fun b o hw e=>by
         by_cases hb:b∈[lk,kc,kd,kt]
         . exact(dg (K3.free b hb)).2.1
         . exact G2.2 b o hw (S1' _ _ (O b o hb e))⟩,dv.keep J.hh hh1 ((ck S1').trans S2),hv,hh2,ho2,hst,fun b hb e=>?_,K3⟩⟩
       cases hH:H b with
       | none=>exact J.oc b hb hH
       | some o =>
         have hbk:b∉[lk,kc,kd,kt]:=fun hm=>by
           simp only[AE,Ax,or_false] at hm
           rcases hm with rfl | rfl | rfl | rfl
           . rw[(dg flk.2).2.2] at hb;cases hb
           . rw[(dg fkc.2).2.2] at hb;cases hb
           . rw[(dg fkd.2).2.2] at hb;cases hb
           . rw[(dg fkt.2).2.2] at hb;cases hb
         have h1:=S1' _ _ (O1 b o hbk hH);by_cases hA:b≠A0.x∧b≠A0.d1∧b≠A0.ls∧b≠A0.db
         . have:=aZ _ _ (S2 b o (fe h1 hA.1 hA.2.1 hA.2.2.1 hA.2.2.2));rw[e] at this;cases this
         . exact hA ⟨(fun z=>by rw[z,hh2.ins] at e;cases e),(fun z=>by rw[z,hh2.cl] at e;cases e),(fun z=>by obtain⟨ps,h1,_⟩:=hh2.dp;rw[z,h1] at e;cases e),(fun z=>by obtain⟨rs,h1,_⟩:=hh2.bk;rw[z,h1] at e;cases e)⟩
 rintro σ2 H2 ⟨v2,rfl,htt2,kp,hc2⟩
 have hat:atI dd.tup 0=some (.str dd.nm):=by
   rw[hdt];exact bT (j:=0) rfl
 rcases hc2 with ⟨w1,t1,t2,hb,rfl,rfl,S,ht1,ht2⟩ | ⟨hg,W',h',gr,dv,hv,hh2,ho2,hst,oc2,K2⟩
 . refine au (fun σ' H'=>σ'=[some (.ref A0.x),some (.ref lk),some (.ref t),some (.ref t1),some (.ref t2)]∧H'=H2) (fun R hR=>?_) ?_
   . walk_at"";refine⟨_,SqT.of htt2,_,hat,rfl,ay (fun _=>?_) (fun _=>hR _ _ ⟨rfl,rfl⟩)⟩;exact ay (fun e=>by cases e) (fun _=>hR _ _ ⟨rfl,rfl⟩)
   rintro σ3 H3 ⟨rfl,rfl⟩;walk_at"";exact p8 ht2 ht1 (by show 3≤1000;decide) zL (q _ W h Tb (J.same S) (fun b o _ _ e=>.inl (S b o e)) (dH.refl _ _) (by omega) (by omega) (fun c hc=>.inl hc))
 . obtain⟨ka2,l1,l2,l3⟩:=J.ka.step hg hst ho2 hdl1 htl1 hcl50;obtain⟨e1,e2,e3⟩:=hst.eq;have J2:J38 H2 CH CB A0 W' X lk kc kd kt lo so ns ss h' (dd.tb so Tb):=⟨hh2,K2.bk e1 e2 e3,oc2,ka2⟩;by_cases hbk:∃ d,dd=.book d
   . obtain⟨d,rfl⟩:=hbk;obtain⟨r,rfl,hbk⟩:=hv;cases dv;cases hst;have hbk2:=af.book hh2.up hbk;obtain⟨Bd,hNd,hZd⟩:=J2.ka.ho.on d;refine au (fun σ' H'=>False) (fun R hR=>?_) (fun _ _ h=>h.elim);walk_at"";obtain⟨dx,tt,dtab,so',hins,_⟩:=id hbk2;refine⟨_,SqT.of htt2,_,rfl,rfl,ay (fun _=>⟨_,cx.ins hins cB O.ha O.hn O.ht O.hm,true,nQ,ay (fun _=>?_) (fun h=>absurd rfl h)⟩) (fun h=>absurd rfl h)⟩;refine⟨_,SqL.of (ar _ _ J2.ki.r.hlk),_,rfl,_,SqT.of htt2,_,rfl,bj (fX A0 W' X) H2,lk,kc,kd,kt,lo,so,ns,ss,h,Tb,d,rfl,ar,J2.ki.r,J2.ka.TO,hg.1,fun d' hG=>?_⟩;obtain⟨hfd,hdk⟩:=lx hG;have hsp:=gc J.ka.ho J.ka.ssn d;exact⟨r,lo,d',_,so,ns,_,_,rfl,hbk2,Bd,SqL.of (ar _ _ J2.ki.r.hlo),J.ka.pm.trans hsp.symm,J.ka.srt,(Fz.tabG (af.fz (bK.trans ar)) hG).perm hsp,jK J.ka.ho J.ka.nsn d,fun b hb z hz=>eE z Bd.bnd hb,fun H' F SX=>q _ W' _ _ (J2.frz F SX hfd hdk) (kp.frz F SX (wX gr hfd)) gr l1 l2 l3⟩
   . have hv2:n6 H2 v2 (dd.val h):=by
       cases dd with
       | book d=>exact absurd ⟨d,rfl⟩ hbk
       | bring c z=>exact hv
       | dip c b d=>exact hv
       | back d=>exact hv
       | change b lu os d=>exact hv
       | shade c d=>exact hv
       | trail c d=>exact hv
       | dips d=>exact hv
     have hnm:¬dd.nm=zM "book":=by
       cases dd with
       | book d=>exact absurd ⟨d,rfl⟩ hbk
       | bring c z=>show ¬(zM "bring")=zM "book";decide
       | dip c b d=>show ¬(zM "dip")=zM "book";decide
       | back d=>show ¬(zM "back")=zM "book";decide
       | change b lu os d=>show ¬(zM "change")=zM "book";decide
       | shade c d=>show ¬(zM "shade")=zM "book";decide
       | trail c d=>show ¬(zM "trail")=zM "book";decide
       | dips d=>show ¬(zM "dips")=zM "book";decide
     refine au (fun σ' H'=>σ'=[some (.ref A0.x),some (.ref lk),some (.ref t),some v1,some v2]∧H'=H2) (fun R hR=>?_) ?_
     . walk_at"";exact⟨_,SqT.of htt2,_,hat,rfl,ay (fun h=>absurd (V.str.inj h) hnm) (fun _=>hR _ _ ⟨rfl,rfl⟩)⟩
     rintro σ3 H3 ⟨rfl,rfl⟩;walk_at"";exact il hv2 dv (Dd.vlen J.ka.ho.dl) (q _ W' h' _ J2 (fun b o hb na e=>.inl (kp b o hb na e)) gr l1 l2 l3)
structure JR (H:Hp)(CH CB:Addr)(A:Ad)(W:Hp)(X:Addr→Bool)(lk kc kd kt lo:Addr)(so ns ss:List Str) (h:Hs)(Tb:List (Int×LK)):Prop where
 hh:aI H CH CB A W ss h
 kr:KR (bj (fX A W X) H) lk kc kd kt lo so ns ss h Tb
 oc:eS X H
 ka:oI ns so ss h Tb
def Fx (Y:Addr→Bool)(H H':Hp):Prop:=Fz H H'∧∀ b o,Y b=true→H b=some o→H' b=some o
theorem Fx.of {Y:Addr→Bool}{H H':Hp}(S:af H H'):Fx Y H H':=⟨af.fz S,fun b o _ e=>S b o e⟩
theorem Fx.trans {Y:Addr→Bool}{H H' H'':Hp}(a:Fx Y H H')(b:Fx Y H' H''):Fx Y H H'':=⟨a.1.trans b.1,fun x o hy e=>b.2 x o hy (a.2 x o hy e)⟩
theorem Fx.ofX {Y:Addr→Bool}{H H':Hp}{d:Addr}(F:Fz H H')(S:i5 d H H')(hf:Y d=false):Fx Y H H':=⟨F,fun b o hy e=>S b o (fun z=>by rw[z,hf] at hy;cases hy) e⟩
section
variable {H H':Hp}{CH CB d:Addr}{A:Ad}{W:Hp}{X:Addr→Bool}{lk kc kd kt lo:Addr}{so ns ss:List Str}{h:Hs}{Tb:List (Int×LK)}
theorem J38.jr (J:J38 H CH CB A W X lk kc kd kt lo so ns ss h Tb):JR H CH CB A W X lk kc kd kt lo so ns ss h Tb:=⟨J.hh,J.ki.r,J.oc,J.ka⟩
theorem JR.same (J:JR H CH CB A W X lk kc kd kt lo so ns ss h Tb)(S:af H H'):JR H' CH CB A W X lk kc kd kt lo so ns ss h Tb :=
 ⟨af.house S J.hh,J.kr.same (aO S),J.oc.same S,J.ka⟩
theorem JR.frz (J:JR H CH CB A W X lk kc kd kt lo so ns ss h Tb)(S:Fz H H')(SX:i5 d H H')(hf:fX A W X d=false):JR H' CH CB A W X lk kc kd kt lo so ns ss h Tb:=by
 obtain⟨n1,n2,n3⟩:=dg hf;refine⟨J.hh.frz n1 n2 SX,J.kr.fz (oX S),fun b hb e=>?_,J.ka⟩
 cases hH:H b with
 | none=>exact J.oc b hb hH
 | some o =>
   have:=SX b o (fun z=>by rw[z,n3] at hb;cases hb) hH;rw[e] at this;cases this
end
def uH (K:PySem.W.Frag)(CH CB:Addr):Sp:=fun vs H Q _=>∃ (A:Ad)(W:Hp)(X:Addr→Bool)(lk kc kd kt lo:Addr)(so ns ss:List Str) (h:Hs)(Tb:List (Int×LK))(ld:Addr)(L:List Int),vs=[.ref A.x,.ref lk,.ref ld]∧JR H CH CB A W X lk kc kd kt lo so ns ss h Tb∧H ld=some (.lst (L.map V.int))∧L.length≤100∧(∀ d∈L,1≤d∧d≤400)∧(∀ c∈h.cl,Shw c.1)∧∀ H',Fx (fX A W X) H H'→JR H' CH CB A W X lk kc kd kt lo so ns ss h Tb→Q (.bl true) H'
theorem qN:aw ["_law_house", "_law_kept", "_law_days_here", "_law_day_here", "_law_cloth"] ["_law_house", "_law_kept", "_law_days_here"] (ao uq):=sM
theorem wD {f fHL fHY fHP fHB fHT fHS fTx fAl fDpD fTe fIF fTD fSD:Addr}{fd fdHL fdHY fdHP fdHB fdHT fdHS fdTx fdAl fdDpD fdTe fdIF fdTD fdSD:FuncData}{CH CB cNC cND:Addr}(F:Fun K "_law_seen" "_law_seen" uq f fd)
   (T:Txt mg)(hX:Hx K mg CH)
   (GHL:Cm P w K mg base (CX1 P w) 1 CH "cloths" ["self"] (lR CH CB) fHL fdHL)
   (GHY:Cm P w K mg base (CX1 P w) 1 CH "today" ["self"] (ky CH CB) fHY fdHY)
   (GHP:Cm P w K mg base (CX1 P w) 2 CH "dips" ["self", "day"] (gY CH CB cND) fHP fdHP)
   (GHB:Cm P w K mg base (CX1 P w) 2 CH "book" ["self", "day"] (gM CH CB cND) fHB fdHB)
   (GHT:Cm P w K mg base (CX1 P w) 2 CH "trail" ["self", "cloth", "day"] (hJ CH CB cNC cND) fHT fdHT)
   (GHS:Cm P w K mg base (CX1 P w) 3 CH "shade" ["self", "cloth", "day"] (gZ CH CB cNC cND) fHS fdHS)
   (GTx:Cl P w K mg base CX0 1 "_law_texts" ["_law_found", "_law_due_here"] (mw K) fTx fdTx)
   (GAl:Cl P w K mg base CX0 3 "_law_alike" ["_law_found", "_law_due_here"] (eP (eP (eP oQ))) fAl fdAl)
   (GDpD:Cl P w K mg base CX0 1 "_law_dips_due" ["_law_kept", "_law_day_here"] gj fDpD fdDpD)
   (GTe:Cl P w K mg base CX0 3 "_law_tells" ["_law_book", "_law_order", "_law_tables_here"] (mG K CB) fTe fdTe)
   (GIF:Cl P w K mg base CX0 1 "_law_in_force" ["_law_kept", "_law_day_here"] ge fIF fdIF)
   (GTD:Cl P w K mg base CX0 2 "_law_trail_due" ["_law_kept", "_law_cloth", "_law_day_here"] eZ fTD fdTD)
   (GSD:Cl P w K mg base CX0 3 "_law_shade_due" ["_law_kept", "_law_cloth", "_law_day_here"] fr fSD fdSD) :
   aU P w K mg base CX0 5 f fd ["_law_house", "_law_kept", "_law_days_here"] (uH K CH CB):=by
 refine oq F qN fun cdv A outer s H vs Q E hr h=>?_;obtain⟨A0,W,X,lk,kc,kd,kt,lo,so,ns,ss,h,Tb,ld,L,rfl,J,hld,hL,hLd,hcS,q⟩:=h;have cH:=hX.c;have hr1:=hr.mono (j:=1) (by omega);have hr2:=hr.mono (j:=2) (by omega);have hr3:=hr.mono (j:=3) (by omega)
 refine⟨_,(aj (aB (PW.pt (d8 (bV (bE (pC GTx hr1 az (aa (pM0 (pv 0) cH GHL hr1 gx) (aa (al (dS rfl) (by rfl) T.sorted (by decide) (aa (pI ak (pv 1) ag) ae)) ae))))) (cM (bV (bE (pC GAl hr3 az (aa (pM0 (pv 0) cH GHY hr1 gx) (aa (pI ak (pv 1) ag) ae)))))))) (ah (aq cw)) am)
   (aj (bC PassesOwn.never rfl (a8 (pv 2)) (pN 3 qN.nd) (aj (aB (bV (bE (pC GAl hr3 az (aa (pM (pv 0) cH GHP hr2 gx (aa (pv 3) ae)) (aa (pC GDpD hr1 az (aa (pv 1) (aa (pv 3) ae))) ae))))) (ah (aq cw)) am)
   (aj (aB (bV (bE (pC GTe hr3 az (aa (pM (pv 0) cH GHB hr2 gx (aa (pv 3) ae)) (aa (pI ak (pv 1) ag) (aa (pC GIF hr1 az (aa (pv 1) (aa (pv 3) ae))) ae)))))) (ah (aq cw)) am)
   (ah (bC PassesOwn.never rfl (mz (pI ak (pv 1) ag)) (pN 4 qN.nd) (aL (aB (bV (bE (pC GAl hr3 az (aa (pM (pv 0) cH GHT hr2 gx (aa (pv 4) (aa (pv 3) ae))) (aa (pC GTD hr2 az (aa (pv 1) (aa (pv 4) (aa (pv 3) ae)))) ae))))) (ah (aq cw)) am)
   (ah (aB (bV (bE (pC GAl hr3 az (aa (pM (pv 0) cH GHS hr3 gx (aa (pv 4) (aa (pv 3) ae))) (aa (pC GSD hr3 az (aa (pv 1) (aa (pv 4) (aa (pv 3) ae)))) ae))))) (ah (aq cw)) am))))))))
   (ah (aq cw)))),?_⟩
 try dsimp only[aC,aM]
 have hs:=aK;have lko:∀ {m:Str}{dd:Int},(m==zM "first_shades")=false→(m==zM "day_now")=false→(m==zM "standing")=false→(m==zM "books_from")=false→Aj m (hfs A0 dd)=none:=fun h1 h2 h3 h4=>ee h1 h2 h3 h4
 have hcll:(clV h.cl).length=h.cl.length:=by unfold clV;rw[be]
 have hkeys:(clV h.cl).map (·.1)=(h.cl.map (·.1)).map Sum.inr:=by unfold clV;rw[Av,Av];rfl
 have hdl:=J.ka.ho.dl
 have hkc64:(h.cl.map (·.1)).length < 64:=by rw[be];have:=J.ka.cl60;omega
 refine au (fun σ' H'=>σ'=[some (.ref A0.x),some (.ref lk),some (.ref ld),none,none]∧af H H') (fun R hR=>?_) ?_
 . walk_at"";refine⟨A0.dx,_,J.hh.ins,lko (by decide) (by decide) (by decide) (by decide),A0,W,ss,h,rfl,J.hh,by have:=J.ka.cl60;omega,fun p os hp hpm hso=>?_⟩;have S1:af H (upd H p (.lst (os.map V.str))):=cI (af.refl _) hp;generalize hG1:upd H p (.lst (os.map V.str))=G1 at S1 ⊢
   have hp1:G1 p=some (.lst (os.map V.str)):=by rw[←hG1];exact ac
   have J1:=J.same S1;refine⟨_,SqL.of (ar _ _ J1.kr.hlk),_,rfl,kc,rfl,h.cl.map (·.1),clV h.cl,af.rd ar J1.kr.hkc,hkeys,hkc64,fun p2 ss' hp2 hpm2 hs2=>?_⟩;have he:ss'=os:=cy hs2 hso (hpm2.trans hpm.symm);subst he;have S2:af G1 (upd G1 p2 (.lst (ss'.map V.str))):=cI (af.refl _) hp2;have J2:=J1.same S2;refine⟨p,p2,ss',rfl,S2 _ _ hp1,SqL.of ac,by rw[hpm.length_eq];omega,true,rfl,ay (fun h=>by cases h) (fun _=>?_)⟩;refine⟨A0.dx,_,J2.hh.ins,lko (by decide) (by decide) (by decide) (by decide),A0,W,ss,h,rfl,J2.hh,_,SqL.of (ar _ _ J2.kr.hlk),_,rfl,_,_,rfl,.inr (.inl ⟨_,_,rfl,rfl,?_⟩)⟩;exact⟨_,rfl,ay (fun hc=>by simp at hc) (fun _=>hR _ _ ⟨rfl,S1.trans S2⟩)⟩
 rintro σ1 H1 ⟨rfl,S1⟩;have J1:=J.same S1;refine au (fun σ' H'=>∃ o3 o4,σ'=[some (.ref A0.x),some (.ref lk),some (.ref ld),o3,o4]∧Fx (fX A0 W X) H1 H'∧JR H' CH CB A0 W X lk kc kd kt lo so ns ss h Tb) (fun R hR=>?_) ?_
 . walk_at"";refine⟨⟨_,SqL.of (S1 _ _ hld)⟩,?_⟩;refine bi (H0:=fun b=>if b=ld then some (.lst (L.map V.int)) else none) (aG (SqL.of (if_pos rfl))) (fun i σ' H'=>∃ o3 o4,σ'=[some (.ref A0.x),some (.ref lk),some (.ref ld),o3,o4]∧Fx (fX A0 W X) H1 H'∧JR H' CH CB A0 W X lk kc kd kt lo so ns ss h Tb) ⟨none,none,rfl,Fx.of (af.refl _),J1⟩ (fun _ _ _ _ ⟨_,_,_,hf,_⟩=>fun b o e=>?_) ?_ (fun σ H' h=>hR _ _ h)
   . dsimp only at e
     split at e
     . rename_i hb;cases e;rw[hb];exact hf.1.1 _ _ (S1 _ _ hld) (fun _ e=>by cases e)
     . cases e
   rintro i x σ H2 hi hx ⟨o3,o4,rfl,F2,J2⟩ R2 hR2;rw[zO] at hx;obtain⟨d,hd,rfl⟩:=Option.map_eq_some_iff.mp hx;have hdd:=hLd d (zS hd);refine au (fun σ' H'=>σ'=[some (.ref A0.x),some (.ref lk),some (.ref ld),some (.int d),o4]∧af H2 H') (fun R hR=>?_) ?_
   . walk_at"";refine⟨A0.dx,_,J2.hh.ins,lko (by decide) (by decide) (by decide) (by decide),A0,W,ss,ns,h,d,rfl,J2.hh,J.ka.ho,fun _ l ps H3 S3 hn3 hl3 hT3=>?_,fun hn=>absurd hdd hn⟩;have J3:=J2.same S3;refine⟨lk,kc,kd,kt,lo,so,ns,ss,h,Tb,d,rfl,J3.kr.same ar,by omega,fun l2 ps2 H4 S4 hn4 hl4 hT4=>?_⟩;refine il (dv:=.dips (bf h.dp d)) ⟨l,ps,rfl,S4 _ _ hl3,hT3.same S4⟩ ⟨l2,ps2,rfl,hl4,hT4⟩ (Dd.vlen (dd:=.dips d) hdl) ?_;exact⟨true,rfl,ay (fun h=>by cases h) (fun _=>hR _ _ ⟨rfl,S3.trans S4⟩)⟩
   rintro σ3 H3 ⟨rfl,S3⟩;have J3:=J2.same S3;refine au (fun σ' H'=>σ'=[some (.ref A0.x),some (.ref lk),some (.ref ld),some (.int d),o4]∧Fx (fX A0 W X) H3 H'∧JR H' CH CB A0 W X lk kc kd kt lo so ns ss h Tb) (fun R hR=>?_) ?_
   . walk_at"";refine⟨A0.dx,_,J3.hh.ins,lko (by decide) (by decide) (by decide) (by decide),A0,W,ss,ns,h,d,rfl,J3.hh,J.ka.ho,fun _ r H4 S4 hbk=>?_,fun hn=>absurd hdd hn⟩;have J4:=J3.same S4;have hbk2:=af.book J4.hh.up hbk;obtain⟨Bd,hNd,hZd⟩:=J4.ka.ho.on d;refine⟨_,SqL.of (ar _ _ J4.kr.hlk),_,rfl,bj (fX A0 W X) H4,lk,kc,kd,kt,lo,so,ns,ss,h,Tb,d,rfl,ar,J4.kr,J4.ka.TO,hdd.1,fun d' hG=>?_⟩;obtain⟨hfd,hdk⟩:=lx hG;have hsp:=gc J4.ka.ho J4.ka.ssn d;refine⟨r,lo,d',_,so,ns,_,_,rfl,hbk2,Bd,SqL.of (ar _ _ J4.kr.hlo),J4.ka.pm.trans hsp.symm,J4.ka.srt,(Fz.tabG (af.fz (bK.trans ar)) hG).perm hsp,jK J4.ka.ho J4.ka.nsn d,fun b hb z hz=>eE z Bd.bnd hb,fun H' F SX=>?_⟩;have J5:=J4.frz F SX hfd;exact⟨true,rfl,ay (fun h=>by cases h) (fun _=>hR _ _ ⟨rfl,(Fx.of S4).trans (Fx.ofX F SX hfd),J5⟩)⟩
   rintro σ4 H4 ⟨rfl,F4,J4⟩;walk_at"";refine⟨_,SqL.of (ar _ _ J4.kr.hlk),_,rfl,kc,rfl,clV h.cl,o0 (W:=fun o HF=>vA (Itd kc o _) _ _ _ _ HF) (af.rd ar J4.kr.hkc) fun o HF hHF FF X2=>?_⟩
   have hfk:fX A0 W X kc=false:=by
     rcases J4.kr.hkc with h | ⟨u,h⟩
     . exact(aQ h).2
     . exact(aQ h).2
   have J5:=J4.frz FF X2 hfk;refine bi (H0:=HF) (fN hHF) (fun _ σ' H''=>∃ o5,σ'=[some (.ref A0.x),some (.ref lk),some (.ref ld),some (.int d),o5]∧af HF H'') ⟨o4,rfl,af.refl _⟩ (fun _ _ _ _ ⟨_,_,h⟩=>h) ?_ (fun σ H' ⟨o5,e,S⟩=>hR2 _ _ ⟨_,_,e,((F2.trans (Fx.of S3)).trans F4).trans ((Fx.ofX FF X2 hfk).trans (Fx.of S)),J5.same S⟩);rintro j x σ H5 hj ⟨k,v,hk,rfl⟩ ⟨o5,rfl,S5⟩ R3 hR3
   obtain⟨c1,hc1,hkc⟩:∃ c,c∈h.cl∧(Sum.inr c.1,V.str c.2)=(k,v):=by
     unfold clV at hk;rw[zO] at hk;obtain⟨c,hc,e⟩:=Option.map_eq_some_iff.mp hk;exact⟨c,zS hc,e⟩
   cases hkc;have hcm:c1.1∈h.cl.map (·.1):=Ao hc1;have hcs:=hcS c1 hc1;have J6:=J5.same S5;walk_at"";refine⟨A0.dx,_,J6.hh.ins,lko (by decide) (by decide) (by decide) (by decide),A0,W,ss,ns,h,c1.1,d,rfl,J6.hh,J.ka.ho,hcs,fun _ _ l ps H7 S7 hn7 hl7 hT7=>?_,fun hn=>absurd hcm hn,fun _ hn=>absurd hdd hn⟩;have J7:=J6.same S7;refine⟨lk,kc,kd,kt,lo,so,ns,ss,h,Tb,c1.1,d,rfl,J7.kr.same ar,J.ka.TO,J.ka.HR,J.ka.ho,J.ka.hbn,hcm,fun l2 ps2 H8 S8 hn8 hl8 hT8=>?_⟩;have J8:=J7.same S8;refine il (dv:=.trail (aX h.dp c1.1 d)) ⟨l,ps,rfl,S8 _ _ hl7,hT7.same S8⟩ ⟨l2,ps2,rfl,hl8,hT8⟩ (Dd.vlen (dd:=.trail c1.1 d) hdl) ?_;refine⟨true,rfl,ay (fun h=>by cases h) (fun _=>?_)⟩;refine⟨A0.dx,_,J8.hh.ins,lko (by decide) (by decide) (by decide) (by decide),A0,W,ss,ns,h,c1.1,d,rfl,J8.hh,J.ka.ho,hcs,fun _ _ H9 S9=>?_,fun hn=>absurd hcm hn,fun _ hn=>absurd hdd hn⟩;have J9:=J8.same S9;refine⟨lk,kc,kd,kt,lo,so,ns,ss,h,Tb,c1.1,d,rfl,J9.kr.same ar,J.ka.TO,J.ka.HR,J.ka.ho,J.ka.hbn,hcm,fun H10 S10=>?_⟩;refine il (dv:=.str (aV h c1.1 d)) rfl rfl (AF _) ?_;exact⟨true,rfl,ay (fun h=>by cases h) (fun _=>hR3 _ _ ⟨_,rfl,S5.trans (S7.trans (S8.trans (S9.trans S10)))⟩)⟩
 rintro σ2 H2 ⟨o3,o4,rfl,F2,J2⟩;walk_at"";exact q H2 ((Fx.of S1).trans F2) J2
theorem yT (xs:List V):∃ k,ix xs (some (-3)) none=xs.drop k∧xs.length≤k+3:=by
 refine⟨HT.sIx xs.length 0 (some (-3)),?_,?_⟩
 . unfold ix;rw[AH];rw[AY,HT.sIx_none];exact zR _
 . show xs.length≤(if(-3:Int) < 0 then((-3:Int)+(xs.length:Int)).toNat else min (-3:Int).toNat xs.length)+3;rw[if_pos (by decide)];omega
def um:Sp:=fun vs H Q _=>∃ (lk kc kd kt lo:Addr)(so ns ss:List Str) (h:Hs)(Tb:List (Int×LK)),vs=[.ref lk]∧KR H lk kc kd kt lo so ns ss h Tb∧(1≤h.day∧h.day≤400)∧(∀ e∈h.dp,1≤e.1∧e.1≤400)∧(∀ e∈Tb,1≤e.1∧e.1≤400)∧∀ l (L:List Int) H',af H H'→H l=none→H' l=some (.lst (L.map V.int))→L.length≤14→(∀ d∈L,1≤d∧d≤400)→Q (.ref l) H'
theorem gE:aw ["_law_kept", "_law_days_here", "_law_on", "_law_who", "_law_bath", "_law_since", "_law_tables_here"] ["_law_kept"] (ao ut):=sM
theorem xc {f:Addr}{fd:FuncData}(F:Fun K "_law_days" "_law_days" ut f fd)
   (T:Txt mg)(TM:mg "max"=none) :
   aU P w K mg base CX0 1 f fd ["_law_kept"] um:=by
 refine oq F gE fun cdv A outer s H vs Q E hr h=>?_;obtain⟨lk,kc,kd,kt,lo,so,ns,ss,h,Tb,rfl,KR0,hday,hdp,hTb,q⟩:=h
 refine⟨_,(aj (pS 1 gE.nd (bo (aa ag (aa ag (aa (pI ak (pv 0) ag) (aa (al (k7 rfl) (by rfl) TM (by decide) (aa ag (aa (aH mY (pI ak (pv 0) ag) ag) ae))) (aa (al (lq rfl) (by rfl) T.min (by decide) (aa ag (aa (aH cn (pI ak (pv 0) ag) ag) ae))) ae)))))))
   (aj (bC PassesOwn.never rfl (a8 (eI gU (pI ak (pv 0) ag) (eY (eG dj ag)) ic)) (cz (n:=3) rfl (aE (pN 2 gE.nd) (aE (pN 3 gE.nd) (aE (pN 4 gE.nd) bS)))) (ah (aP (eW Ap AA AB bR (pv 1) (aa (pv 2) ae)))))
   (aj (bC PassesOwn.never rfl (a8 (eI gU (pI ak (pv 0) ag) (eY (eG dj ag)) ic)) (cz (n:=2) rfl (aE (pN 5 gE.nd) (aE (pN 6 gE.nd) bS))) (aj (aP (eW Ap AA AB bR (pv 1) (aa (pv 5) ae)))
   (ah (aP (eW Ap AA AB bR (pv 1) (aa (al (k7 rfl) (by rfl) TM (by decide) (aa ag (aa (aH mY (pv 5) ag) ae))) ae))))))
   (ah (aq (al (nh rfl) (by rfl) T.sorted (by decide) (aa (cu (tK rfl) (by rfl) T.set (by decide) (aa (pv 1) ae)) ae))))))),?_⟩
 try dsimp only[aC,aM]
 have hs:=aK;obtain⟨h1,h2,h3,⟨ps,h4,h5⟩,⟨qs,ds,h6,h7,h8,h9⟩⟩:=id KR0;refine au (fun σ' H'=>∃ (la:Addr)(L:List Int),σ'=[some (.ref lk),some (.ref la),none,none,none,none,none]∧af H H'∧H la=none∧H' la=some (.lst (L.map V.int))∧L.length=5∧∀ d∈L,(1:Int)≤d∧d≤400) (fun R hR=>?_) ?_
 . walk_at"";refine⟨_,SqL.of h1,_,rfl,_,SqL.of h1,_,rfl,_,rfl,_,SqL.of h1,_,rfl,_,rfl,by omega,fun p hp=>hR _ _ ⟨p,[1,400,h.day,if h.day - 1 > 1 then h.day - 1 else 1,if h.day+1 < 400 then h.day+1 else 400],rfl,cI (af.refl _) hp,hp,ac,rfl,fun d hd=>?_⟩⟩;simp only[AE,Ax,or_false] at hd
   rcases hd with rfl | rfl | rfl | rfl | rfl
   . decide
   . decide
   . exact hday
   . split<;>omega
   . split<;>omega
 rintro σ1 H1 ⟨la,L1,rfl,S1,hn1,hl1,hL1,hd1⟩;refine au (fun σ' H'=>∃ (L:List Int)(o2 o3 o4:Option V),σ'=[some (.ref lk),some (.ref la),o2,o3,o4,none,none]∧af H H'∧H' la=some (.lst (L.map V.int))∧L.length≤8∧∀ d∈L,(1:Int)≤d∧d≤400) (fun R hR=>?_) ?_
 . walk_at"";obtain⟨k,hk,hk3⟩:=yT (ps.map V.ref)
   have hk4:ps.length≤k+3:=by rw[be] at hk3;exact hk3
   refine⟨_,SqL.of (S1 _ _ h1),_,rfl,kd,rfl,_,SqL.of (S1 _ _ h4),fun p hp=>?_⟩;rw[hk]
   have hpla:p≠la:=fun e=>by rw[e,hl1] at hp;cases hp
   refine⟨⟨_,SqL.of ac⟩,?_⟩;refine bi (H0:=fun b=>if b=p then some (.lst ((ps.map V.ref).drop k)) else none) (aG (SqL.of (if_pos rfl))) (fun i σ' H'=>∃ (L:List Int)(o2 o3 o4:Option V),σ'=[some (.ref lk),some (.ref la),o2,o3,o4,none,none]∧af H H'∧H' p=some (.lst ((ps.map V.ref).drop k))∧H' la=some (.lst (L.map V.int))∧L.length≤5+i∧∀ d∈L,(1:Int)≤d∧d≤400) ⟨L1,none,none,none,rfl,S1.trans (af.updN hp),ac,by rw[ai hpla.symm];exact hl1,by omega,hd1⟩ (fun _ _ _ _ ⟨_,_,_,_,_,_,h,_⟩=>fun b o e=>by dsimp only at e;split at e;(rename_i hb;cases e;rw[hb];exact h);cases e) ?_ ?_
   . rintro i x σ' H' hi hx ⟨L,o2,o3,o4,rfl,S,hp',hl,hL,hd⟩ R2 hR2;rw[AY,be] at hi;rw[Ca,zO] at hx;obtain⟨t,ht,rfl⟩:=Option.map_eq_some_iff.mp hx;have hpl:=h5.1;rw[be] at hpl;obtain⟨e,he⟩:∃ e,h.dp[k+i]?=some e:=⟨_,zN (by omega)⟩;have htt:=S _ _ (h5.2 (k+i) t _ ht (by rw[zO,he];rfl));refine q8 htt ?_;walk_at"";refine⟨.inl ⟨rfl,_,SqL.of hl⟩,_,hl,by rw[be];omega,?_⟩;rw[show L.map V.int++[V.int e.1]=(L++[e.1]).map V.int by rw[zU];rfl];refine hR2 _ _ ⟨L++[e.1],_,_,_,rfl,cI S hn1,by rw[ai hpla];exact hp',ac,by rw[zP,zV];omega,fun d hd'=>?_⟩
     rcases List.mem_append.mp hd' with hd' | hd'
     . exact hd d hd'
     . rw[List.mem_singleton.mp hd'];exact hdp e (zS he)
   . rintro σ' H' ⟨L,o2,o3,o4,rfl,S,hp',hl,hL,hd⟩;exact hR _ _ ⟨L,o2,o3,o4,rfl,S,hl,by rw[AY] at hL;omega,hd⟩
 rintro σ2 H2 ⟨L2,o2,o3,o4,rfl,S2,hl2,hL2,hd2⟩;refine au (fun σ' H'=>∃ (L:List Int)(o2 o3 o4 o5 o6:Option V),σ'=[some (.ref lk),some (.ref la),o2,o3,o4,o5,o6]∧af H H'∧H' la=some (.lst (L.map V.int))∧L.length≤14∧∀ d∈L,(1:Int)≤d∧d≤400) (fun R hR=>?_) ?_
 . walk_at"";obtain⟨k,hk,hk3⟩:=yT (qs.map V.ref)
   have hk4:qs.length≤k+3:=by rw[be] at hk3;exact hk3
   refine⟨_,SqL.of (S2 _ _ h1),_,rfl,kt,rfl,_,SqL.of (S2 _ _ h6),fun p hp=>?_⟩;rw[hk]
   have hpla:p≠la:=fun e=>by rw[e,hl2] at hp;cases hp
   refine⟨⟨_,SqL.of ac⟩,?_⟩;refine bi (H0:=fun b=>if b=p then some (.lst ((qs.map V.ref).drop k)) else none) (aG (SqL.of (if_pos rfl))) (fun i σ' H'=>∃ (L:List Int)(o5 o6:Option V),σ'=[some (.ref lk),some (.ref la),o2,o3,o4,o5,o6]∧af H H'∧H' p=some (.lst ((qs.map V.ref).drop k))∧H' la=some (.lst (L.map V.int))∧L.length≤8+2*i∧∀ d∈L,(1:Int)≤d∧d≤400) ⟨L2,none,none,rfl,S2.trans (af.updN hp),ac,by rw[ai hpla.symm];exact hl2,by omega,hd2⟩ (fun _ _ _ _ ⟨_,_,_,_,_,h,_⟩=>fun b o e=>by dsimp only at e;split at e;(rename_i hb;cases e;rw[hb];exact h);cases e) ?_ ?_
   . rintro i x σ' H' hi hx ⟨L,o5,o6,rfl,S,hp',hl,hL,hd⟩ R2 hR2;rw[AY,be] at hi;rw[Ca,zO] at hx;obtain⟨t,ht,rfl⟩:=Option.map_eq_some_iff.mp hx;obtain⟨e,he⟩:∃ e,Tb[k+i]?=some e:=⟨_,zN (by omega)⟩;obtain⟨dd,hdd⟩:∃ dd,ds[k+i]?=some dd:=⟨_,zN (by omega)⟩;have htt:=S _ _ (h9 (k+i) t dd e ht hdd he).1;have hee:=hTb e (zS he);refine dY htt ?_;refine au (fun σ'' H''=>σ''=[some (.ref lk),some (.ref la),o2,o3,o4,some (.int e.1),some (.ref dd)]∧H''=upd H' la (.lst ((L++[e.1]).map V.int))) (fun R hR=>?_) ?_
     . walk_at"";refine⟨.inl ⟨rfl,_,SqL.of hl⟩,_,hl,by rw[be];omega,?_⟩;rw[show L.map V.int++[V.int e.1]=(L++[e.1]).map V.int by rw[zU];rfl];exact hR _ _ ⟨rfl,rfl⟩
     rintro σ5 H5 ⟨rfl,rfl⟩;walk_at"";refine⟨.inl ⟨rfl,_,SqL.of ac⟩,_,ac,by rw[be,zP,zV];omega,?_⟩;rw[show(L++[e.1]).map V.int++[V.int (if e.1 - 1 > 1 then e.1 - 1 else 1)]=(L++[e.1,if e.1 - 1 > 1 then e.1 - 1 else 1]).map V.int by rw[zU,zU];simp];refine hR2 _ _ ⟨L++[e.1,_],_,_,rfl,cI (cI S hn1) hn1,by rw[ai hpla,ai hpla];exact hp',ac,by rw[zP];show L.length+2≤_;omega,fun d hd'=>?_⟩
     rcases List.mem_append.mp hd' with hd' | hd'
     . exact hd d hd'
     . simp only[AE,Ax,or_false] at hd'
       rcases hd' with rfl | rfl
       . exact hee
       . split<;>omega
   . rintro σ' H' ⟨L,o5,o6,rfl,S,hp',hl,hL,hd⟩;exact hR _ _ ⟨L,o2,o3,o4,o5,o6,rfl,S,hl,by rw[AY] at hL;omega,hd⟩
 rintro σ3 H3 ⟨L3,o2,o3,o4,o5,o6,rfl,S3,hl3,hL3,hd3⟩;walk_at"";refine⟨L3,SqL.of hl3,by omega,fun p hp=>⟨_,ac,qm _,B9 (pj _) (by omega),fun p2 L4 hp2 hpm _=>?_⟩⟩;refine q p2 L4 _ ((S3.trans (af.updN hp)).trans (af.updN hp2)) ?_ ac ?_ fun d hd=>hd3 d ((vZ _ _).mp (hpm.mem_iff.mp hd))
 . cases hz:H p2 with
   | none=>rfl
   | some o =>
     have h3:=S3 _ _ hz;rw[ai (aF h3 hp)] at hp2;rw[h3] at hp2;cases hp2
 . rw[hpm.length_eq];exact AG (pj _) hL3
def xz:Sp:=fun vs H Q _=>∃ (la:Addr)(L:List Int) (now:Int),vs=[.ref la,.int now]∧H la=some (.lst (L.map V.int))∧18≤L.length∧∀ (d:Int) H',af H H'→Q (.int d) H'
theorem vi:aw ["_law_drawn", "_law_now", "_law_pick"] ["_law_drawn", "_law_now"] (ao wa):=sM
theorem yH {f:Addr}{fd:FuncData}(F:Fun K "_law_day" "_law_day" wa f fd)
   (T:Txt mg)  :
   aU P w K mg base CX0 1 f fd ["_law_drawn", "_law_now"] xz:=by
 refine oq F vi fun cdv A outer s H vs Q E hr h=>?_;obtain⟨la,L,now,rfl,hla,hL,q⟩:=h
 refine⟨_,(aj (pS 2 vi.nd (aH bp (pI ak (pv 0) ag) ag))
   (aj (aB (ap cY (pv 2) ag (ax _)) (ah (aq (pv 1))) am)
   (aj (aB (ap cY (pv 2) ag (ax _)) (ah (aq (aH cn (aH cn (pv 1) ag) (aH bp (pI ak (pv 0) ag) ag)))) am)
   (aj (aB (ap bM (pv 2) ag (ax _)) (ah (aq (aH mY (pv 1) ag))) am)
   (aj (aB (ap bM (pv 2) ag (ax _)) (ah (aq (aH cn ag (aH bp (aH cn (pI ak (pv 0) ag) (aH fK ag (pI ak (pv 0) ag))) ag)))) am)
   (ah (aq (pI ak (bo (aa ag (aa ag (aa ag (aa ag (aa (eG dj ag) (aa (aH t7 ag ag) ae))))))) (aH bp (pI ak (pv 0) ag) ag))))))))),?_⟩
 try dsimp only[aC,aM]
 have hs:=aK
 have at_:∀ j:Nat,j < 18→∃ y,atI (L.map V.int) (j:Int)=some (.int y):=fun j hj=>by
   obtain⟨y,_,h⟩:=g9 L (x:=(j:Int)) (by omega) (by omega);exact⟨y,h⟩
 obtain⟨y3,e3⟩:=at_ 3 (by decide);obtain⟨y4,e4⟩:=at_ 4 (by decide);obtain⟨y5,e5⟩:=at_ 5 (by decide);have hL':∀ {G},af H G→SqL K G la (L.map V.int):=fun S=>SqL.of (S _ _ hla);refine au (fun σ' H'=>∃ pk:Int,σ'=[some (.ref la),some (.int now),some (.int pk)]∧H'=H) (fun R hR=>?_) ?_
 . walk_at"";exact⟨_,SqL.of hla,_,e3,_,rfl,by decide,hR _ _ ⟨_,rfl,rfl⟩⟩
 rintro σ1 H1 ⟨pk,rfl,rfl⟩;refine au (fun σ' H'=>σ'=[some (.ref la),some (.int now),some (.int pk)]∧H'=H1) (fun R hR=>?_) ?_
 . walk_at"";exact ay (fun _=>q _ _ (af.refl _)) (fun _=>hR _ _ ⟨rfl,rfl⟩)
 rintro σ2 H2 ⟨rfl,rfl⟩;refine au (fun σ' H'=>σ'=[some (.ref la),some (.int now),some (.int pk)]∧H'=H2) (fun R hR=>?_) ?_
 . walk_at"";exact ay (fun _=>⟨_,SqL.of hla,_,e4,_,rfl,by decide,q _ _ (af.refl _)⟩) (fun _=>hR _ _ ⟨rfl,rfl⟩)
 rintro σ3 H3 ⟨rfl,rfl⟩;refine au (fun σ' H'=>σ'=[some (.ref la),some (.int now),some (.int pk)]∧H'=H3) (fun R hR=>?_) ?_
 . walk_at"";exact⟨rfl,ay (fun _=>q _ _ (af.refl _)) (fun _=>hR _ _ ⟨rfl,rfl⟩)⟩
 rintro σ4 H4 ⟨rfl,rfl⟩;refine au (fun σ' H'=>σ'=[some (.ref la),some (.int now),some (.int pk)]∧H'=H4) (fun R hR=>?_) ?_
 . walk_at"";exact⟨rfl,ay (fun _=>⟨_,SqL.of hla,_,e4,_,SqL.of hla,_,e5,_,rfl,.inl ⟨by decide,by decide⟩,_,rfl,by decide,q _ _ (af.refl _)⟩) (fun _=>hR _ _ ⟨rfl,rfl⟩)⟩
 rintro σ5 H5 ⟨rfl,rfl⟩;walk_at"";refine⟨⟨by decide,by decide,by decide⟩,by omega,fun p hp=>⟨_,hL' (af.updN hp),_,e4,_,rfl,by decide,?_⟩⟩;have h6:0≤y4 % 6∧y4 % 6 < 6:=⟨AQ _ (by decide),AK _ (by decide)⟩;obtain⟨y,_,hy⟩:=g9 [0,401,400,1,-1,10 ^ Bq 30] (x:=y4 % 6) h6.1 h6.2;exact⟨_,SqL.of ac,_,hy,q _ _ (af.updN hp)⟩
theorem iM (L:List Str){x:Int}(h0:0≤x)(h1:x < L.length):∃ y∈L,atI (L.map V.str) x=some (.str y):=by
 obtain⟨j,rfl⟩:=A7 h0
 have hj:j < L.length:=by omega
 exact⟨L[j],AR hj,bT (by rw[zO,zN hj];rfl)⟩
theorem xU {n:Nat}{i:Int}(h0:0≤i)(h1:i < n):ixN n i=some i.toNat:=by
 unfold ixN;rw[if_pos h0,if_pos h1]
theorem tM {L:List Str}(h:1≤L.length):∃ x∈L,atI (L.map V.str) (-1)=some (V.str x):=by
 have e:ixN (L.map V.str).length (-1)=some (L.length - 1):=by
   unfold ixN;rw[if_neg (by decide),be,if_pos (by omega)]
   congr 1
   omega
 have hj:L.length - 1 < L.length:=by omega
 refine⟨L[L.length - 1],AR hj,?_⟩;unfold atI;rw[e];show(L.map V.str)[L.length - 1]?=_;rw[zO,zN hj];rfl
theorem xR {xs:List Int}{k n:Nat}(h:k+n≤xs.length):ix (xs.map V.int) (some (k:Int)) (some ((k:Int)+(n:Int)))=((xs.drop k).take n).map V.int:=by
 unfold ix
 have e:(k:Int)+(n:Int)=((k+n:Nat):Int):=by omega
 rw[e,HT.sIx_nat,HT.sIx_nat,be,show min k xs.length=k by omega,show min (k+n) xs.length=k+n by omega,Nat.add_sub_cancel_left,List.map_take,List.map_drop]
theorem ue {ws:List Str}:ix (ws.map V.str) (some 1) none=(ws.drop 1).map V.str:=by
 unfold ix;have e1:HT.sIx (ws.map V.str).length 0 (some (1:Int))=min 1 (ws.map V.str).length:=HT.sIx_nat _ _ 1;have e2:HT.sIx (ws.map V.str).length (ws.map V.str).length none=(ws.map V.str).length:=rfl;rw[e1,e2,←List.map_drop,be]
 cases ws with
 | nil=>rfl
 | cons a r =>
   have e3:min 1 (a::r).length=1:=by rw[Az];omega
   rw[e3];exact AH (by simp)
def rQ:Sp:=fun vs H Q _=>∃ (la pl pc pb pz:Addr)(L:List Int)(PC PB PZ:List Str)(lk kc kd kt lo:Addr)(so ns ss:List Str) (h:Hs)(Tb:List (Int×LK)),vs=[.ref la,.ref lk,.ref pl]∧H la=some (.lst (L.map V.int))∧18≤L.length∧KR H lk kc kd kt lo so ns ss h Tb∧1≤so.length∧so.length≤12∧(∀ z∈so,Shw z)∧H pl=some (.lst [.ref pc,.ref pb,.ref pz])∧H pc=some (.lst (PC.map V.str))∧H pb=some (.lst (PB.map V.str))∧H pz=some (.lst (PZ.map V.str))∧(1≤PC.length∧PC.length≤100)∧(1≤PB.length∧PB.length≤100)∧(1≤PZ.length∧PZ.length≤100)∧(∀ c∈PC,Shw c)∧(∀ c∈PB,Shw c)∧(∀ c∈PZ,Shw c)∧∀ t (dd:Dd) H',af H H'→H t=none→H' t=some (.tup dd.tup)→dd.fine H'→(∀ b lu os d,dd=.change b lu os d→H lu=none)→(∀ c z,dd=.bring c z→c∈PC)→Q (.ref t) H'
theorem gB:aw ["_law_drawn", "_law_kept", "_law_pools_here", "_law_cloth", "_law_bath", "_law_day_here", "_law_pick", "_law_outs"] ["_law_drawn", "_law_kept", "_law_pools_here"] (ao ux):=sM
theorem wS {f fDy:Addr}{fd fdDy:FuncData}(F:Fun K "_law_deed" "_law_deed" ux f fd)
   (T:Txt mg)
   (GDy:Cl P w K mg base CX0 1 "_law_day" ["_law_drawn", "_law_now"] xz fDy fdDy) :
   aU P w K mg base CX0 2 f fd ["_law_drawn", "_law_kept", "_law_pools_here"] rQ:=by
 refine oq F gB fun cdv A outer s H vs Q E hr h=>?_;obtain⟨la,pl,pc,pb,pz,L,PC,PB,PZ,lk,kc,kd,kt,lo,so,ns,ss,h,Tb,rfl,hla,hL,KR0,hso1,hso12,hsoS,hpl,hpc,hpb,hpz,lPC,lPB,lPZ,sPC,sPB,sPZ,q⟩:=h;have hr1:=hr.mono (j:=1) (by omega)
 refine⟨_,(aj (pS 3 gB.nd (pI ak (pI ak (pv 2) ag) (aH bp (pI ak (pv 0) ag) (al av (by rfl) T.len zX (aa (pI ak (pv 2) ag) ae)))))
   (aj (pS 4 gB.nd (pI ak (pI ak (pv 2) ag) (aH bp (pI ak (pv 0) ag) (al av (by rfl) T.len zX (aa (pI ak (pv 2) ag) ae)))))
   (aj (pS 5 gB.nd (pC GDy hr1 az (aa (pv 0) (aa (pI ak (pv 1) ag) ae))))
   (aj (pS 6 gB.nd (aH bp (pI ak (pv 0) ag) ag))
   (aj (aB (ap cY (pv 6) ag (ax _)) (ah (aq (bQ (aa aA (aa (pv 3) (aa (pv 4) (aa (pv 5) ae))))))) am)
   (aj (aB (ap cY (pv 6) ag (ax _)) (ah (aq (bQ (aa aA (aa (pv 5) ae))))) am)
   (aj (aB (ap cY (pv 6) ag (ax _)) (aL (jw (i:=7) (N':=["_law_one", "_law_kept"]) (pk:=[none,some 1]) gB.nd rfl (Or.inl rfl) rfl (bW.of (by rfl)) (a8 (eI gU (pv 0) (eY ag) (eY (aH cn ag (al av (by rfl) T.len zX (aa (pI ak (pv 1) ag) ae)))))) (fun s H ex=>(pN 0 (by show(["_law_one", "_law_kept"]:List Str).Nodup;decide))) (fun s H ex=>(pI (ak:IxR _ (hV K)) (pI (ak:IxR _ (hV K)) (pv 1) ag) (aH bp (pv 0) (al (av:cq _ (.builtin "len") (fun xs H Q=>∃ p ys,xs=[.ref p]∧(SqL K H p ys∨SqT K H p ys)∧Q (.int (ys.length:Nat)) H)) (by rfl) T.len zX (aa (pI (ak:IxR _ (hV K)) (pv 1) ag) ae))))))
   (aL (aB (ap bM (aH bp (pI ak (pv 0) ag) ag) ag (ax _)) (ah (pS 7 gB.nd (eI gU (pv 7) (eY ag) ic))) am)
   (aL (aB (ap bM (aH bp (pI ak (pv 0) ag) ag) ag (ax _)) (ah (mF (pI ak (pI ak (pv 2) ag) (eG dj ag)) (pL (pv 7) (aH bp (pI ak (pv 0) ag) (al av (by rfl) T.len zX (aa (pv 7) ae))) kq))) am)
   (ah (aq (bQ (aa aA (aa (pv 4) (aa (pv 7) (aa (pv 5) ae)))))))))) am)
   (aj (aB (ap bM (pv 6) ag (ax _)) (ah (aq (bQ (aa aA (aa (pv 3) (aa (pI ak (pI ak (pv 2) ag) (aH bp (pI ak (pv 0) ag) (al av (by rfl) T.len zX (aa (pI ak (pv 2) ag) ae)))) ae)))))) am)
   (aj (aB (ap bM (pv 6) ag (ax _)) (ah (aq (bQ (aa (pI ak (bo (aa aA (aa aA ae))) (aH bp (pI ak (pv 0) ag) ag)) (aa (pv 5) ae))))) am)
   (ah (aq (bQ (aa (pI ak (bo (aa aA (aa aA ae))) (aH mY (pv 6) ag)) (aa (pv 3) (aa (pv 5) ae))))))))))))))),?_⟩
 try dsimp only[aC,aM]
 have hs:=aK
 have at_:∀ j:Nat,j < 18→∃ y,atI (L.map V.int) (j:Int)=some (.int y):=fun j hj=>by
   obtain⟨y,_,h⟩:=g9 L (x:=(j:Int)) (by omega) (by omega);exact⟨y,h⟩
 obtain⟨y0,e0⟩:=at_ 0 (by decide);obtain⟨y1,e1⟩:=at_ 1 (by decide);obtain⟨y2,e2⟩:=at_ 2 (by decide);obtain⟨y4,e4⟩:=at_ 4 (by decide);obtain⟨y5,e5⟩:=at_ 5 (by decide)
 have pk:∀ (l:List Str) (i:Int),1≤l.length→∃ y∈l,atI (l.map V.str) (i % ((l.map V.str).length:Int))=some (.str y):=fun l i hl=>by
   rw[be];exact iM l (AQ _ (by omega)) (AK _ (by omega))
 have l0:∀ l:List Str,1≤l.length→(0:Int) < ((l.map V.str).length:Int):=fun l hl=>by rw[be];omega
 refine au (fun σ' H'=>∃ c∈PC,σ'=[some (.ref la),some (.ref lk),some (.ref pl),some (.str c),none,none,none,none]∧H'=H) (fun R hR=>?_) ?_
 . walk_at"";obtain⟨c,hc,ec⟩:=pk PC y1 lPC.1;exact⟨_,SqL.of hpl,_,rfl,_,SqL.of hla,_,e1,_,SqL.of hpl,_,rfl,_,rfl,_,.inl (SqL.of hpc),_,rfl,l0 _ lPC.1,_,rfl,_,SqL.of hpc,_,ec,hR _ _ ⟨c,hc,rfl,rfl⟩⟩
 rintro σ1 H1 ⟨c,hc,rfl,rfl⟩;refine au (fun σ' H'=>∃ b∈PB,σ'=[some (.ref la),some (.ref lk),some (.ref pl),some (.str c),some (.str b),none,none,none]∧H'=H1) (fun R hR=>?_) ?_
 . walk_at"";obtain⟨b,hb,eb⟩:=pk PB y2 lPB.1;exact⟨_,SqL.of hpl,_,rfl,_,SqL.of hla,_,e2,_,SqL.of hpl,_,rfl,_,rfl,_,.inl (SqL.of hpb),_,rfl,l0 _ lPB.1,_,rfl,_,SqL.of hpb,_,eb,hR _ _ ⟨b,hb,rfl,rfl⟩⟩
 rintro σ2 H2 ⟨b,hb,rfl,rfl⟩;refine au (fun σ' H'=>∃ d:Int,σ'=[some (.ref la),some (.ref lk),some (.ref pl),some (.str c),some (.str b),some (.int d),none,none]∧af H2 H') (fun R hR=>?_) ?_
 . walk_at"";exact⟨_,SqL.of KR0.hlk,_,rfl,la,L,_,rfl,hla,hL,fun d H' S=>hR _ _ ⟨d,rfl,S⟩⟩
 rintro σ3 H3 ⟨d,rfl,S3⟩;refine au (fun σ' H'=>∃ k:Int,σ'=[some (.ref la),some (.ref lk),some (.ref pl),some (.str c),some (.str b),some (.int d),some (.int k),none]∧(0≤k∧k < 16)∧H'=H3) (fun R hR=>?_) ?_
 . walk_at"";exact⟨_,SqL.of (S3 _ _ hla),_,e0,_,rfl,by decide,hR _ _ ⟨_,rfl,⟨AQ _ (by decide),AK _ (by decide)⟩,rfl⟩⟩
 rintro σ4 H4 ⟨k,rfl,hk,rfl⟩
 have nn:∀ {x:Addr}{G:Hp},af H2 G→G x=none→H2 x=none:=fun {x G} S e=>by
   cases hz:H2 x with
   | none=>rfl
   | some o=>rw[S _ _ hz] at e;cases e
 refine au (fun σ' H'=>σ'=[some (.ref la),some (.ref lk),some (.ref pl),some (.str c),some (.str b),some (.int d),some (.int k),none]∧H'=H4) (fun R hR=>?_) ?_
 . walk_at"";exact ay (fun _=>⟨by omega,fun p hp=>q p (.dip c b d) _ (S3.trans (af.updN hp)) (nn S3 hp) ac ⟨sPC c hc,sPB b hb⟩ (fun _ _ _ _ e=>by cases e) (fun _ _ e=>by cases e)⟩) (fun _=>hR _ _ ⟨rfl,rfl⟩)
 rintro σ5 H5 ⟨rfl,rfl⟩;refine au (fun σ' H'=>σ'=[some (.ref la),some (.ref lk),some (.ref pl),some (.str c),some (.str b),some (.int d),some (.int k),none]∧H'=H5) (fun R hR=>?_) ?_
 . walk_at"";exact ay (fun _=>⟨by omega,fun p hp=>q p (.back d) _ (S3.trans (af.updN hp)) (nn S3 hp) ac trivial (fun _ _ _ _ e=>by cases e) (fun _ _ e=>by cases e)⟩) (fun _=>hR _ _ ⟨rfl,rfl⟩)
 rintro σ6 H6 ⟨rfl,rfl⟩;refine au (fun σ' H'=>σ'=[some (.ref la),some (.ref lk),some (.ref pl),some (.str c),some (.str b),some (.int d),some (.int k),none]∧H'=H6∧12≤k) (fun R hR=>?_) ?_
 . walk_at"";refine ay (fun hk12=>?_) (fun h=>hR _ _ ⟨rfl,rfl,by omega⟩);have hlo3:SqL K H6 lo (so.map V.str):=SqL.of (S3 _ _ KR0.hlo);refine⟨_,SqL.of (S3 _ _ KR0.hlk),_,rfl,lo,rfl,_,.inl hlo3,_,SqL.of (S3 _ _ hla),fun p1 hp1=>?_⟩;rw[be];have ec':ix (L.map V.int) (some 6) (some (6+((so.length:Nat):Int)))=((L.drop 6).take so.length).map V.int:=xR (xs:=L) (k:=6) (n:=so.length) (by omega);rw[ec'];generalize hLC:(L.drop 6).take so.length=LC
   have hLCl:LC.length=so.length:=by rw[←hLC,Af,AY];omega
   refine⟨⟨_,SqL.of ac⟩,fun D hD=>?_⟩;have S6:af H6 (upd H6 p1 (.lst (LC.map V.int))):=af.updN hp1;have hLCa:upd H6 p1 (.lst (LC.map V.int)) p1=some (.lst (LC.map V.int)):=ac;generalize upd H6 p1 (.lst (LC.map V.int))=G at *;have hlk6:=S6 _ _ (S3 _ _ KR0.hlk);have hlo6:=S6.seq hlo3;refine cG (aG (SqL.of hLCa)) (by rw[be,hLCl];omega) hD (fun σ=>∃ o,σ=[o,some (.ref lk)]) (fun k=>V.str (gl so (LC.getD k 0 % ((so.length:Nat):Int)))) ⟨none,rfl⟩ ?_ ?_
   . rintro k x σ' H3' hk hx ⟨o,rfl⟩ hS3 R hR;rw[zO] at hx;obtain⟨y,hy,rfl⟩:=Option.map_eq_some_iff.mp hx;have hm0:=AQ y (show((so.length:Nat):Int)≠0 by omega);have hm1:=AK y (show(0:Int) < (so.length:Nat) by omega);walk_at"";refine⟨_,SqL.of (hS3 _ _ hlk6),_,rfl,_,SqL.of (hS3 _ _ hlk6),_,rfl,lo,rfl,_,.inl (hS3.seq hlo6),?_⟩;rw[be];refine⟨by omega,lo,rfl,_,hS3.seq hlo6,_,oJ hm0 (by omega),?_⟩
     have e:LC.getD k 0=y:=by rw[zQ,hy];rfl
     have:=hR [some (V.int y),some (V.ref lk)] ⟨_,rfl⟩;rw[e] at this;exact this
   have eos:(zW (LC.map V.int).length).map (fun k=>V.str (gl so (LC.getD k 0 % ((so.length:Nat):Int))))=(LC.map (fun y=>gl so (y % ((so.length:Nat):Int)))).map V.str:=by
     rw[Av];refine cF _ LC _ _ (by rw[be]) fun k x hx=>?_;rw[zQ,hx];rfl
   rw[eos]
   have gos:(LC.map (fun y=>gl so (y % ((so.length:Nat):Int)))).length=so.length∧∀ x∈LC.map (fun y=>gl so (y % ((so.length:Nat):Int))),x∈so:=by
     refine⟨by rw[be,hLCl],fun x hx=>?_⟩;obtain⟨y,hy,rfl⟩:=List.mem_map.mp hx;have hm0:=AQ y (show((so.length:Nat):Int)≠0 by omega);have hm1:=AK y (show(0:Int) < (so.length:Nat) by omega);have:=oy hm0 hm1 (zR so.length)
     rwa [AI] at this
   generalize LC.map (fun y=>gl so (y % ((so.length:Nat):Int)))=os at *;have hDn:H2 D=none:=nn (S3.trans S6) hD;have S7:af H2 (upd G D (.lst (os.map V.str))):=(S3.trans S6).trans (af.updN hD);have hos7:upd G D (.lst (os.map V.str)) D=some (.lst (os.map V.str)):=ac;generalize upd G D (.lst (os.map V.str))=H8 at *;have fin:∀ (lu:Addr)(os:List Str)(G:Hp),af H2 G→H2 lu=none→G lu=some (.lst (os.map V.str))→os.length≤100→(∀ v∈os,Shw v)→∀ p,G p=none→Q (.ref p) (upd G p (.tup [.str (zM "change"),.str b,.ref lu,.int d])):=fun lu os G S hn hl hle hsh p hp=>q p (.change b lu os d) _ (S.trans (af.updN hp)) (nn S hp) ac ⟨sPB b hb,(af.updN hp) _ _ hl,hle,hsh⟩ (fun _ _ _ _ e=>by cases e;exact hn) (fun _ _ e=>by cases e);have hoS:∀ v∈os,Shw v:=fun v hv=>hsoS v (gos.2 v hv);refine⟨_,SqL.of (S7 _ _ hla),_,e5,_,rfl,by decide,rfl,ay (fun h9=>?_) (fun h9=>?_)⟩
   . refine⟨_,SqL.of hos7,fun p2 hp2=>?_⟩;rw[ue];have S8:af H2 (upd H8 p2 (.lst ((os.drop 1).map V.str))):=S7.trans (af.updN hp2);refine⟨_,SqL.of (S8 _ _ hla),_,e5,_,rfl,by decide,rfl,ay (fun h=>by rw[h9] at h;exact absurd h (by decide)) (fun _=>⟨by omega,?_⟩)⟩;exact fin p2 (os.drop 1) _ S8 (nn S7 hp2) ac (by rw[AY];omega) fun v hv=>hoS v (List.mem_of_mem_drop hv)
   . obtain⟨z,hz,ez⟩:=tM lPZ.1
     have hl0:(0:Int) < ((os.map V.str).length:Int):=by rw[be,gos.1];omega
     refine⟨_,SqL.of (S7 _ _ hla),_,e5,_,rfl,by decide,rfl,ay (fun _=>?_) (fun _=>⟨by omega,?_⟩)⟩
     . refine⟨_,SqL.of (S7 _ _ hpl),_,rfl,pz,rfl,_,SqL.of (S7 _ _ hpz),_,ez,_,SqL.of (S7 _ _ hla),_,e4,_,.inl (SqL.of hos7),_,rfl,hl0,_,hos7,_,xU (AQ _ (by omega)) (AK _ hl0),by omega,?_⟩;rw[←List.map_set]
       exact fin D (os.set _ z) _ (cI S7 hDn) hDn ac (by rw[Ct];omega) fun v hv=>by
         rcases List.mem_or_eq_of_mem_set hv with hv | rfl
         . exact hoS v hv
         . exact sPZ _ hz
     . exact fin D os _ S7 hDn hos7 (by omega) hoS
 rintro σ7 H7 ⟨rfl,rfl,hk12⟩;refine au (fun σ' H'=>σ'=[some (.ref la),some (.ref lk),some (.ref pl),some (.str c),some (.str b),some (.int d),some (.int k),none]∧H'=H7∧13≤k) (fun R hR=>?_) ?_
 . walk_at"";obtain⟨z,hz,ez⟩:=pk PZ y2 lPZ.1;exact⟨rfl,ay (fun _=>⟨_,SqL.of (S3 _ _ hpl),_,rfl,_,SqL.of (S3 _ _ hla),_,e2,_,SqL.of (S3 _ _ hpl),_,rfl,_,rfl,_,.inl (SqL.of (S3 _ _ hpz)),_,rfl,l0 _ lPZ.1,_,rfl,_,SqL.of (S3 _ _ hpz),_,ez,by omega,fun p hp=>q p (.bring c z) _ (S3.trans (af.updN hp)) (nn S3 hp) ac ⟨sPC c hc,sPZ z hz⟩ (fun _ _ _ _ e=>by cases e) (fun _ _ e=>by cases e;exact hc)⟩) (fun h=>hR _ _ ⟨rfl,rfl,by omega⟩)⟩
 rintro σ8 H8 ⟨rfl,rfl,hk13⟩;refine au (fun σ' H'=>σ'=[some (.ref la),some (.ref lk),some (.ref pl),some (.str c),some (.str b),some (.int d),some (.int k),none]∧H'=H8∧14≤k) (fun R hR=>?_) ?_
 . walk_at"";refine⟨rfl,ay (fun _=>?_) (fun h=>hR _ _ ⟨rfl,rfl,by omega⟩)⟩;refine⟨by omega,fun p hp=>?_⟩;have S4:=S3.trans (af.updN (o:=.lst [V.str (zM "dips"),V.str (zM "book")]) hp);refine⟨_,SqL.of (S4 _ _ hla),_,e5,_,rfl,by decide,_,SqL.of ac,?_⟩;obtain⟨z,hz,ez⟩:=iM [zM "dips",zM "book"] (x:=y5 % 2) (AQ _ (by decide)) (AK _ (by decide));refine⟨_,ez,by omega,fun p2 hp2=>?_⟩;simp only[AE,Ax,or_false] at hz
   rcases hz with rfl | rfl
   . exact q p2 (.dips d) _ (S4.trans (af.updN hp2)) (nn S4 hp2) ac trivial (fun _ _ _ _ e=>by cases e) (fun _ _ e=>by cases e)
   . exact q p2 (.book d) _ (S4.trans (af.updN hp2)) (nn S4 hp2) ac trivial (fun _ _ _ _ e=>by cases e) (fun _ _ e=>by cases e)
 rintro σ9 H9 ⟨rfl,rfl,hk14⟩;walk_at"";refine⟨by omega,fun p hp=>?_⟩;have S4:=S3.trans (af.updN (o:=.lst [V.str (zM "shade"),V.str (zM "trail")]) hp);obtain⟨z,hz,ez⟩:=iM [zM "shade",zM "trail"] (x:=k - 14) (by omega) (by show k - 14 < 2;omega);refine⟨_,SqL.of ac,_,ez,by omega,fun p2 hp2=>?_⟩;simp only[AE,Ax,or_false] at hz
 rcases hz with rfl | rfl
 . exact q p2 (.shade c d) _ (S4.trans (af.updN hp2)) (nn S4 hp2) ac (sPC c hc) (fun _ _ _ _ e=>by cases e) (fun _ _ e=>by cases e)
 . exact q p2 (.trail c d) _ (S4.trans (af.updN hp2)) (nn S4 hp2) ac (sPC c hc) (fun _ _ _ _ e=>by cases e) (fun _ _ e=>by cases e)
theorem Shw.app {y z:Str}(hy:Shw y)(hz:Shw z)(h:y.length+z.length≤1000):Shw (y++z) :=
 ⟨by rw[wo];exact h,fun c hc=>by
   rw[kK] at hc
   rcases List.mem_append.mp hc with h | h
   . exact hy.2 c h
   . exact hz.2 c h⟩
def rR (K:PySem.W.Frag):Sp:=fun vs H Q _=>∃ (a ls lb:Addr)(ns:List Int)(ss:List Str)(bs:List (Str×List Str)) (spare other:Str),vs=[.ref a,.ref ls,.ref lb,.str spare,.str other]∧SqL K H a (ns.map V.int)∧H ls=some (.lst (ss.map V.str))∧gN H lb bs∧aN ss bs∧(∀ z∈ss,Shw z)∧(∀ b∈bs,Shw b.1)∧Shw spare∧Shw other∧∀ pl pc pb pz (ws PB PZ:List Str) (w:Str) H',af H H'→H pl=none→H pc=none→H pb=none→H pz=none→H' pl=some (.lst [.ref pc,.ref pb,.ref pz])→H' pc=some (.lst ((ws++[w]).map V.str))→H' pb=some (.lst (PB.map V.str))→H' pz=some (.lst (PZ.map V.str))→ws.length=5→ws.Nodup→(∀ x∈ws,Nm x)→Shw w→(1≤PB.length∧PB.length≤100)→(1≤PZ.length∧PZ.length≤100)→(∀ c∈PB,Shw c)→(∀ c∈PZ,Shw c)→Q (.ref pl) H'
theorem jx:aw ["_law_script", "_law_shades", "_law_baths", "_law_spare", "_law_other", "_law_mixed", "_law_cloths", "_law_titles"] ["_law_script", "_law_shades", "_law_baths", "_law_spare", "_law_other"] (ao pY):=sM
theorem vC {f fAt fW:Addr}{fd fdAt fdW:FuncData}(F:Fun K "_law_pools" "_law_pools" pY f fd)
   (T:Txt mg)
   (GAt:Cl P w K mg base CX0 1 "_law_at" ["_law_script", "_law_k"] (tJ K) fAt fdAt)
   (GW:Cl P w K mg base CX0 2 "_law_words" ["_law_cell", "_law_many", "_law_wide", "_law_mixed"] mW fW fdW) :
   aU P w K mg base CX0 3 f fd ["_law_script", "_law_shades", "_law_baths", "_law_spare", "_law_other"] (rR K):=by
 refine oq F jx fun cdv A outer s H vs Q E hr h=>?_;obtain⟨a,ls,lb,ns,ss,bs,spare,other,rfl,ha,hls,hlb,B,hsS,hbS,hsp,hot,q⟩:=h;have hr1:=hr.mono (j:=1) (by omega);have hr2:=hr.mono (j:=2) (by omega)
 refine⟨_,(aj (pS 5 jx.nd (aH bp (pC GAt hr1 az (aa (pv 0) (aa ag ae))) ag))
   (aj (pS 6 jx.nd (pC GW hr2 az (aa (pC GAt hr1 az (aa (pv 0) (aa ag ae))) (aa ag (aa (pI ak (bo (aa ag (aa ag ae))) (aH bp (aH eR (pC GAt hr1 az (aa (pv 0) (aa ag ae))) ag) ag)) (aa (pv 5) ae))))))
   (aj (jw (i:=7) (N':=["_law_title", "_law_outs"]) (pk:=[none,none]) jx.nd rfl (Or.inl rfl) rfl (bW.of (by rfl)) (a8 (pv 2)) (fun s H ex=>((cz (n:=2) rfl (aE (pN 0 (by show(["_law_title", "_law_outs"]:List Str).Nodup;decide)) (aE (pN 1 (by show(["_law_title", "_law_outs"]:List Str).Nodup;decide)) bS))):PG _ _ (kD K 2 (bN (bx 0) (bN (bx 1) iC))))) (fun s H ex=>(pv 0)))
   (ah (aq (bo (aa (aH gA (pv 6) (bo (aa (aH fm (pI ak (pv 6) ag) aA) ae))) (aa (aH gA (aH vO (pv 7) ag) (bo (aa (pv 4) ae))) (aa (aH gA (aH vO (pv 1) ag) (bo (aa (pv 3) ae))) ae))))))))),?_⟩
 try dsimp only[aC,aM]
 have hs:=aK;refine au (fun σ' H'=>∃ mx:Int,(mx=0∨mx=1)∧σ'=[some (.ref a),some (.ref ls),some (.ref lb),some (.str spare),some (.str other),some (.int mx),none,none]∧H'=H) (fun R hR=>?_) ?_
 . walk_at"";exact dw ha (by decide) ⟨_,rfl,by decide,hR _ _ ⟨_,by omega,rfl,rfl⟩⟩
 rintro σ1 H1 ⟨mx,hmx,rfl,rfl⟩;refine au (fun σ' H'=>∃ (pc:Addr)(ws:List Str),σ'=[some (.ref a),some (.ref ls),some (.ref lb),some (.str spare),some (.str other),some (.int mx),some (.ref pc),none]∧af H1 H'∧H' pc=some (.lst (ws.map V.str))∧ws.length=5∧ws.Nodup∧∀ x∈ws,Nm x) (fun R hR=>?_) ?_
 . walk_at"";refine dw ha (by decide) ⟨by omega,fun p hp=>?_⟩;have S1:=af.updN (o:=.lst [V.int 26,V.int 2]) hp;refine dw (S1.seq ha) (by decide) ⟨_,rfl,by decide,by decide,by decide,_,SqL.of ac,?_⟩
   have hm:atL ns 3 / 2 % 2=0∨atL ns 3 / 2 % 2=1:=by omega
   have:∃ x:Int,(x=26∨x=2)∧atI [V.int 26,V.int 2] (atL ns 3 / 2 % 2)=some (.int x):=by
     rcases hm with h | h<;>rw[h]
     . exact⟨26,.inl rfl,rfl⟩
     . exact⟨2,.inr rfl,rfl⟩
   obtain⟨x,hx,ex⟩:=this;exact⟨_,ex,_,_,_,_,rfl,by decide,by decide,hx,hmx,fun l ws H' hl S hl' hwl hwn hwm=>hR _ _ ⟨l,ws,rfl,S1.trans S,hl',by omega,hwn,hwm⟩⟩
 rintro σ2 H2 ⟨pc0,ws,rfl,S2,hpc,hw5,hwn,hwm⟩;refine au (fun σ' H'=>∃ (lt:Addr),σ'=[some (.ref a),some (.ref ls),some (.ref lb),some (.str spare),some (.str other),some (.int mx),some (.ref pc0),some (.ref lt)]∧af H2 H'∧H' lt=some (.lst ((bs.map (·.1)).map V.str))) (fun R hR=>?_) ?_
 . walk_at"";obtain⟨ps,hlb1,hpl,hB⟩:=af.bths S2 hlb;have hb8:=B.b8;refine⟨⟨_,SqL.of hlb1⟩,fun D hD=>?_⟩;refine cG (aG (SqL.of hlb1)) (by rw[be];omega) hD (fun σ=>∃ o1 o2,σ=[o1,o2]) (fun k=>V.str (bs.getD k (⟨#[]⟩,[])).1) ⟨none,none,rfl⟩ ?_ ?_
   . rintro k x σ' H3 hk hx ⟨o1,o2,rfl⟩ hS3 R hR;rw[zO] at hx;obtain⟨y,hy,rfl⟩:=Option.map_eq_some_iff.mp hx;obtain⟨b,hb⟩:∃ b,bs[k]?=some b:=⟨_,zN (by rw[be] at hk;omega)⟩;obtain⟨lo,ht,hlo⟩:=hB k y b hy hb;refine dY (hS3 _ _ ht) ?_;walk_at""
     have e:(bs.getD k (⟨#[]⟩,[]))=b:=by rw[zQ,hb];rfl
     have:=hR [some (V.str b.1),some (V.ref lo)] ⟨_,_,rfl⟩;rw[e] at this;exact this
   . have e:(zW (ps.map V.ref).length).map (fun k=>V.str (bs.getD k (⟨#[]⟩,[])).1)=(bs.map (·.1)).map V.str:=by
       rw[Av];refine cF _ bs _ _ (by rw[be,hpl]) fun k x hx=>?_;rw[zQ,hx];rfl
     rw[e];exact hR _ _ ⟨D,rfl,af.updN hD,ac⟩
 rintro σ3 H3 ⟨lt,rfl,S3,hlt⟩;walk_at"";have hb8:=B.b8;have hs12:=B.s12;have hs1:=B.s1;obtain⟨w0,hw0⟩:∃ w0,ws[0]?=some w0:=⟨_,zN (by omega)⟩;have hm0:=hwm w0 (zS hw0);have h8:=hm0.hi;have sQ:Shw (zM "Q"):=⟨by decide,by decide⟩
 have lQ:(zM "Q").length=1:=by decide
 refine⟨_,SqL.of (S3 _ _ hpc),_,bZ (i:=0) hw0,_,rfl,by omega,by omega,fun p1 hp1=>?_⟩;refine fu ((af.updN hp1) _ _ (S3 _ _ hpc)) ac (by rw[be,hw5];show 5+1≤_;omega) fun pc hpc1=>?_
 have npc:H1 pc=none:=by
   cases hz:H1 pc with
   | none=>rfl
   | some o=>rw[((S2.trans S3).trans (af.updN hp1)) _ _ hz] at hpc1;cases hpc1
 have S4:af H3 (upd (upd H3 p1 (.lst [V.str (w0++zM "Q")])) pc (.lst (ws.map V.str++[V.str (w0++zM "Q")]))):=(af.updN hp1).trans (af.updN hpc1)
 have hpc4:upd (upd H3 p1 (.lst [V.str (w0++zM "Q")])) pc (.lst (ws.map V.str++[V.str (w0++zM "Q")])) pc=some (.lst ((ws++[w0++zM "Q"]).map V.str)):=by rw[ac,zU];rfl
 generalize upd (upd H3 p1 (.lst [V.str (w0++zM "Q")])) pc (.lst (ws.map V.str++[V.str (w0++zM "Q")]))=H4 at *
 have rp3:∀ (n:Nat)(l:List Str),(z8 n (l.map V.str)).flatten=((z8 n l).flatten).map V.str:=fun n l=>by rw[List.map_flatten,List.map_replicate]
 refine⟨_,S4 _ _ hlt,by decide,by decide,by rw[be,be];show bs.length*3≤_;omega,fun p2 hp2=>⟨by omega,fun p3 hp3=>?_⟩⟩;rw[show Bq 3=3 from rfl,rp3] at *
 have l3:((z8 3 (bs.map (·.1))).flatten).length=3*bs.length:=by rw[mn,be]
 refine fu ((af.updN hp3) _ _ ac) ac (by rw[be,l3];show 3*bs.length+1≤_;omega) fun pb hpb1=>?_
 have npb:H1 pb=none:=by
   cases hz:H1 pb with
   | none=>rfl
   | some o=>rw[((S2.trans (S3.trans S4)).trans ((af.updN hp2).trans (af.updN hp3))) _ _ hz] at hpb1;cases hpb1
 rw[show(List.map V.str (z8 3 (bs.map (·.1))).flatten++[V.str other])=(((z8 3 (bs.map (·.1))).flatten++[other]).map V.str) by rw[zU];rfl];have S5:af H4 (upd (upd (upd H4 p2 (.lst ((z8 3 (bs.map (·.1))).flatten.map V.str))) p3 (.lst [V.str other])) pb (.lst (((z8 3 (bs.map (·.1))).flatten++[other]).map V.str))):=(af.updN hp2).trans ((af.updN hp3).trans (af.updN hpb1));have hpb5:(upd (upd (upd H4 p2 (.lst ((z8 3 (bs.map (·.1))).flatten.map V.str))) p3 (.lst [V.str other])) pb (.lst (((z8 3 (bs.map (·.1))).flatten++[other]).map V.str))) pb=some (.lst (((z8 3 (bs.map (·.1))).flatten++[other]).map V.str)):=ac;generalize upd (upd (upd H4 p2 (.lst ((z8 3 (bs.map (·.1))).flatten.map V.str))) p3 (.lst [V.str other])) pb (.lst (((z8 3 (bs.map (·.1))).flatten++[other]).map V.str))=H5 at *;have S25:=S2.trans (S3.trans (S4.trans S5));refine⟨_,S25 _ _ hls,by decide,by decide,by rw[be];show ss.length*2≤_;omega,fun p4 hp4=>⟨by omega,fun p5 hp5=>?_⟩⟩;rw[show Bq 2=2 from rfl,rp3] at *
 have l2:((z8 2 ss).flatten).length=2*ss.length:=by rw[mn]
 refine fu ((af.updN hp5) _ _ ac) ac (by rw[be,l2];show 2*ss.length+1≤_;omega) fun pz hpz1=>?_
 have npz:H1 pz=none:=by
   cases hz:H1 pz with
   | none=>rfl
   | some o=>rw[((S2.trans (S3.trans (S4.trans S5))).trans ((af.updN hp4).trans (af.updN hp5))) _ _ hz] at hpz1;cases hpz1
 rw[show(List.map V.str (z8 2 ss).flatten++[V.str spare])=(((z8 2 ss).flatten++[spare]).map V.str) by rw[zU];rfl];have S6:af H5 (upd (upd (upd H5 p4 (.lst ((z8 2 ss).flatten.map V.str))) p5 (.lst [V.str spare])) pz (.lst (((z8 2 ss).flatten++[spare]).map V.str))):=(af.updN hp4).trans ((af.updN hp5).trans (af.updN hpz1));have hpz6:(upd (upd (upd H5 p4 (.lst ((z8 2 ss).flatten.map V.str))) p5 (.lst [V.str spare])) pz (.lst (((z8 2 ss).flatten++[spare]).map V.str))) pz=some (.lst (((z8 2 ss).flatten++[spare]).map V.str)):=ac;generalize upd (upd (upd H5 p4 (.lst ((z8 2 ss).flatten.map V.str))) p5 (.lst [V.str spare])) pz (.lst (((z8 2 ss).flatten++[spare]).map V.str))=H6 at *;refine⟨by omega,fun pl hpl=>?_⟩;have S26:=S25.trans S6;have S7:af H6 (upd H6 pl (.lst [.ref pc,.ref pb,.ref pz])):=af.updN hpl
 have nn:∀ {G:Hp}{x:Addr},af H1 G→G x=none→H1 x=none:=fun {G x} S e=>by
   cases hz:H1 x with
   | none=>rfl
   | some o=>rw[S _ _ hz] at e;cases e
 refine q pl pc pb pz ws _ _ (w0++zM "Q") _ (S26.trans S7) (nn S26 hpl) npc npb npz ac ((S5.trans (S6.trans S7)) _ _ hpc4) ((S6.trans S7) _ _ hpb5) (S7 _ _ hpz6) hw5 hwn hwm (hm0.shw.app sQ (by omega)) (by rw[zP,l3,zV];omega) (by rw[zP,l2,zV];omega) (fun c hc=>?_) (fun c hc=>?_)
 . rcases List.mem_append.mp hc with hc | hc
   . obtain⟨l,hl,hcl⟩:=List.mem_flatten.mp hc;rw[List.eq_of_mem_replicate hl] at hcl;obtain⟨b,hb,rfl⟩:=List.mem_map.mp hcl;exact hbS b hb
   . rw[List.mem_singleton.mp hc];exact hot
 . rcases List.mem_append.mp hc with hc | hc
   . obtain⟨l,hl,hcl⟩:=List.mem_flatten.mp hc;rw[List.eq_of_mem_replicate hl] at hcl;exact hsS c hcl
   . rw[List.mem_singleton.mp hc];exact hsp
theorem eS.house {X:Addr→Bool}{H H':Hp}{CH CB:Addr}{A:Ad}{W:Hp}{ss:List Str}{h:Hs}(oc:eS X H)(S:af (hid H A) (hid H' A))(hh:aI H' CH CB A W ss h):eS X H':=fun b hb e=>by
 cases hH:H b with
 | none=>exact oc b hb hH
 | some o =>
   by_cases hA:b≠A.x∧b≠A.d1∧b≠A.ls∧b≠A.db
   . have:=aZ _ _ (S b o (fe hH hA.1 hA.2.1 hA.2.2.1 hA.2.2.2));rw[e] at this;cases this
   . exact hA ⟨(fun z=>by rw[z,hh.ins] at e;cases e),(fun z=>by rw[z,hh.cl] at e;cases e),(fun z=>by obtain⟨ps,h1,_⟩:=hh.dp;rw[z,h1] at e;cases e),(fun z=>by obtain⟨rs,h1,_⟩:=hh.bk;rw[z,h1] at e;cases e)⟩
theorem zx {ws:List Str} (i:Int)(h:0 < ws.length):∃ y∈ws,atI (ws.map V.str) (i % ((ws.length:Nat):Int))=some (V.str y):=by
 have hm0:=AQ i (show((ws.length:Nat):Int)≠0 by omega);have hm1:=AK i (show(0:Int) < (ws.length:Nat) by omega);obtain⟨j,hj⟩:=A7 hm0;obtain⟨y,hy⟩:∃ z,ws[j]?=some z:=⟨_,zN (by omega)⟩;exact⟨y,zS hy,by rw[hj];exact bZ hy⟩
theorem zE {H:Hp}{A:Ad}{x:Addr}{u o:HO}(h:hid H A x=some u):hid (upd H x o) A=upd (hid H A) x o:=mo (gI h).2.1 (gI h).2.2.1 (gI h).2.2.2.1 (gI h).2.2.2.2
def r9 (K:PySem.W.Frag)(CH CB:Addr):Sp:=fun vs H Q _=>∃ (A:Ad)(W:Hp)(X:Addr→Bool)(lk kc kd kt lo:Addr)(so ns ss:List Str) (h:Hs)(Tb:List (Int×LK))(a pl pc pb pz:Addr)(ns':List Int)(ws:List Str) (w:Str),vs=[.ref a,.ref A.x,.ref lk,.ref pl]∧SqL K (hid H A) a (ns'.map V.int)∧J38 H CH CB A W X lk kc kd kt lo so ns ss h Tb∧h.cl=[]∧h.dp.length < 999∧Tb.length < 999∧1≤so.length∧hid H A pl=some (.lst [.ref pc,.ref pb,.ref pz])∧hid H A pc=some (.lst ((ws++[w]).map V.str))∧ws.length=5∧ws.Nodup∧(∀ x∈ws,Nm x)∧∀ H' h',J38 H' CH CB A W X lk kc kd kt lo so ns ss h' Tb→(∀ b o,b≠kc→hid H A b=some o→hid H' A b=some o)→h'.dp=h.dp→(∀ c∈h'.cl,c.1∈ws)→h'.cl.length≤5→Q (.bl true) H'
theorem l5:aw ["_law_script", "_law_house", "_law_kept", "_law_pools_here", "_law_k", "_law_shade"] ["_law_script", "_law_house", "_law_kept", "_law_pools_here"] (ao qR):=sM
theorem u8 {f fAt fHR:Addr}{fd fdAt fdHR:FuncData}{CH CB cBN cKn cNS cFu:Addr}(F:Fun K "_law_begun" "_law_begun" qR f fd)
   (T:Txt mg)(hX:Hx K mg CH)
   (GAt:Cl P w K mg base CX0 1 "_law_at" ["_law_script", "_law_k"] (tJ K) fAt fdAt)
   (GHR:Cm P w K mg base (CX1 P w) 5 CH "bring" ["self", "cloth", "shade"] (kn CH CB cBN cKn cNS cFu) fHR fdHR) :
   aU P w K mg base CX0 8 f fd ["_law_script", "_law_house", "_law_kept", "_law_pools_here"] (r9 K CH CB):=by
 refine oq F l5 fun cdv A outer s H vs Q E hr h=>?_;obtain⟨A0,W,X,lk,kc,kd,kt,lo,so,ns,ss,h,Tb,a,pl,pc,pb,pz,ns',ws,w0,rfl,ha,J,hcl0,hdl9,htl99,hso1,hpl,hpc,hw5,hwn,hwm,q⟩:=h;have hu:=eA hr;have cH:=hX.c;have hr1:=hr.mono (j:=1) (by omega);have hr5:=hr.mono (j:=5) (by omega)
 refine⟨_,(aj (bC PassesOwn.never rfl (cc rfl T.range (aa (aH bp (aH cn (pC GAt hr1 az (aa (pv 0) (aa ag ae))) ag) ag) ae)) (pN 4 l5.nd) (aj (pS 5 l5.nd (pI ak (pI ak (pv 2) ag) (aH bp (pC GAt hr1 az (aa (pv 0) (aa (aH cn ag (pv 4)) ae))) (al av (by rfl) T.len zX (aa (pI ak (pv 2) ag) ae)))))
   (aj (aP (pM (pv 1) cH GHR hr5 gx (aa (pI ak (pI ak (pv 3) ag) (pv 4)) (aa (pv 5) ae))))
   (ah (dE hu (pI ak (pv 2) ag) (pI ak (pI ak (pv 3) ag) (pv 4)) (pv 5) rfl)))))
   (ah (aq cw))),?_⟩
 try dsimp only[aC,aM]
 have hs:=aK;have lko:∀ {m:Str}{dd:Int},(m==zM "first_shades")=false→(m==zM "day_now")=false→(m==zM "standing")=false→(m==zM "books_from")=false→Aj m (hfs A0 dd)=none:=fun h1 h2 h3 h4=>ee h1 h2 h3 h4
 have h0:{ h with cl:=[] }=h:=by cases h;cases hcl0;rfl
 refine au (fun σ' H'=>∃ (fi:List (Str×Str))(o4 o5:Option V),σ'=[some (.ref a),some (.ref A0.x),some (.ref lk),some (.ref pl),o4,o5]∧(∀ c∈fi,c.1∈ws)∧fi.length≤5∧J38 H' CH CB A0 W X lk kc kd kt lo so ns ss { h with cl:=fi } Tb∧(∀ b o,b≠kc→hid H A0 b=some o→hid H' A0 b=some o)) (fun R hR=>?_) ?_
 . walk_at"";refine dw (aZ.seq ha) (by decide) ⟨_,rfl,by decide,by omega,by omega,?_⟩
   have hn5:((atL ns' 15+2) % 5).toNat≤4:=by omega
   generalize ((atL ns' 15+2) % 5).toNat=n at *;refine bi (H0:=fun _=>none) br (fun i σ' H'=>∃ (fi:List (Str×Str))(o4 o5:Option V),σ'=[some (.ref a),some (.ref A0.x),some (.ref lk),some (.ref pl),o4,o5]∧fi.map (·.1)=ws.take i∧J38 H' CH CB A0 W X lk kc kd kt lo so ns ss { h with cl:=fi } Tb∧(∀ b o,b≠kc→hid H A0 b=some o→hid H' A0 b=some o)) ⟨[],none,none,rfl,rfl,by rw[h0];exact J,fun _ _ _ e=>e⟩ (fun _ _ _ _ _ b o e=>by cases e) ?_ ?_
   . rintro i x σ H' hi rfl ⟨fi,o4,o5,rfl,hfi,J1,k1⟩ R2 hR2
     have hz:(0:Int)+(i:Int)=i:=by omega
     rw[hz];obtain⟨c,hc⟩:∃ c,ws[i]?=some c:=⟨_,zN (by omega)⟩
     have hc':(ws++[w0])[i]?=some c:=by rw[zY (by omega)];exact hc
     have hfl:fi.length=i:=by
       have:=congrArg Cf hfi;rw[be,Af] at this;omega
     have hcm:=hwm c (zS hc)
     have hcn:c∉fi.map (·.1):=by rw[hfi];exact eF hwn hc
     have nk:∀ {x:Addr}{xs:List V},hid H A0 x=some (.lst xs)→x≠kc:=fun {x xs} e z=>by
       have h1:=aZ _ _ e;rw[z,ar _ _ J.ki.kcx] at h1;cases h1
     have k2:∀ {x:Addr}{xs:List V},hid H A0 x=some (.lst xs)→H' x=some (.lst xs):=fun e=>aZ _ _ (k1 _ _ (nk e) e)
     have sq':SqL K H' a (ns'.map V.int):=by
       rcases ha with (h | ⟨u,h⟩) | h
       . exact .inl (.inl (k2 h))
       . exact .inl (.inr ⟨u,aZ _ _ (k1 _ _ (fun z=>by have h1:=aZ _ _ h;rw[z,ar _ _ J.ki.kcx] at h1;cases h1) h)⟩)
       . exact .inr h
     refine au (fun σ' H''=>∃ z,z∈so∧σ'=[some (.ref a),some (.ref A0.x),some (.ref lk),some (.ref pl),some (.int i),some (.str z)]∧H''=H') (fun R hR=>?_) ?_
     . walk_at"";obtain⟨z,hz,hza⟩:=zx (ws:=so) (atL ns' (16+(i:Int))) (by omega);refine⟨_,SqL.of (ar _ _ J1.ki.r.hlk),_,rfl,dw sq' (by omega) ⟨_,SqL.of (ar _ _ J1.ki.r.hlk),_,rfl,lo,rfl,_,.inl (SqL.of (ar _ _ J1.ki.r.hlo)),?_⟩⟩;rw[be];exact⟨_,rfl,by omega,lo,rfl,_,SqL.of (ar _ _ J1.ki.r.hlo),_,hza,hR _ _ ⟨z,hz,rfl,rfl⟩⟩
     rintro σ2 H2 ⟨z,hz,rfl,rfl⟩;have hzs:=J.ka.pm.mem_iff.mp hz;refine au (fun σ' H''=>σ'=[some (.ref a),some (.ref A0.x),some (.ref lk),some (.ref pl),some (.int i),some (.str z)]∧af (hid H2 A0) (hid H'' A0)∧aI H'' CH CB A0 W ss { h with cl:=fi++[(c,z)] }) (fun R hR=>?_) ?_
     . walk_at"";obtain⟨Bd,hNd,hZd⟩:=J.ka.ho.on 1;exact⟨A0.dx,_,J1.hh.ins,lko (by decide) (by decide) (by decide) (by decide),_,SqL.of (k2 hpl),_,rfl,pc,rfl,_,SqL.of (k2 hpc),_,bZ hc',A0,W,ss,ns,{ h with cl:=fi },c,z,rfl,J1.hh,J1.ka.ho,by show fi.length≤1000;omega,hcm.shw,Bd.snw z ((hZd z).mpr hzs),fun h=>absurd (hcm.good.symm.trans h) (by decide),fun _ h=>absurd h hcn,fun _ _ h=>absurd hzs h,fun _ _ _ h=>absurd h (by show ¬(50≤fi.length);omega),fun _ _ _ _ H' S hh=>hR _ _ ⟨rfl,S,hh⟩⟩
     rintro σ3 H3 ⟨rfl,S3,hh3⟩;walk_at"";have K3:=J1.ki.same (rA S3 (dH.refl _ _) (X:=X));have hf:=(aQ K3.kcx).2;have hkc3:=ar _ _ K3.kcx;obtain⟨n1,n2,n3⟩:=dg hf;have hkc3h:hid H3 A0 kc=some (.dK (clV fi)):=fe hkc3 n1.1 n1.2.1 n1.2.2.1 n1.2.2.2;have k3:∀ {x:Addr}{xs:List V},hid H A0 x=some (.lst xs)→H3 x=some (.lst xs):=fun e=>aZ _ _ (S3 _ _ (k1 _ _ (nk e) e));have ho':bH ss ns { h with cl:=fi++[(c,z)] }:=J1.ka.ho.bring hcn hzs hcm.good;have kas:=(J1.ka.step (dd:=.bring c z) (h':={ h with cl:=fi++[(c,z)] }) ⟨hcm.good,hcn,hz⟩ rfl ho' (by show h.dp.length+1 < 1000;omega) (by omega) (by show fi.length < 50;omega)).1;refine⟨_,SqL.of (ar _ _ K3.r.hlk),_,rfl,_,SqL.of (k3 hpl),_,rfl,pc,rfl,_,SqL.of (k3 hpc),_,bZ hc',kc,rfl,_,.inl ⟨_,Sum.inr c,hkc3,rfl,by unfold clV;rw[be];show fi.length+1≤sizeLine;omega,rfl⟩,?_⟩;rw[da _ (bL hcn)];rw[show clV fi++[(Sum.inr c,V.str z)]=clV (fi++[(c,z)]) by unfold clV;rw[zU];rfl];refine hR2 _ _ ⟨fi++[(c,z)],_,_,rfl,by rw[zU,hfi,bu hc];rfl,⟨hh3.upd hkc3h n2,?_,fun b hb e=>?_,kas⟩,fun b o hb e=>?_⟩
     . rw[dz hf];exact K3.cl
     . by_cases hbk:b=kc
       . rw[hbk,ac] at e;cases e
       . rw[ai hbk] at e;exact(J1.oc.house S3 hh3) b hb e
     . rw[zE hkc3h,ai hb];exact S3 _ _ (k1 _ _ hb e)
   . rintro σ H' ⟨fi,o4,o5,rfl,hfi,J1,k1⟩;refine hR _ _ ⟨fi,o4,o5,rfl,fun c hc=>?_,?_,J1,k1⟩
     . have:c.1∈fi.map (·.1):=Ao hc;rw[hfi] at this;exact(Bv _ _).subset this
     . have:=congrArg Cf hfi;rw[be,Af] at this;omega
 rintro σ1 H1 ⟨fi,o4,o5,rfl,hf1,hf2,J1,k1⟩;walk_at"";exact q _ _ J1 k1 rfl hf1 hf2
theorem J38.start {H2 Ha Hb G:Hp}{CH CB:Addr}{A:Ad}{W:Hp}{X:Addr→Bool}{ss so:List Str}{bs:List (Str×List Str)}{lk kc kd kt lo t d:Addr}(hh2:aI H2 CH CB A W ss ⟨[],1,[],[(1,(ss,bs))]⟩)(oc2:eS X H2)(B:aN ss bs)(Sa:af H2 Ha)(Sb:af Ha Hb)(Sc:af Hb G)(hks:∀ k∈[lk,kc,kd,kt],H2 k=none)(hlo2:H2 lo=none)(ht2:H2 t=none)(hkcA:Ha kc=some (.dK []))(hkd:G kd=some (.lst []))(ht:G t=some (.tup [.int 1,.ref d]))(hkt:G kt=some (.lst [.ref t]))(hlo:G lo=some (.lst (so.map V.str)))(hlk:G lk=some (.lst [.ref kc,.ref kd,.ref kt,.int 1,.ref lo]))(hd:Ha d=none)(hT:rM Ha Hb d ss bs)(hpm:so.Perm ss)(hso:Aq so=true) :
   J38 G CH CB A W X lk kc kd kt lo so (bs.map (·.1)) ss ⟨[],1,[],[(1,(ss,bs))]⟩ [(1,lkB ss bs)]:=by
 have S:=Sa.trans (Sb.trans Sc);have occ:=hh2.occ oc2;have hs12:=B.s12;have hs1:=B.s1;have hb8:=B.b8;have nf:∀ {b:Addr}{o:HO},H2 b=none→G b=some o→bj (fX A W X) G b=some o:=fun h e=>cj e (occ.new h);have hkcG:G kc=some (.dK []):=(Sb.trans Sc) _ _ hkcA;have hsl:=hpm.length_eq
 have k2:∀ {b:Addr},Ha b=none→H2 b=none:=fun {b} e=>by
   cases hz:H2 b with
   | none=>rfl
   | some o=>rw[Sa _ _ hz] at e;cases e
 have bk:∀ d:Int,1≤d→aR [(1,(ss,bs))] d=(ss,bs):=fun d hd=>by
   simp[aR,hd]
 have n1:so≠[]:=fun e=>by rw[e] at hsl;simp at hsl;omega
 refine⟨af.house S hh2,⟨⟨nf (hks _ (by simp)) hlk,nf hlo2 hlo,.inl (nf (hks _ (by simp)) hkcG),⟨[],nf (hks _ (by simp)) hkd,rfl,fun _ _ _ h=>(by cases h)⟩,[t],[d],nf (hks _ (by simp)) hkt,rfl,rfl,fun i p d' e hp hd' he=>?_⟩,nf (hks _ (by simp)) hkcG,?_⟩,fun b hb e=>?_,⟨⟨⟨_,_,rfl⟩,fun d hd=>⟨lkB ss bs,?_,fun n _ z _=>?_⟩,by show 1≤1000;decide⟩,⟨List.Pairwise.nil,fun i e he=>(by cases he)⟩,bH.new B,fun e he=>(by cases he),fun e he=>(by cases he),fun e he=>?_,B.snd,hpm.nodup_iff.mpr B.snd,hso,B.bnd,hpm,by omega,by rw[be];exact hb8,by show 0 < 1000;decide,by show 0≤60;decide,by show 1 < 1000;decide⟩⟩
 . cases i with
   | zero =>
     cases hp;cases hd';cases he;refine⟨nf ht2 ht,hT.tabG B hd fun b u hb hu=>?_⟩;rw[aW (fun z=>by rw[z,hkcA] at hb;cases hb)];exact nf (k2 hb) (Sc _ _ hu)
   | succ j=>cases hp
 . refine⟨fun e=>?_,fun e=>?_,fun e=>?_,fun e=>?_,fun e=>?_,fun e=>?_⟩
   . rw[e,hkd] at hlk;cases hlk
   . rw[e,hkt] at hlk;cases hlk
   . rw[e,hkt] at hkd;cases hkd
   . rw[e,hlk] at hlo
     cases so with
     | nil=>exact n1 rfl
     | cons a r=>cases hlo
   . rw[e,hkd] at hlo
     cases so with
     | nil=>exact n1 rfl
     | cons a r=>cases hlo
   . rw[e,hkt] at hlo
     cases so with
     | nil=>exact n1 rfl
     | cons a r=>cases hlo
 . cases hz:H2 b with
   | none=>exact oc2 b hb hz
   | some o=>rw[S _ _ hz] at e;cases e
 . unfold fQ;rw[AZ (by simpa using hd)];rfl
 . rw[bk d hd]
 . rw[List.mem_singleton.mp he];exact⟨BA _,BA _⟩
theorem yp {K:PySem.W.Frag}{B0 H:Hp}{a:Addr}{xs:List V}(h:SqL K B0 a xs)(k:∀ b o,B0 b=some o→(∀ u,o≠.dK u)→H b=some o):SqL K H a xs:=by
 rcases h with (h | ⟨u,h⟩) | h
 . exact .inl (.inl (k _ _ h (fun _ e=>by cases e)))
 . exact .inl (.inr ⟨u,k _ _ h (fun _ e=>by cases e)⟩)
 . exact .inr h
theorem vY:∀ (l m:List Str),l.Nodup→(∀ x∈l,x∈m)→l.length≤m.length
 | [],_,_,_=>AF _
 | a::l,m,hn,hm=>by
   rw[BH] at hn;have ha:=hm a zZ;have h1:=vY l (m.erase a) hn.2 (fun x hx=>(BV (fun e=>hn.1 (by rw[←e];exact hx))).mpr (hm x (z7 _ hx)));rw[BE ha] at h1;have h2:=BN ha;rw[Az];omega
abbrev bBN:List Bool:=[true,false,false,false,false,false,false,false,false,false,false,false]
abbrev bKn:List Bool:=[false,true,false,false,false,false,false,false,false,false,false,false]
abbrev bNS:List Bool:=[false,false,false,false,true,false,false,false,false,false,false,false]
abbrev bNC:List Bool:=[false,false,true,false,false,false,false,false,false,false,false,false]
abbrev bNB:List Bool:=[false,false,false,true,false,false,false,false,false,false,false,false]
abbrev bBB:List Bool:=[false,false,false,false,false,true,false,false,false,false,false,false]
abbrev bND:List Bool:=[false,false,false,false,false,false,false,false,true,false,false,false]
abbrev bLa:List Bool:=[false,false,false,false,false,false,false,false,false,true,false,false]
abbrev bNo:List Bool:=[false,false,false,false,false,false,false,false,false,false,true,false]
theorem yQ:dN (true::bBN)=zM "ValueError "++zM "BadName":=by decide
theorem y9:dN (true::bKn)=zM "ValueError "++zM "Known":=by decide
theorem zr:dN (true::bNS)=zM "ValueError "++zM "NoShade":=by decide
theorem zu:dN (true::bNC)=zM "ValueError "++zM "NoCloth":=by decide
theorem zg:dN (true::bNB)=zM "ValueError "++zM "NoBath":=by decide
theorem zk:dN (true::bBB)=zM "ValueError "++zM "BadBook":=by decide
theorem yW:dN (true::bND)=zM "ValueError "++zM "NoDay":=by decide
theorem yM:dN (true::bLa)=zM "ValueError "++zM "Late":=by decide
theorem yP:dN (true::bNo)=zM "ValueError "++zM "NoDip":=by decide
theorem zF {K:PySem.W.Frag}{cs:List Addr}{dip cBN cKn cNS cNC cNB cBB cND cLa cNo:Addr}(hBN:Bits K cs dip cBN bBN)(hKn:Bits K cs dip cKn bKn)(hNS:Bits K cs dip cNS bNS)(hNC:Bits K cs dip cNC bNC)(hNB:Bits K cs dip cNB bNB)(hBB:Bits K cs dip cBB bBB)(hND:Bits K cs dip cND bND)(hLa:Bits K cs dip cLa bLa)(hNo:Bits K cs dip cNo bNo):zi K cs dip cBN cKn cNS cNC cNB cBB cND cLa cNo:=⟨fun C w h=>by
 rcases h with ⟨rfl,rfl⟩ | ⟨rfl,rfl⟩ | ⟨rfl,rfl⟩ | ⟨rfl,rfl⟩ | ⟨rfl,rfl⟩ | ⟨rfl,rfl⟩ | ⟨rfl,rfl⟩ | ⟨rfl,rfl⟩ | ⟨rfl,rfl⟩
 . exact⟨_,hBN,yQ⟩
 . exact⟨_,hKn,y9⟩
 . exact⟨_,hNS,zr⟩
 . exact⟨_,hNC,zu⟩
 . exact⟨_,hNB,zg⟩
 . exact⟨_,hBB,zk⟩
 . exact⟨_,hND,yW⟩
 . exact⟨_,hLa,yM⟩
 . exact⟨_,hNo,yP⟩⟩
def rP (K:PySem.W.Frag):Sp:=fun vs H Q _=>∃ (a:Addr)(ns:List Int),vs=[.ref a]∧SqL K H a (ns.map V.int)∧ns.length≤63∧∀ H',Q (.bl true) H'
theorem fU:aw ["_law_script", "_law_shades", "_law_baths", "_law_spare", "_law_other", "_law_house", "_law_kept", "_law_pools_here", "_law_mixed", "_law_k", "_law_deed_here"] ["_law_script"] (ao yq):=sM
theorem yt {f fAt fPl fTa fHd fD fPo fBg fDw fFt fAl fSe fDz fHY fHI:Addr}{fd fdAt fdPl fdTa fdHd fdD fdPo fdBg fdDw fdFt fdAl fdSe fdDz fdHY fdHI:FuncData}{CH CB cBN cKn cNS cFu cNC cNB cBB cND cLa cNo dip:Addr}{cs:List Addr}(F:Fun K "law" "law" yq f fd)
   (T:Txt mg)(hX:Hx K mg CH)
   (GAt:Cl P w K mg base CX0 1 "_law_at" ["_law_script", "_law_k"] (tJ K) fAt fdAt)
   (GPl:Cl P w K mg base CX0 4 "_law_plain" ["_law_script", "_law_count"] (rb K) fPl fdPl)
   (GTa:Cl P w K mg base CX0 1 "_law_tables" ["_law_shades", "_law_baths"] (lX K) fTa fdTa)
   (GHd:Cl P w K mg base CX0 6 "_law_handed" ["_law_shades", "_law_baths"] (lJ K CB) fHd fdHd)
   (GD:Cl P w K mg base CX0 1 "_law_draws" ["_law_cell", "_law_many", "_law_bound", "_law_mixed"] jt fD fdD)
   (GPo:Cl P w K mg base CX0 3 "_law_pools" ["_law_script", "_law_shades", "_law_baths", "_law_spare", "_law_other"] (rR K) fPo fdPo)
   (GBg:Cl P w K mg base CX0 8 "_law_begun" ["_law_script", "_law_house", "_law_kept", "_law_pools_here"] (r9 K CH CB) fBg fdBg)
   (GDw:Cl P w K mg base CX0 2 "_law_deed" ["_law_drawn", "_law_kept", "_law_pools_here"] rQ fDw fdDw)
   (GFt:Cl P w K mg base CX0 10 "_law_fits" ["_law_house", "_law_kept", "_law_deed_here"] (uE K CH CB cBN cKn cNS cFu cNC cNB cBB cND cLa cNo cs dip) fFt fdFt)
   (GAl:Cl P w K mg base CX0 3 "_law_alike" ["_law_found", "_law_due_here"] (eP (eP (eP oQ))) fAl fdAl)
   (GSe:Cl P w K mg base CX0 5 "_law_seen" ["_law_house", "_law_kept", "_law_days_here"] (uH K CH CB) fSe fdSe)
   (GDz:Cl P w K mg base CX0 1 "_law_days" ["_law_kept"] um fDz fdDz)
   (GHY:Cm P w K mg base (CX1 P w) 1 CH "today" ["self"] (ky CH CB) fHY fdHY)
   (MH:Mk K CH fHI)(GHI:aU P w K mg base CX0 1 fHI fdHI ["self", "book"] (sg CH CB))(bHI:em K fdHI ["self", "book"] [])(mCH:mg "House"=some (.ref CH)) :
   aU P w K mg base CX0 11 f fd ["_law_script"] (rP K):=by
 refine oq F fU fun cdv A outer s H vs Q E hr h=>?_;obtain⟨a,ns,rfl,ha,hn,q⟩:=h;have cH:=hX.c;have hr1:=hr.mono (j:=1) (by omega);have hr2:=hr.mono (j:=2) (by omega);have hr3:=hr.mono (j:=3) (by omega);have hr4:=hr.mono (j:=4) (by omega);have hr5:=hr.mono (j:=5) (by omega);have hr6:=hr.mono (j:=6) (by omega);have hr8:=hr.mono (j:=8) (by omega);have hr10:=hr.mono (j:=10) (by omega)
 refine⟨_,(aj (mF (pC GPl hr4 az (aa (pv 0) (aa (aH bp (pC GAt hr1 az (aa (pv 0) (aa ag ae))) ag) ae))) (cz (n:=4) rfl (aE (pN 1 fU.nd) (aE (pN 2 fU.nd) (aE (pN 3 fU.nd) (aE (pN 4 fU.nd) bS))))))
   (aj (pS 5 fU.nd (ni MH GHI hr2 rfl mCH bHI .nil az (aa (pC GHd hr6 az (aa (pv 1) (aa (pv 2) ae))) ae)))
   (aj (pS 6 fU.nd (bo (aa ed (aa (bo ae) (aa (bo (aa (bQ (aa ag (aa (pC GTa hr1 az (aa (pv 1) (aa (pv 2) ae))) ae))) ae)) (aa ag (aa (al fb (by rfl) T.sorted (by decide) (aa (pv 1) ae)) ae)))))))
   (aj (pS 7 fU.nd (pC GPo hr3 az (aa (pv 0) (aa (pv 1) (aa (pv 2) (aa (pv 3) (aa (pv 4) ae)))))))
   (aj (aP (pC GBg hr8 az (aa (pv 0) (aa (pv 5) (aa (pv 6) (aa (pv 7) ae))))))
   (aj (pS 8 fU.nd (aH bp (pC GAt hr1 az (aa (pv 0) (aa ag ae))) ag))
   (aj (bC PassesOwn.never rfl (cc rfl T.range (aa (al (lq rfl) (by rfl) T.min (by decide) (aa ag (aa (al av (by rfl) T.len zX (aa (pv 0) ae)) ae))) ae)) (pN 9 fU.nd) (aj (pS 10 fU.nd (pC GDw hr2 az (aa (pC GD hr1 az (aa (aH cn (pI ak (pv 0) (pv 9)) (aH fK (aH fK ag (pv 9)) (pv 8))) (aa ag (aa ag (aa (pv 8) ae))))) (aa (pv 6) (aa (pv 7) ae)))))
   (ah (aB (PW.pt (d8 (bV (bE (pC GFt hr10 az (aa (pv 5) (aa (pv 6) (aa (pv 10) ae)))))) (cM (bV (bE (pC GAl hr3 az (aa (pM0 (pv 5) cH GHY hr1 gx) (aa (pI ak (pv 6) ag) ae)))))))) (ah (aq cw)) am))))
   (ah (aq (pC GSe hr5 az (aa (pv 5) (aa (pv 6) (aa (pC GDz hr1 az (aa (pv 6) ae)) ae))))))))))))),?_⟩
 try dsimp only[aC,aM]
 have hs:=aK;have lk0:∀ {A0:Ad}{m:Str}{dd:Int},(m==zM "first_shades")=false→(m==zM "day_now")=false→(m==zM "standing")=false→(m==zM "books_from")=false→Aj m (hfs A0 dd)=none:=fun h1 h2 h3 h4=>ee h1 h2 h3 h4;refine au (fun σ' H'=>∃ l lb ss bs spare other,σ'=[some (.ref a),some (.ref l),some (.ref lb),some (.str spare),some (.str other),none,none,none,none,none,none]∧af H H'∧H' l=some (.lst (ss.map V.str))∧gN H' lb bs∧aN ss bs∧Nm spare∧Nm other) (fun R hR=>?_) ?_
 . walk_at""
   have h0:(0:Int)≤atL ns 1 % 9:=by omega
   refine dw ha (by decide) ⟨_,rfl,by decide,a,ns,(atL ns 1 % 9).toNat,by rw[B6 h0],ha,by omega,fun p l lb ss bs spare other H' S h1 h2 h3 h4 h5 B hbl n1 _ n2 _=>?_⟩;exact⟨p,_,rfl,SqT.of h1,rfl,_,_,rfl,_,_,rfl,_,_,rfl,_,_,rfl,rfl,hR _ _ ⟨l,lb,ss,bs,_,_,rfl,S,h3,h5,B,n1,n2⟩⟩
 rintro σ1 H1 ⟨l,lb,ss,bs,spare,other,rfl,S1,hl,hb,B,nsp,noth⟩;have hs12:=B.s12;have hs1:=B.s1;have hb8:=B.b8;refine au (fun σ' H'=>∃ (A0:Ad)(W:Hp),σ'=[some (.ref a),some (.ref l),some (.ref lb),some (.str spare),some (.str other),some (.ref A0.x),none,none,none,none,none]∧af H1 (hid H' A0)∧aI H' CH CB A0 W ss ⟨[],1,[],[(1,(ss,bs))]⟩∧∀ b o,H1 b=some o→W b=none) (fun R hR=>?_) ?_
 . walk_at"";refine⟨l,lb,ss,bs,rfl,SqL.of hl,hb,B,fun r H' hr S hbk=>?_⟩;show ∀ (x dx:Addr),_;intro x dx hx hdx hne
   have S6:af H' (hide (upd (upd H' dx (.own x)) x (.ins CH dx [])) x):=fun y o e=>by
     rw[aW (aF e hx),ai (aF e hx),ai (aF e hdx)];exact e
   exact⟨x,dx,r,cV H1 H',ss,bs,rfl,ac,ln.trans S6,hbk,fun A0 H2 hA S7 hh=>⟨rfl,by rw[←hA];exact hR _ _ ⟨A0,_,rfl,(S.trans S6).trans S7,hh,fun b o e=>by unfold cV;rw[e]⟩⟩⟩
 rintro σ2 H2 ⟨A0,W,rfl,S2,hh2,hW2⟩;have ho2:=bH.new B;have occ2:eS (fX A0 W fun _=>false) H2:=hh2.occ (fun b hb=>by cases hb);refine au (fun σ' H'=>∃ lk kc kd kt lo so,σ'=[some (.ref a),some (.ref l),some (.ref lb),some (.str spare),some (.str other),some (.ref A0.x),some (.ref lk),none,none,none,none]∧af H2 H'∧(∀ k∈[lk,kc,kd,kt],H2 k=none)∧J38 H' CH CB A0 W (fun _=>false) lk kc kd kt lo so (bs.map (·.1)) ss ⟨[],1,[],[(1,(ss,bs))]⟩ [(1,lkB ss bs)]) (fun R hR=>?_) ?_
 . walk_at"";intro kc hkc;refine⟨by omega,fun kd hkd=>?_⟩;have Sa:af H2 (upd (upd H2 kc (.dK [])) kd (.lst [])):=(af.updN hkc).trans (af.updN hkd);have hckd:kc≠kd:=aF ac hkd
   have hkc1:upd (upd H2 kc (.dK [])) kd (.lst []) kc=some (.dK []):=by rw[ai hckd];exact ac
   have hkd1:upd (upd H2 kc (.dK [])) kd (.lst []) kd=some (.lst []):=ac;generalize upd (upd H2 kc (.dK [])) kd (.lst [])=Ha at *;refine⟨l,lb,ss,bs,rfl,SqL.of ((S2.trans (aZ.trans Sa)) _ _ hl),af.bths (S2.trans (aZ.trans Sa)) hb,B,fun d Hb hd Sb hT=>?_⟩;refine⟨by omega,fun t ht=>⟨by omega,fun kt hkt=>?_⟩⟩;refine⟨ss,SqL.of (((Sb.trans (af.updN ht)).trans (af.updN hkt)) _ _ ((S2.trans (aZ.trans Sa)) _ _ hl)),by omega,fun lo so hlo hpm hso=>⟨by omega,fun lk hlk=>?_⟩⟩;have Sc:af Hb (upd (upd (upd (upd Hb t (.tup [.int 1,.ref d])) kt (.lst [.ref t])) lo (.lst (so.map V.str))) lk (.lst [.ref kc,.ref kd,.ref kt,.int 1,.ref lo])):=((af.updN ht).trans (af.updN hkt)).trans ((af.updN hlo).trans (af.updN hlk))
   have n2:∀ {G:Hp}{x:Addr},af H2 G→G x=none→H2 x=none:=fun {G x} S e=>by
     cases hz:H2 x with
     | none=>rfl
     | some o=>rw[S _ _ hz] at e;cases e
   have Sab:=Sa.trans Sb;have Lt:af Hb (upd Hb t (.tup [.int 1,.ref d])):=af.updN ht;have Lkt:af (upd Hb t (.tup [.int 1,.ref d])) (upd (upd Hb t (.tup [.int 1,.ref d])) kt (.lst [.ref t])):=af.updN hkt;have Llo:af (upd (upd Hb t (.tup [.int 1,.ref d])) kt (.lst [.ref t])) (upd (upd (upd Hb t (.tup [.int 1,.ref d])) kt (.lst [.ref t])) lo (.lst (so.map V.str))):=af.updN hlo;have Llk:af (upd (upd (upd Hb t (.tup [.int 1,.ref d])) kt (.lst [.ref t])) lo (.lst (so.map V.str))) (upd (upd (upd (upd Hb t (.tup [.int 1,.ref d])) kt (.lst [.ref t])) lo (.lst (so.map V.str))) lk (.lst [.ref kc,.ref kd,.ref kt,.int 1,.ref lo])):=af.updN hlk
   have hks:∀ k∈[lk,kc,kd,kt],H2 k=none:=fun k hk=>by
     simp only[AE,Ax,or_false] at hk
     rcases hk with rfl | rfl | rfl | rfl
     . exact n2 (Sab.trans (Lt.trans (Lkt.trans Llo))) hlk
     . exact hkc
     . exact n2 (af.updN hkc) hkd
     . exact n2 (Sab.trans Lt) hkt
   exact hR _ _ ⟨lk,kc,kd,kt,lo,so,rfl,Sab.trans Sc,hks,J38.start hh2 (fun b hb=>by cases hb) B Sa Sb Sc hks (n2 (Sab.trans (Lt.trans Lkt)) hlo) (n2 Sab ht) hkc1 (Sc _ _ (Sb _ _ hkd1)) (Llk _ _ (Llo _ _ (Lkt _ _ ac))) (Llk _ _ (Llo _ _ ac)) (Llk _ _ ac) ac hd hT hpm hso⟩
 rintro σ3 H3 ⟨lk,kc,kd,kt,lo,so,rfl,S3,hks,J3⟩;have up3:=S2.trans (aZ.trans S3);refine au (fun σ' H'=>∃ (pl pc pb pz:Addr)(ws PB PZ:List Str) (w:Str),σ'=[some (.ref a),some (.ref l),some (.ref lb),some (.str spare),some (.str other),some (.ref A0.x),some (.ref lk),some (.ref pl),none,none,none]∧af H3 H'∧(∀ p∈[pl,pc,pb,pz],H3 p=none)∧H' pl=some (.lst [.ref pc,.ref pb,.ref pz])∧H' pc=some (.lst ((ws++[w]).map V.str))∧H' pb=some (.lst (PB.map V.str))∧H' pz=some (.lst (PZ.map V.str))∧ws.length=5∧ws.Nodup∧(∀ x∈ws,Nm x)∧Shw w∧(1≤PB.length∧PB.length≤100)∧(1≤PZ.length∧PZ.length≤100)∧(∀ c∈PB,Shw c)∧(∀ c∈PZ,Shw c)) (fun R hR=>?_) ?_
 . walk_at"";refine⟨a,l,lb,ns,ss,bs,spare,other,rfl,(S1.trans up3).seq ha,up3 _ _ hl,af.bths up3 hb,B,B.snw,B.bnw,nsp.shw,noth.shw,fun pl pc pb pz ws PB PZ w H' S n1 n2 n3 n4 e1 e2 e3 e4 g1 g2 g3 g4 g5 g6 g7 g8=>hR _ _ ⟨pl,pc,pb,pz,ws,PB,PZ,w,rfl,S,fun p hp=>?_,e1,e2,e3,e4,g1,g2,g3,g4,g5,g6,g7,g8⟩⟩;simp only[AE,Ax,or_false] at hp
   rcases hp with rfl | rfl | rfl | rfl<;>assumption
 rintro σ4 H4 ⟨pl,pc,pb,pz,ws,PB,PZ,w,rfl,S4,hnp,hpl,hpc,hpb,hpz,hw5,hwn,hwm,hww,lPB,lPZ,sPB,sPZ⟩;have J4:=J3.same S4;have hpH:∀ {p:Addr}{xs:List V},p∈[pl,pc,pb,pz]→H4 p=some (.lst xs)→hid H4 A0 p=some (.lst xs):=fun hp e=>nw J3.hh (hnp _ hp) e;have hplh:=hpH (by simp) hpl;have hpch:=hpH (by simp) hpc;have hpbh:=hpH (by simp) hpb;have hpzh:=hpH (by simp) hpz;have hah:SqL K (hid H4 A0) a (ns.map V.int):=((S1.trans S2).trans (ck (S3.trans S4))).seq ha
 have hso1:1≤so.length:=by rw[J3.ka.pm.length_eq];exact hs1
 have hsoS:∀ z∈so,Shw z:=fun z hz=>B.snw z (J3.ka.pm.mem_iff.mp hz);refine au (fun σ' H'=>∃ h,σ'=[some (.ref a),some (.ref l),some (.ref lb),some (.str spare),some (.str other),some (.ref A0.x),some (.ref lk),some (.ref pl),none,none,none]∧J38 H' CH CB A0 W (fun _=>false) lk kc kd kt lo so (bs.map (·.1)) ss h [(1,lkB ss bs)]∧(∀ b o,b≠kc→hid H4 A0 b=some o→hid H' A0 b=some o)∧h.dp.length=0∧∀ c∈h.cl,c.1∈ws) (fun R hR=>?_) ?_
 . walk_at"";exact⟨A0,W,fun _=>false,lk,kc,kd,kt,lo,so,_,ss,_,_,a,pl,pc,pb,pz,ns,ws,w,rfl,hah,J4,rfl,by show 0 < 999;decide,by show 1 < 999;decide,hso1,hplh,hpch,hw5,hwn,hwm,fun H' h' J k edp ecl lcl=>hR _ _ ⟨h',rfl,J,k,by rw[edp];rfl,ecl⟩⟩
 rintro σ5 H5 ⟨h5,rfl,J5,k5,hdp5,hcl5⟩;have hB0:∃ B0:Hp,B0=bj (fun b=>decide (b∈[lk,kc,kd,kt])) (hid H4 A0):=⟨_,rfl⟩;obtain⟨B0,hB0⟩:=hB0
 have b0:∀ {b:Addr}{o:HO},B0 b=some o→b∉[lk,kc,kd,kt]∧hid H4 A0 b=some o:=fun {b o} e=>by
   rw[hB0] at e;have:=aQ e;exact⟨fun hm=>(by have h2:=this.2;rw[decide_eq_true hm] at h2;cases h2),this.1⟩
 have hpk:∀ p∈[pl,pc,pb,pz],p∉[lk,kc,kd,kt]:=fun p hp hk=>by
   have h1:=hnp p hp
   have h3:∃ o,H3 p=some o:=by
     obtain⟨psd,hkd,_⟩:=J3.ki.r.hkd;obtain⟨pst,dst,hkt,_⟩:=J3.ki.r.hkt;simp only[AE,Ax,or_false] at hk
     rcases hk with rfl | rfl | rfl | rfl
     . exact⟨_,ar _ _ J3.ki.r.hlk⟩
     . exact⟨_,ar _ _ J3.ki.kcx⟩
     . exact⟨_,ar _ _ hkd⟩
     . exact⟨_,ar _ _ hkt⟩
   obtain⟨o,h3⟩:=h3;rw[h1] at h3;cases h3
 have hpB:∀ {p:Addr}{xs:List V},p∈[pl,pc,pb,pz]→hid H4 A0 p=some (.lst xs)→B0 p=some (.lst xs):=fun {p xs} hp e=>by
   rw[hB0];exact cj e (decide_eq_false (hpk p hp))
 have hplB:=hpB (by simp) hplh;have hpcB:=hpB (by simp) hpch;have hpbB:=hpB (by simp) hpbh;have hpzB:=hpB (by simp) hpzh
 have haB:SqL K B0 a (ns.map V.int):=by
   have hk:∀ b o,H1 b=some o→B0 b=some o:=fun b o e=>by
     rw[hB0];refine cj ((ck (S3.trans S4)) _ _ (S2 _ _ e)) (decide_eq_false fun hm=>?_);have h1:=aZ _ _ (S2 _ _ e);rw[hks b hm] at h1;cases h1
   rcases S1.seq ha with (h | ⟨u,h⟩) | h
   . exact .inl (.inl (hk _ _ h))
   . exact .inl (.inr ⟨u,hk _ _ h⟩)
   . exact .inr h
 have kb5:∀ b o,B0 b=some o→(∀ u,o≠.dK u)→hid H5 A0 b=some o:=fun b o e _=>k5 b o (fun z=>(b0 e).1 (by rw[z];simp)) (b0 e).2;refine au (fun σ' H'=>∃ mx:Int,(mx=0∨mx=1)∧σ'=[some (.ref a),some (.ref l),some (.ref lb),some (.str spare),some (.str other),some (.ref A0.x),some (.ref lk),some (.ref pl),some (.int mx),none,none]∧H'=H5) (fun R hR=>?_) ?_
 . walk_at"";exact dw (yp haB fun b o e n=>aZ _ _ (kb5 b o e n)) (by decide) ⟨_,rfl,by decide,hR _ _ ⟨_,by omega,rfl,rfl⟩⟩
 rintro σ6 H6 ⟨mx,hmx,rfl,rfl⟩;refine au (fun σ' H'=>∃ (W':Hp) (h:Hs)(Tb:List (Int×LK))(o9 o10:Option V),σ'=[some (.ref a),some (.ref l),some (.ref lb),some (.str spare),some (.str other),some (.ref A0.x),some (.ref lk),some (.ref pl),some (.int mx),o9,o10]∧J38 H' CH CB A0 W' (fun _=>false) lk kc kd kt lo so (bs.map (·.1)) ss h Tb∧(∀ c∈h.cl,c.1∈ws++[w])) (fun R hR=>?_) ?_
 . walk_at"";refine⟨_,.inl (yp haB fun b o e n=>aZ _ _ (kb5 b o e n)),?_⟩;rw[be];refine⟨by split<;>omega,by split<;>omega,?_⟩
   have hmin:(if((ns.length:Nat):Int) < 200 then((ns.length:Nat):Int) else 200).toNat=ns.length:=by rw[if_pos (by omega)];omega
   rw[hmin];refine bi (H0:=fun _=>none) br (fun i σ' H'=>∃ (W':Hp) (h:Hs)(Tb:List (Int×LK))(o9 o10:Option V),σ'=[some (.ref a),some (.ref l),some (.ref lb),some (.str spare),some (.str other),some (.ref A0.x),some (.ref lk),some (.ref pl),some (.int mx),o9,o10]∧J38 H' CH CB A0 W' (fun _=>false) lk kc kd kt lo so (bs.map (·.1)) ss h Tb∧(∀ b o,B0 b=some o→(∀ u,o≠.dK u)→hid H' A0 b=some o)∧h.dp.length≤i∧Tb.length≤i+1∧∀ c∈h.cl,c.1∈ws++[w]) ⟨W,h5,_,none,none,rfl,J5,kb5,by omega,zR _,fun c hc=>AX _ (hcl5 c hc)⟩ (fun _ _ _ _ _ b o e=>by cases e) ?_ ?_
   . rintro i x σ H' hi rfl ⟨W',h,Tb,o9,o10,rfl,J,kb,hdl,htl,hcl⟩ R2 hR2
     have hz:(0:Int)+(i:Int)=i:=by omega
     rw[hz]
     have hm9:(31:Int)*i*mx < 2 ^ 62:=by rcases hmx with e | e<;>(rw[e];omega)
     have hcl6:h.cl.length < 50:=by
       have:=vY (h.cl.map (·.1)) (ws++[w]) J.ka.ho.cnd (fun x hx=>by obtain⟨c,hc,rfl⟩:=List.mem_map.mp hx;exact hcl c hc);rw[be,zP,zV] at this;omega
     have kl:∀ {p:Addr}{xs:List V},B0 p=some (.lst xs)→hid H' A0 p=some (.lst xs):=fun e=>kb _ _ e (fun _ e=>by cases e);refine au (fun σ' H''=>∃ (t:Addr)(dd:Dd),σ'=[some (.ref a),some (.ref l),some (.ref lb),some (.str spare),some (.str other),some (.ref A0.x),some (.ref lk),some (.ref pl),some (.int mx),some (.int i),some (.ref t)]∧af H' H''∧H'' t=some (.tup dd.tup)∧dd.fine H''∧dd.luok [lk,kc,kd,kt]∧∀ c z,dd=.bring c z→c∈ws++[w]) (fun R hR=>?_) ?_
     . walk_at"";refine⟨_,yp haB fun b o e n=>aZ _ _ (kb b o e n),V.int ns[i],bT (by rw[zO,zN hi];rfl),.inl ⟨by decide,by decide⟩,.inl ⟨by omega,by omega⟩,_,rfl,_,_,_,_,rfl,by decide,by decide,by decide,by decide,hmx,fun dr H'' hdr S'' hH''=>?_⟩;have J'':=J.same S'';refine⟨dr,pl,pc,pb,pz,_,ws++[w],PB,PZ,lk,kc,kd,kt,lo,so,_,ss,h,Tb,rfl,hH'',CC (eJ _ _ _ _).symm,J''.ki.r.same ar,hso1,J.ka.so12,hsoS,S'' _ _ (aZ _ _ (kl hplB)),S'' _ _ (aZ _ _ (kl hpcB)),S'' _ _ (aZ _ _ (kl hpbB)),S'' _ _ (aZ _ _ (kl hpzB)),by rw[zP,hw5,zV];exact⟨by decide,by decide⟩,lPB,lPZ,fun c hc=>?_,sPB,sPZ,fun t dd H3' S3' hn3 ht3 hf3 hlu3 hbr3=>hR _ _ ⟨t,dd,rfl,S''.trans S3',ht3,hf3,?_,hbr3⟩⟩
       . rcases List.mem_append.mp hc with hc | hc
         . exact(hwm c hc).shw
         . rw[List.mem_singleton.mp hc];exact hww
       . cases dd with
         | change b lu os d =>
           intro hm;have h1:=hlu3 b lu os d rfl;obtain⟨psd,hkd,_⟩:=J''.ki.r.hkd;obtain⟨pst,dst,hkt,_⟩:=J''.ki.r.hkt;simp only[AE,Ax,or_false] at hm
           rcases hm with rfl | rfl | rfl | rfl
           . rw[ar _ _ J''.ki.r.hlk] at h1;cases h1
           . rw[ar _ _ J''.ki.kcx] at h1;cases h1
           . rw[ar _ _ hkd] at h1;cases h1
           . rw[ar _ _ hkt] at h1;cases h1
         | _=>trivial
     rintro σ1 H1' ⟨t,dd,rfl,S1',ht,hfd,hlu,hbr⟩;have J1:=J.same S1';walk_at"";refine⟨A0,W',fun _=>false,lk,kc,kd,kt,lo,so,_,ss,h,Tb,t,dd,rfl,J1,ht,hfd,hlu,B.snd,hcl6,by omega,by omega,fun H2' W2 h2 Tb2 J2 kp gr l1 l2 l3=>?_⟩
     have kb2:∀ b o,B0 b=some o→(∀ u,o≠.dK u)→hid H2' A0 b=some o:=fun b o e n=>by
       have e1:=gI (kb b o e n)
       rcases kp b o (b0 e).1 e1.2 (S1' _ _ e1.1) with h | ⟨_,u,_,z,_⟩
       . exact fe h e1.2.1 e1.2.2.1 e1.2.2.2.1 e1.2.2.2.2
       . exact(n u z).elim
     refine⟨true,rfl,ay (fun h=>by cases h) (fun _=>?_)⟩;refine⟨A0.dx,_,J2.hh.ins,lk0 (by decide) (by decide) (by decide) (by decide),A0,W2,ss,h2,rfl,J2.hh,_,SqL.of (ar _ _ J2.ki.r.hlk),_,rfl,_,_,rfl,.inr (.inl ⟨_,_,rfl,rfl,_,rfl,ay (fun hc=>by simp at hc) (fun _=>hR2 _ _ ⟨W2,h2,Tb2,_,_,rfl,J2,kb2,by omega,by omega,fun c hc=>?_⟩)⟩)⟩
     rcases l3 c hc with hc | ⟨z,hz⟩
     . exact hcl c hc
     . exact hbr _ _ hz
   . rintro σ H' ⟨W',h,Tb,o9,o10,rfl,J,kb,hdl,htl,hcl⟩;exact hR _ _ ⟨W',h,Tb,o9,o10,rfl,J,hcl⟩
 rintro σ7 H7 ⟨W',h,Tb,o9,o10,rfl,J7,hcl7⟩;walk_at"";have ho7:=J7.ka.ho;refine⟨lk,kc,kd,kt,lo,so,_,ss,h,Tb,rfl,J7.ki.r.same ar,⟨ho7.d1,ho7.d4⟩,fun e he=>?_,fun e he=>?_,fun ld L H' S hn hl hL hd=>?_⟩
 . have h1:=ho7.dd e he;have h2:=ho7.d4;exact⟨h1.1,by omega⟩
 . have h1:=J7.ka.ts e he;have h2:=ho7.d4;exact⟨h1.1,by omega⟩
 . refine⟨A0,W',fun _=>false,lk,kc,kd,kt,lo,so,_,ss,h,Tb,ld,L,rfl,(J7.same S).jr,hl,by omega,hd,fun c hc=>?_,fun H' _ _=>q H'⟩
   rcases List.mem_append.mp (hcl7 c hc) with hc | hc
   . exact(hwm _ hc).shw
   . rw[List.mem_singleton.mp hc];exact hww
end
end DM
namespace DM
open PySem L2
theorem bits12 {K:PySem.W.Frag}{C:Addr}{x1 x2 x3 x4 x5 x6 x7 x8 x9 x10 x11 x12:Addr}{b1 b2 b3 b4 b5 b6 b7 b8 b9 b10 b11 b12:Bool}
   (h1:Ag K (.ref C) (.ref x1)=some b1)(h2:Ag K (.ref C) (.ref x2)=some b2)(h3:Ag K (.ref C) (.ref x3)=some b3)(h4:Ag K (.ref C) (.ref x4)=some b4)(h5:Ag K (.ref C) (.ref x5)=some b5)(h6:Ag K (.ref C) (.ref x6)=some b6)(h7:Ag K (.ref C) (.ref x7)=some b7)(h8:Ag K (.ref C) (.ref x8)=some b8)(h9:Ag K (.ref C) (.ref x9)=some b9)(h10:Ag K (.ref C) (.ref x10)=some b10)(h11:Ag K (.ref C) (.ref x11)=some b11)(h12:Ag K (.ref C) (.ref x12)=some b12) :
   ∀ (i:Nat) c b,[x1,x2,x3,x4,x5,x6,x7,x8,x9,x10,x11,x12][i]?=some c→[b1,b2,b3,b4,b5,b6,b7,b8,b9,b10,b11,b12][i]?=some b→Ag K (.ref C) (.ref c)=some b:=by
 intro i c b hc hb
 rcases i with _ | _ | _ | _ | _ | _ | _ | _ | _ | _ | _ | _ | i
 all_goals first
   | (cases hc;cases hb;assumption)
   | (cases hc)
theorem isSm {α:Type}{o:Option α}{c:α}(h:o=some c):o.isSome=true:=by rw[h];rfl
local macro_rules | `(tactic| walk_at "b")=>`(tactic| first | (exact fun _ _ _ _ _ _ us hl=>match us,hl with | [_],_=>rfl) | (exact fun _ _ _ _ _ _ us hl=>match us,hl with | [_,_],_=>rfl) | (exact fun _ _ _ _ _ _ us hl=>match us,hl with | [_,_,_],_=>rfl) | (exact fun _ _ _ _ _ _ us hl=>match us,hl with | [_,_,_,_],_=>rfl) | (exact fun _ _ _ _ _ _ us hl=>match us,hl with | [_,_,_,_,_],_=>rfl) | (exact fun _ _ _ _ _ _ us hl=>match us,hl with | [],_=>rfl))
theorem zf {P:Program}{w:World}{K:PySem.W.Frag}{hp:Heap}{mg:Str→Option Value}{base:Heap}(X:K.In hp)(G:hp.Ns mainGlobals mg){CX:CXT}{k:Nat}{sp:Sp}{n x qual:Str}{st:Stmt}{f:Addr}{fd:FuncData}{ps:List Str}(F:Am K mainGlobals n=some (some (.ref f))∧Fun K x qual st f fd)(g:aU P w K mg base CX k f fd ps sp)
 (h:∀ (kV doc pm:Value)(an:Option Addr) (cdv ct:Value)(us:List Value),us.length=ps.length→bindArgs (Bs x qual (gh st) (dF st) (ao st) .none kV doc pm an cdv ct) ⟨us,[]⟩=pure (ps.zip us):=by walk_at "b"):Cl P w K mg base CX k n ps sp f fd:=⟨g,F.2.kp,F.2.binds h,Ak X G F.1⟩
theorem zm {P:Program}{w:World}{K:PySem.W.Frag}{mg:Str→Option Value}{base:Heap}{CX:CXT}{k:Nat}{sp:Sp}{C:Addr}{n x qual:Str}{st:Stmt}{f:Addr}{fd:FuncData}{ps:List Str}(F:Meth K C n f∧Fun K x qual st f fd)(g:aU P w K mg base CX k f fd ps sp)
 (h:∀ (kV doc pm:Value)(an:Option Addr) (cdv ct:Value)(us:List Value),us.length=ps.length→bindArgs (Bs x qual (gh st) (dF st) (ao st) .none kV doc pm an cdv ct) ⟨us,[]⟩=pure (ps.zip us):=by walk_at "b"):Cm P w K mg base CX k C n ps sp f fd:=⟨g,F.1,F.2.binds h⟩
def Gn (K:PySem.W.Frag) (n:Str)(f:Addr):Prop:=Am K mainGlobals n=some (some (.ref f))
set_option autoImplicit true in
set_option relaxedAutoImplicit true in
theorem all_mk {l:PySem.W.OpenLaw}{w:World}{K:PySem.W.Frag}{h:Heap}{mg:Str→Option Value}{fa:Addr}(X:K.In h)(G:h.Ns mainGlobals mg)(hfa:mg "law"=some (.ref fa))
   (aCB:Gn K "Book" CB)
   (FI:Meth K CB "__init__" f0I∧Fun K "__init__" "Book.__init__" ra f0I d0I)
   (FMS:Meth K CB "shades" f0MS∧Fun K "shades" "Book.shades" jG f0MS d0MS)
   (FMB:Meth K CB "baths" f0MB∧Fun K "baths" "Book.baths" mf f0MB d0MB)
   (FMT:Meth K CB "table" f0MT∧Fun K "table" "Book.table" my f0MT d0MT)
   (FMX:Meth K CB "changed" f0MX∧Fun K "changed" "Book.changed" iW f0MX d0MX)
   (FMC:Meth K CB "check_bath" f0MC∧Fun K "check_bath" "Book.check_bath" jp f0MC d0MC)
   (FMH:Meth K CB "check_shade" f0MH∧Fun K "check_shade" "Book.check_shade" ia f0MH d0MH)
   (FMO:Meth K CB "out" f0MO∧Fun K "out" "Book.out" vD f0MO d0MO)
   (clB:Cls K CB)
   (mkB:BW K CB=true)
   (kcB:Bc K (.ref CB)=true)
   (OB:Own K CB)
   (naB_order:NoAttr K CB "order")
   (naB_tables:NoAttr K CB "tables")
   (aCH:Gn K "House" CH)
   (FHI:Meth K CH "__init__" f0HI∧Fun K "__init__" "House.__init__" pQ f0HI d0HI)
   (FHR:Meth K CH "bring" f0HR∧Fun K "bring" "House.bring" mD f0HR d0HR)
   (FHQ:Meth K CH "dip" f0HQ∧Fun K "dip" "House.dip" vN f0HQ d0HQ)
   (FHK:Meth K CH "back" f0HK∧Fun K "back" "House.back" pG f0HK d0HK)
   (FHG:Meth K CH "change" f0HG∧Fun K "change" "House.change" jY f0HG d0HG)
   (FHB:Meth K CH "book" f0HB∧Fun K "book" "House.book" qZ f0HB d0HB)
   (FHS:Meth K CH "shade" f0HS∧Fun K "shade" "House.shade" nj f0HS d0HS)
   (FHT:Meth K CH "trail" f0HT∧Fun K "trail" "House.trail" mM f0HT d0HT)
   (FHP:Meth K CH "dips" f0HP∧Fun K "dips" "House.dips" qO f0HP d0HP)
   (FHN:Meth K CH "newest_book" f0HN∧Fun K "newest_book" "House.newest_book" kA f0HN d0HN)
   (FHC:Meth K CH "check_cloth" f0HC∧Fun K "check_cloth" "House.check_cloth" j9 f0HC d0HC)
   (FHD:Meth K CH "check_day_to_do" f0HD∧Fun K "check_day_to_do" "House.check_day_to_do" qW f0HD d0HD)
   (FHL:Meth K CH "cloths" f0HL∧Fun K "cloths" "House.cloths" jW f0HL d0HL)
   (FHY:Meth K CH "today" f0HY∧Fun K "today" "House.today" nA f0HY d0HY)
   (clH:Cls K CH)
   (mkH:BW K CH=true)
   (kcH:Bc K (.ref CH)=true)
   (OH:Own K CH)
   (naH_first_shades:NoAttr K CH "first_shades")
   (naH_day_now:NoAttr K CH "day_now")
   (naH_standing:NoAttr K CH "standing")
   (naH_books_from:NoAttr K CH "books_from")
   (FGd:Gn K "good_name" f0Gd∧Fun K "good_name" "good_name" uj f0Gd d0Gd)
   (FCn:Gn K "check_names" f0Cn∧Fun K "check_names" "check_names" jo f0Cn d0Cn)
   (FCs:Gn K "check_shades" f0Cs∧Fun K "check_shades" "check_shades" ik f0Cs d0Cs)
   (FCo:Gn K "check_outs" f0Co∧Fun K "check_outs" "check_outs" me f0Co d0Co)
   (FCb:Gn K "check_baths" f0Cb∧Fun K "check_baths" "check_baths" js f0Cb d0Cb)
   (FCD:Gn K "check_day" f0CD∧Fun K "check_day" "check_day" uy f0CD d0CD)
   (FA:Gn K "_law_at" f0A∧Fun K "_law_at" "_law_at" sAt f0A d0A)
   (FD:Gn K "_law_draws" f0D∧Fun K "_law_draws" "_law_draws" pF f0D d0D)
   (FW:Gn K "_law_words" f0W∧Fun K "_law_words" "_law_words" qX f0W d0W)
   (FPl:Gn K "_law_plain" f0Pl∧Fun K "_law_plain" "_law_plain" qD f0Pl d0Pl)
   (FTa:Gn K "_law_tables" f0Ta∧Fun K "_law_tables" "_law_tables" mU f0Ta d0Ta)
   (FHd:Gn K "_law_handed" f0Hd∧Fun K "_law_handed" "_law_handed" mH f0Hd d0Hd)
   (FX:Gn K "_law_texts" f0X∧Fun K "_law_texts" "_law_texts" qC f0X d0X)
   (FTe:Gn K "_law_tells" f0Te∧Fun K "_law_tells" "_law_tells" qT f0Te d0Te)
   (FAl:Gn K "_law_alike" f0Al∧Fun K "_law_alike" "_law_alike" qz f0Al d0Al)
   (FNw:Gn K "_law_no" f0Nw∧Fun K "_law_no" "_law_no" sNo f0Nw d0Nw)
   (FIs:Gn K "_law_is_name" f0Is∧Fun K "_law_is_name" "_law_is_name" l7 f0Is d0Is)
   (FRl:Gn K "_law_refusal" f0Rl∧Fun K "_law_refusal" "_law_refusal" kO f0Rl d0Rl)
   (FDo:Gn K "_law_do" f0Do∧Fun K "_law_do" "_law_do" sDo f0Do d0Do)
   (FAs:Gn K "_law_asked" f0As∧Fun K "_law_asked" "_law_asked" q9 f0As d0As)
   (FIF:Gn K "_law_in_force" f0IF∧Fun K "_law_in_force" "_law_in_force" jB f0IF d0IF)
   (FTD:Gn K "_law_trail_due" f0TD∧Fun K "_law_trail_due" "_law_trail_due" iT f0TD d0TD)
   (FSD:Gn K "_law_shade_due" f0SD∧Fun K "_law_shade_due" "_law_shade_due" iu f0SD d0SD)
   (FDpD:Gn K "_law_dips_due" f0DpD∧Fun K "_law_dips_due" "_law_dips_due" kf f0DpD d0DpD)
   (FBrD:Gn K "_law_bring_due" f0BrD∧Fun K "_law_bring_due" "_law_bring_due" iI f0BrD d0BrD)
   (FDiD:Gn K "_law_dip_due" f0DiD∧Fun K "_law_dip_due" "_law_dip_due" ng f0DiD d0DiD)
   (FBaD:Gn K "_law_back_due" f0BaD∧Fun K "_law_back_due" "_law_back_due" jO f0BaD d0BaD)
   (FChD:Gn K "_law_change_due" f0ChD∧Fun K "_law_change_due" "_law_change_due" gF f0ChD d0ChD)
   (FAsD:Gn K "_law_asked_due" f0AsD∧Fun K "_law_asked_due" "_law_asked_due" io f0AsD d0AsD)
   (FDu:Gn K "_law_due" f0Du∧Fun K "_law_due" "_law_due" xF f0Du d0Du)
   (FFt:Gn K "_law_fits" f0Ft∧Fun K "_law_fits" "_law_fits" ua f0Ft d0Ft)
   (FSn:Gn K "_law_seen" f0Sn∧Fun K "_law_seen" "_law_seen" uq f0Sn d0Sn)
   (FDz:Gn K "_law_days" f0Dz∧Fun K "_law_days" "_law_days" ut f0Dz d0Dz)
   (FDy:Gn K "_law_day" f0Dy∧Fun K "_law_day" "_law_day" wa f0Dy d0Dy)
   (FDw:Gn K "_law_deed" f0Dw∧Fun K "_law_deed" "_law_deed" ux f0Dw d0Dw)
   (FPo:Gn K "_law_pools" f0Po∧Fun K "_law_pools" "_law_pools" pY f0Po d0Po)
   (FBg:Gn K "_law_begun" f0Bg∧Fun K "_law_begun" "_law_begun" qR f0Bg d0Bg)
   (FL:Gn K "law" f0L∧Fun K "law" "law" yq f0L d0L)
   (aBadText:Gn K "BadText" x0BadText)
   (aTooLong:Gn K "TooLong" x0TooLong)
   (aDipError:Gn K "DipError" x0DipError)
   (aND:Gn K "NoDay" x0ND)
   (XND:ExcC K x0ND)
   (aLa:Gn K "Late" x0La)
   (XLa:ExcC K x0La)
   (aNC:Gn K "NoCloth" x0NC)
   (XNC:ExcC K x0NC)
   (aKn:Gn K "Known" x0Kn)
   (XKn:ExcC K x0Kn)
   (aBN:Gn K "BadName" x0BN)
   (XBN:ExcC K x0BN)
   (aFu:Gn K "Full" x0Fu)
   (XFu:ExcC K x0Fu)
   (aNB:Gn K "NoBath" x0NB)
   (XNB:ExcC K x0NB)
   (aNS:Gn K "NoShade" x0NS)
   (XNS:ExcC K x0NS)
   (aBB:Gn K "BadBook" x0BB)
   (XBB:ExcC K x0BB)
   (aNo:Gn K "NoDip" x0No)
   (XNo:ExcC K x0No)
   (hZ:Z=[x0BN,x0Kn,x0NC,x0NB,x0NS,x0BB,x0BadText,x0TooLong,x0ND,x0La,x0No,x0Fu])
   (BiBN:ExcC K x0BN→Bits K Z x0DipError x0BN DM.bBN)
   (BiKn:ExcC K x0Kn→Bits K Z x0DipError x0Kn DM.bKn)
   (BiNC:ExcC K x0NC→Bits K Z x0DipError x0NC DM.bNC)
   (BiNB:ExcC K x0NB→Bits K Z x0DipError x0NB DM.bNB)
   (BiNS:ExcC K x0NS→Bits K Z x0DipError x0NS DM.bNS)
   (BiBB:ExcC K x0BB→Bits K Z x0DipError x0BB DM.bBB)
   (BiND:ExcC K x0ND→Bits K Z x0DipError x0ND DM.bND)
   (BiLa:ExcC K x0La→Bits K Z x0DipError x0La DM.bLa)
   (BiNo:ExcC K x0No→Bits K Z x0DipError x0No DM.bNo)
   (zlen:Am K mainGlobals "len"=some none)
   (zall:Am K mainGlobals "all"=some none)
   (zrange:Am K mainGlobals "range"=some none)
   (zisinstance:Am K mainGlobals "isinstance"=some none)
   (zlist:Am K mainGlobals "list"=some none)
   (zstr:Am K mainGlobals "str"=some none)
   (zsorted:Am K mainGlobals "sorted"=some none)
   (ztuple:Am K mainGlobals "tuple"=some none)
   (zdict:Am K mainGlobals "dict"=some none)
   (zzip:Am K mainGlobals "zip"=some none)
   (zset:Am K mainGlobals "set"=some none)
   (zmin:Am K mainGlobals "min"=some none)
   (zint:Am K mainGlobals "int"=some none)
   (zmax:Am K mainGlobals "max"=some none)
   (zbool:Am K mainGlobals "bool"=some none)
   (zValueError:Am K mainGlobals "ValueError"=some none)
   (vlett:Am K mainGlobals "LETTERS"=some (some (.str bn tlett)))
   (vlong:Am K mainGlobals "LONGEST"=some (some (.int 8 tlong)))
   (vmostS:Am K mainGlobals "MOST_SHADES"=some (some (.int 12 tmostS)))
   (vmostB:Am K mainGlobals "MOST_BATHS"=some (some (.int 8 tmostB)))
   (vfday:Am K mainGlobals "FIRST_DAY"=some (some (.int 1 tfday)))
   (vlday:Am K mainGlobals "LAST_DAY"=some (some (.int 400 tlday)))
   (vmostC:Am K mainGlobals "MOST_CLOTHS"=some (some (.int 50 tmostC)))
   (vmostD:Am K mainGlobals "MOST_DIPS"=some (some (.int 1000 tmostD))) :
   ∃ fd:FuncData,(∀ (s:Shared) (v:Value),BindsTo s fd ⟨[v],[]⟩ [("_law_script",v)])∧∀ base:Heap,K.In base→base.Ns mainGlobals mg→aU l.prog w K mg base CX0 11 fa fd ["_law_script"] (rP K):=by
 cases hfa.symm.trans (Ak X G FL.1);have bI:=FI.2.binds (ps:=["self", "shades", "baths"]) (by walk_at "b");have mCB:=Ak X G aCB;have bHI:=FHI.2.binds (ps:=["self", "book"]) (by walk_at "b");have mCH:=Ak X G aCH;have mmBadText:=Ak X G aBadText;have mmTooLong:=Ak X G aTooLong;have mmDipError:=Ak X G aDipError;have mND:=Ak X G aND;have mLa:=Ak X G aLa;have mNC:=Ak X G aNC;have mKn:=Ak X G aKn;have mBN:=Ak X G aBN;have mFu:=Ak X G aFu;have mNB:=Ak X G aNB;have mNS:=Ak X G aNS;have mBB:=Ak X G aBB;have mNo:=Ak X G aNo;have nlen:=An X G zlen;have nall:=An X G zall;have nrange:=An X G zrange;have nisinstance:=An X G zisinstance;have nlist:=An X G zlist;have nstr:=An X G zstr;have nsorted:=An X G zsorted;have ntuple:=An X G ztuple;have ndict:=An X G zdict;have nzip:=An X G zzip;have nset:=An X G zset;have nmin:=An X G zmin;have nint:=An X G zint;have nmax:=An X G zmax;have nbool:=An X G zbool;have nValueError:=An X G zValueError;have elett:=Ak X G vlett;have elong:=Ak X G vlong;have emostS:=Ak X G vmostS;have emostB:=Ak X G vmostB;have efday:=Ak X G vfday;have elday:=Ak X G vlday;have emostC:=Ak X G vmostC;have emostD:=Ak X G vmostD;have T:Txt mg:=⟨nlen,nall,nrange,nisinstance,nlist,nstr,nsorted,ntuple,ndict,nzip,nset,nmin,nint,⟨_,elett⟩,⟨_,elong⟩⟩;have TB:uv mg:=⟨⟨_,emostS⟩,⟨_,emostB⟩⟩;have c:=clB;have nO:=naB_order;have nT:=naB_tables;have MkB:Mk K CB f0I:=⟨mkB,FI.1.at_,FI.1.fn,kcB⟩;have hX:Hx K mg CH:=⟨clH,naH_first_shades,naH_day_now,naH_standing,naH_books_from,⟨_,efday⟩,⟨_,elday⟩,⟨_,emostC⟩,⟨_,emostD⟩,nmax⟩;have MkH:Mk K CH f0HI:=⟨mkH,FHI.1.at_,FHI.1.fn,kcH⟩;have O:=OB
 have RR:zq K mg Z x0DipError:=by subst hZ;exact⟨⟨_,rfl,mBN⟩,⟨_,rfl,mKn⟩,⟨_,rfl,mNC⟩,⟨_,rfl,mNB⟩,⟨_,rfl,mNS⟩,⟨_,rfl,mBB⟩,⟨_,rfl,mmBadText⟩,⟨_,rfl,mmTooLong⟩,⟨_,rfl,mND⟩,⟨_,rfl,mLa⟩,⟨_,rfl,mNo⟩,⟨_,rfl,mFu⟩,mmDipError,nValueError⟩
 have BiBN:=BiBN XBN;have BiKn:=BiKn XKn;have BiNC:=BiNC XNC;have BiNB:=BiNB XNB;have BiNS:=BiNS XNS;have BiBB:=BiBB XBB;have BiND:=BiND XND;have BiLa:=BiLa XLa;have BiNo:=BiNo XNo;refine⟨d0L,fun s v=>by obtain⟨_,_,_,_,_,_,_,_,_,rfl,_⟩:=FL.2.ex;exact .of_eq rfl,fun base _ _=>?_⟩;have cl:=@zf l.prog w K h mg base X G;have cm:=@zm l.prog w K mg base;have TM:mg "max"=none:=nmax;have BT:=zF BiBN BiKn BiNS BiNC BiNB BiBB BiND BiLa BiNo;have GA:=cl FA (zh FA.2 T);have GD:=cl FD (vn FD.2 T);have GW:=cl FW (vF FW.2 T GD);have GPl:=cl FPl (uP FPl.2 T GD GA GW);have GTa:=cl FTa (pJ FTa.2 T);have GGd:=cl FGd (wF FGd.2 T);have GCn:=cl FCn (sH FCn.2 T GGd);have GCs:=cl FCs (pH FCs.2 T TB GCn);have GCo:=cl FCo (vy FCo.2 T);have GCb:=cl FCb (sS FCb.2 T TB GCn GCo);have GI:=wu (P:=l.prog) (w:=w) (mg:=mg) (base:=base) FI.2 T c nO nT GCs GCb;have GMC0:=cm FMC (tq FMC.2 c nT);have GMH0:=cm FMH (pR FMH.2 c nO);have GMO:=cm FMO (w6 FMO.2 c nT GMC0 GMH0);have GMC:=cm FMC (pA FMC.2 c nT XNB mNB);have GMH:=cm FMH (ot FMH.2 c nO XNS mNS);have GCnX:=cl FCn (qE FCn.2 T XBB mBB GGd);have GCsX:=cl FCs (oz FCs.2 T TB XBB mBB GCnX);have GCoX:=cl FCo (sD FCo.2 T XBB mBB);have GCbX:=cl FCb (qS FCb.2 T TB XBB mBB GCnX GCoX);have GIX:=vG (P:=l.prog) (w:=w) (mg:=mg) (base:=base) FI.2 T c nO nT GCsX GCbX;have GMS:=cm FMS (pD FMS.2 T c nO);have GMB:=cm FMB (sU FMB.2 T c nT);have GMT:=cm FMT (sW FMT.2 c nO nT GMC0);have GMX:=cm FMX (nC FMX.2 T c MkB GIX bI mCB GMC GMS GMB GMT);have GHd:=cl FHd (qU FHd.2 T MkB GIX bI mCB);have GX:=cl FX (uJ FX.2 T);have GCD:=cl FCD (wy FCD.2 T hX c XND mND);have GHC:=cm FHC (yE FHC.2 T hX c XNC mNC);have GHD:=cm FHD (yz FHD.2 T hX c XLa mLa GCD);have GHB:=cm FHB (vg FHB.2 T hX c GCD);have GHN:=cm FHN (wV FHN.2 T hX c GHB);have GHY:=cm FHY (tU FHY.2 T hX c);have GHT:=cm FHT (sN FHT.2 T hX c GHC GCD);have GHP:=cm FHP (ub FHP.2 T hX c GCD);have GHS:=cm FHS (sy FHS.2 T hX c GHT);have GHI:=uO (P:=l.prog) (w:=w) (mg:=mg) (base:=base) FHI.2 T hX c;have GHR:=cm FHR (sP FHR.2 T hX c XBN mBN XKn mKn XFu mFu GGd GHN GMH);have GHK:=cm FHK (vH FHK.2 T hX c XNo mNo GHD GHP);have GHG:=cm FHG (qj FHG.2 T hX c XLa mLa GHN GMX GHD GHP);have GHQ:=cm FHQ (wZ FHQ.2 T hX c XFu mFu GHC GHN GMC GHD GHB GHS GMO);have GRl:=cl FRl (qy FRl.2 T);have GHL:=cm FHL (pP FHL.2 T hX c);have GNw:=cl FNw (yS FNw.2 T);have GIs:=cl FIs (sZ FIs.2 T);have GAl1:=cl FAl (jX FAl.2 T nbool (cl FAl yv));have GAl:=cl FAl (jX FAl.2 T nbool GAl1);have GTe:=cl FTe (uQ FTe.2 T c GX GMS GMB GMT GMO);have GAs:=cl FAs (uw FAs.2 T hX GHR GHQ GHK GHG GHS GHT GHP GHB);have GDo:=cl FDo (yO FDo.2 T RR GAs GRl);have GAl3:=cl FAl (jX FAl.2 T nbool GAl);have GIF:=cl FIF (qJ FIF.2 T);have GTD:=cl FTD (ox FTD.2 T GIF);have GSD:=cl FSD (nU FSD.2 T GTD);have GDpD:=cl FDpD (pU FDpD.2 T);have GBrD:=cl FBrD (nS FBrD.2 T GIs GNw);have GDiD:=cl FDiD (sY FDiD.2 T GNw GSD);have GBaD:=cl FBaD (qB FBaD.2 T GNw);have GChD:=cl FChD (ma FChD.2 T GNw GDpD);have GAsD:=cl FAsD (oH FAsD.2 T GNw GSD GTD GDpD);have GDu:=cl FDu (yA FDu.2 T GBrD GDiD GBaD GChD GAsD);have GFt:=cl FFt (wQ FFt.2 T hX c O mCB BT GDu GDo GTe GIF GAl3);have GSn:=cl FSn (wD FSn.2 T hX GHL GHY GHP GHB GHT GHS GX GAl3 GDpD GTe GIF GTD GSD);have GDz:=cl FDz (xc FDz.2 T TM);have GDy:=cl FDy (yH FDy.2 T);have GDw:=cl FDw (wS FDw.2 T GDy);have GPo:=cl FPo (vC FPo.2 T GA GW);have GBg:=cl FBg (u8 FBg.2 T hX GA GHR);exact yt FL.2 T hX GA GPl GTa GHd GD GPo GBg GDw GFt GAl3 GSn GDz GHY MkH GHI bHI mCH
theorem walk {l:PySem.W.OpenLaw}{q:Program}{loose:List Str}{XP:(Str→Option Value)→Heap→Prop}{YP:World→Heap→Prop}{d:DefRec}{K:Params→PySem.W.Frag}(hn:l.most=some 63)(hdf:d.params.defaults=[])
   (hY:∀ (w:World)(h:Heap),YP w h→(K w.params).In h)
   (F:∀ (w:World)(mg:Str→Option Value)(fa:Addr)(h:Heap),(K w.params).In h→h.Ns mainGlobals mg→mg d.name=some (.ref fa) →
     ∃ fd:FuncData,(∀ (s:Shared) (u:Value),BindsTo s fd ⟨[u],[]⟩ [("_law_script",u)])∧∀ base:Heap,(K w.params).In base→base.Ns mainGlobals mg→aU l.prog w (K w.params) mg base CX0 11 fa fd ["_law_script"] (rP (K w.params))) :
   PySem.W.WalkO q loose XP YP l.row.toRowW d [] (fun f vs=>CK f vs) :=
 L2.walk_of (n:=63) (k:=11) (x:="_law_script") (CX:=fun _=>CX0) (sp:=fun w=>rP (K w.params)) hn (by decide) hdf ⟨rfl,by decide,by decide⟩ hY F (fun _ _ a ns hl _ hS=>⟨a,ns,rfl,hS,hl,fun _=>rfl⟩) fun _ _ _ _ _ z=>z
end DM
namespace PySem.W.Fast
def tw10163804249312483227:=0
def tw10181309279929502869:=0
def tw10214298211574557515:=0
def tw10231793794957358258:=0
def tw10235433000852470741:=0
def tw10259758692448040661:=0
def tw10291286174183494997:=0
def tw10292162256035798133:=0
def tw10299893812852739176:=0
def tw10334264607651726941:=0
def tw10382857523739029850:=0
def tw10407709532402113713:=0
def tw1041823110055448290:=0
def tw10420251656443629394:=0
def tw10519922687700315223:=0
def tw10629486603804457990:=0
def tw10691743630356818156:=0
def tw10772747629373128128:=0
def tw10807987685264398276:=0
def tw10851746682298316848:=0
def tw10856585961056890272:=0
def tw10888482145064177783:=0
def tw10907431677874505860:=0
def tw10925234853358988504:=0
def tw10998437515455555905:=0
def tw11061152189362799625:=0
def tw11063489000324462462:=0
def tw11078103505503133925:=0
def tw11104197118770058473:=0
def tw11106602683058002707:=0
def tw11119179367926223785:=0
def tw11178877518501263935:=0
def tw11224761106389527576:=0
def tw11240913177159637414:=0
def tw11247649986007467994:=0
def tw11275387436613416388:=0
def tw1130716304415066582:=0
def tw11329469236700351345:=0
def tw11331916657508120969:=0
def tw11332329600440777913:=0
def tw11355102776786340361:=0
def tw11405736008552914189:=0
def tw11430372028158047161:=0
def tw11439887588537629646:=0
def tw11473758856485375418:=0
def tw11478369937475775348:=0
def tw11615258627088216662:=0
def tw11750353103297413014:=0
def tw11770149696320334564:=0
def tw11802924660478749672:=0
def tw11825933819668565897:=0
def tw11845153772130242933:=0
def tw11849860391838129700:=0
def tw11869834025644006405:=0
def tw11876703700269452931:=0
def tw11886735867804924142:=0
def tw11900390770770711250:=0
def tw11922134590096060649:=0
def tw11945584242782016144:=0
def tw11954996033046631218:=0
def tw12018185621327609640:=0
def tw1203458649911111439:=0
def tw12051677382195305165:=0
def tw1206714995134283664:=0
def tw12097933334905360524:=0
def tw12125334011880763057:=0
def tw12131122551356408242:=0
def tw12170475572727096542:=0
def tw12197545233554036823:=0
def tw12223794577716863621:=0
def tw12248051308702859935:=0
def tw12249688479755664752:=0
def tw12328455379909116481:=0
def tw12383091925038636349:=0
def tw12464875816484325938:=0
def tw124675569878203594:=0
def tw12491058658863311386:=0
def tw12524590155997805495:=0
def tw1254998108996316354:=0
def tw12557534720513319373:=0
def tw12582460702304564777:=0
def tw12616971850737508335:=0
def tw12626844350432436628:=0
def tw12644976622951551662:=0
def tw12668340833185153012:=0
def tw12696418154755494519:=0
def tw12699822611102036300:=0
def tw12707655808912924486:=0
def tw12719338249118590459:=0
def tw12722422267169252223:=0
def tw12780899227854221608:=0
def tw12785239736812893786:=0
def tw12807122352515867565:=0
def tw12829107491555429881:=0
def tw12832518800972297555:=0
def tw12952525331640790480:=0
def tw12960548582597934570:=0
def tw1296598719408206113:=0
def tw12984714259650281878:=0
def tw13015874377156210441:=0
def tw13025130118205320947:=0
def tw13039473612094491726:=0
def tw13044347301426481055:=0
def tw1306087120877739813:=0
def tw13093200457291749214:=0
def tw1315298061288575930:=0
def tw13192766379064970784:=0
def tw13214058568209109737:=0
def tw13240566806455705302:=0
def tw13309990341219352350:=0
def tw13363016927382945204:=0
def tw1347998573886462212:=0
def tw13488521957741376690:=0
def tw13491795252998090675:=0
def tw13517114770165984823:=0
def tw1354485031422664145:=0
def tw13553373281256399147:=0
def tw13590009046262848372:=0
def tw13618831925011774880:=0
def tw13621832120988886219:=0
def tw13622564191706666859:=0
def tw13628238135677348045:=0
def tw13635066328686639498:=0
def tw13660368027133702902:=0
def tw13662563982637385411:=0
def tw13662719251716158470:=0
def tw13711336458197830998:=0
def tw13747498067134413210:=0
def tw13778233720795012334:=0
def tw13790414475097915027:=0
def tw1386580460701433160:=0
def tw13894406207091013996:=0
def tw13941406865543746989:=0
def tw13961506663702931432:=0
def tw13978815354849891961:=0
def tw13999366356192417169:=0
def tw14018330364762372983:=0
def tw14018860160230840281:=0
def tw14049779457086784902:=0
def tw14054614054373972479:=0
def tw14100867802806031366:=0
def tw14106258679443526542:=0
def tw14116186029199719921:=0
def tw14118508977391295479:=0
def tw14214191346188652543:=0
def tw14276474794192568059:=0
def tw14315962345662314035:=0
def tw14316872222446532294:=0
def tw14324318848854524741:=0
def tw14372308927413035184:=0
def tw14389833582828983309:=0
def tw14405175423427576641:=0
def tw14426096272796398098:=0
def tw14428448695606797884:=0
def tw14434593400957374936:=0
def tw14531326136113345085:=0
def tw14584369505119920019:=0
def tw14584664547846547573:=0
def tw14613194268104414036:=0
def tw14621600339476655017:=0
def tw14654359899289339358:=0
def tw14678274935089916953:=0
def tw14686404493582459462:=0
def tw14709953266637480012:=0
def tw14742084957395677863:=0
def tw14745062161622722874:=0
def tw14761489914855000583:=0
def tw14761823582058138896:=0
def tw14869697283192408324:=0
def tw1487841270139275606:=0
def tw14907386303374459514:=0
def tw1492820607518952291:=0
def tw14937092841004611240:=0
def tw14944289143595640902:=0
def tw14949525066720530746:=0
def tw14961085034663282153:=0
def tw1499709811797824405:=0
def tw15037506743844821730:=0
def tw15044029693926024109:=0
def tw15080625133060056564:=0
def tw15107692804396210013:=0
def tw15117866087557719692:=0
def tw15143293142130953715:=0
def tw15209488846375874741:=0
def tw1524164877841671282:=0
def tw15271791765116965858:=0
def tw15275092707116088908:=0
def tw15295234960776916718:=0
def tw15342878616421382035:=0
def tw15353060414838552583:=0
def tw15356944473036501099:=0
def tw15362717928674721532:=0
def tw15421921119382575923:=0
def tw15444220194188265644:=0
def tw15455086870218402632:=0
def tw15468965629172398740:=0
def tw15471112773373573875:=0
def tw15484861052044116673:=0
def tw15488107693930266623:=0
def tw15508993091721624770:=0
def tw1553324391304253374:=0
def tw15542888840233808316:=0
def tw15566745101928685431:=0
def tw15611067149353655295:=0
def tw15650116101271316054:=0
def tw15657334260468039544:=0
def tw15750696033021239839:=0
def tw15781582922633776781:=0
def tw15806960790812044982:=0
def tw1583791549540262428:=0
def tw15839412463433164413:=0
def tw15869098927941645865:=0
def tw15912699067532702319:=0
def tw15931143569918881137:=0
def tw15967317327460723381:=0
def tw15994914608218895297:=0
def tw16010850654924150176:=0
def tw16022622932233544939:=0
def tw16045715294758462296:=0
def tw16066002447905844870:=0
def tw16078873949883824387:=0
def tw16086632580111397165:=0
def tw16094975658536114811:=0
def tw16097271976993042460:=0
def tw16111968211318727626:=0
def tw16120896498605432463:=0
def tw16164732514180422918:=0
def tw16186799629435006010:=0
def tw16192724147053113256:=0
def tw16318308416707344690:=0
def tw16326852509289091074:=0
def tw16346095397279840192:=0
def tw16353233930004285910:=0
def tw16366651855945768889:=0
def tw16374806466995788719:=0
def tw16397661372838467525:=0
def tw16406711183087126107:=0
def tw16476930572916182190:=0
def tw16503922187134491111:=0
def tw16515922041675534916:=0
def tw16567737986374638594:=0
def tw16589229535442852361:=0
def tw1663073864810303020:=0
def tw16645877684150934005:=0
def tw16649444944500506613:=0
def tw1666801397263182251:=0
def tw16679398908687380533:=0
def tw16721873228622853945:=0
def tw16767703220330320194:=0
def tw16773909756298414020:=0
def tw16783125241199635929:=0
def tw16788494989378960445:=0
def tw16805802614617893038:=0
def tw16900966144185668636:=0
def tw16939078145243951683:=0
def tw16950808795400049982:=0
def tw16976116213710511650:=0
def tw16979747867272254503:=0
def tw16982443371752467436:=0
def tw17015562414864148616:=0
def tw17071957607899604712:=0
def tw17079243006628508720:=0
def tw17084343460356750317:=0
def tw1709708161032533827:=0
def tw17116130034494004799:=0
def tw17121984042395120783:=0
def tw17163853157879541356:=0
def tw17165497913301696154:=0
def tw17196060858813387345:=0
def tw17240905327275223481:=0
def tw17281488477096350340:=0
def tw17295196478260841836:=0
def tw17298588513531039884:=0
def tw17324151464078000525:=0
def tw17330924752831226770:=0
def tw17345365289371073275:=0
def tw17358005776471318984:=0
def tw1736939810680051835:=0
def tw1748347598066852088:=0
def tw17525661066982854157:=0
def tw17527526154253679816:=0
def tw1757743947849499599:=0
def tw1759814576678280569:=0
def tw17603355142060538384:=0
def tw17623717043995706509:=0
def tw17636152677237975802:=0
def tw17673299169910290036:=0
def tw17674646415661982046:=0
def tw17691101485965092905:=0
def tw17707629544535717722:=0
def tw17708881862525614802:=0
def tw17716554290968574744:=0
def tw1773919379095025251:=0
def tw17747454170125988312:=0
def tw17748184007853702684:=0
def tw17763366042597200467:=0
def tw17772255060980072960:=0
def tw17801430333998217299:=0
def tw17902770609402073808:=0
def tw17926158081004932316:=0
def tw1795465822347912099:=0
def tw17958169073643275982:=0
def tw17958529263803699108:=0
def tw17967695720513093749:=0
def tw18000167376135178163:=0
def tw18033895778514599737:=0
def tw18039263063750246135:=0
def tw18065941021139451619:=0
def tw18072550169311600791:=0
def tw18084297596409234775:=0
def tw18112154597620795378:=0
def tw18127214037511561437:=0
def tw18152713482545990661:=0
def tw18188678945888931539:=0
def tw18190026726646154538:=0
def tw18196433646774356213:=0
def tw18201285779447060383:=0
def tw1822591522120161642:=0
def tw1823454410127927332:=0
def tw18368106188666855759:=0
def tw18373720648766975117:=0
def tw18387621258615145483:=0
def tw18424699588134996828:=0
def tw1889859393923278520:=0
def tw1962830600913609839:=0
def tw1991333559235317387:=0
def tw2025740066362930542:=0
def tw2065928407444982766:=0
def tw2079520430777913844:=0
def tw2090547985006675717:=0
def tw2123936415392240018:=0
def tw2141124087575833499:=0
def tw2165967440429681865:=0
def tw2184524171814969040:=0
def tw2200359585433209650:=0
def tw220752292373644577:=0
def tw2253008295234114014:=0
def tw2325427614130604900:=0
def tw2337641972801882826:=0
def tw2339326075648107173:=0
def tw2392665137557753405:=0
def tw242276519012541539:=0
def tw2444405316515604288:=0
def tw2453883549663600876:=0
def tw2584819237990550769:=0
def tw2616675589470904389:=0
def tw2624323215304253734:=0
def tw2723912891263927619:=0
def tw2724177625446077289:=0
def tw2742692333083887471:=0
def tw2770943165904406514:=0
def tw2784145468471383803:=0
def tw2792595762792636157:=0
def tw2808685742766300810:=0
def tw2868034040545604963:=0
def tw2913002591510891509:=0
def tw2947649623699082740:=0
def tw2953623276706023067:=0
def tw2979498255157862282:=0
def tw297969185084566211:=0
def tw3027821527960076738:=0
def tw3108702317898972495:=0
def tw3124884898551437081:=0
def tw3143744092009975769:=0
def tw3153086927802748004:=0
def tw3188201899897702772:=0
def tw3195161099231501290:=0
def tw3232382486176925043:=0
def tw3277727699678146632:=0
def tw3302557382734222413:=0
def tw3307950469078159082:=0
def tw3337904971432760535:=0
def tw3402910010686800527:=0
def tw3424845836025587821:=0
def tw3431504535721544891:=0
def tw3447552484584934577:=0
def tw346058320454949919:=0
def tw3507818758968122619:=0
def tw3521430554581268939:=0
def tw3535941675260510642:=0
def tw355090553008381584:=0
def tw3569402874790748834:=0
def tw375635017033965572:=0
def tw3759639059895248127:=0
def tw3804102562158068154:=0
def tw3876344414289288387:=0
def tw3913418129203979132:=0
def tw3916191308625954121:=0
def tw3932376841191077556:=0
def tw3937334652357177986:=0
def tw3955466660266476069:=0
def tw4005070328586832776:=0
def tw4059213382007546553:=0
def tw4120376926348047703:=0
def tw41674651569241781:=0
def tw4218936525846946119:=0
def tw4290952706911622490:=0
def tw429875458056543012:=0
def tw4320919993352857378:=0
def tw4411933468476140637:=0
def tw448124103988527175:=0
def tw4482940831076338787:=0
def tw4501817134269305647:=0
def tw4505673227823511124:=0
def tw4517950242191136250:=0
def tw4544736074447957217:=0
def tw4594658042870040928:=0
def tw4679681989886063531:=0
def tw4690391625187300149:=0
def tw4746118633794975999:=0
def tw47714188594244078:=0
def tw4792128661913438516:=0
def tw4850454771466416724:=0
def tw4860844047671820301:=0
def tw4864674681089428351:=0
def tw4878896710453091171:=0
def tw4896237772505198311:=0
def tw490445875676559657:=0
def tw4948155337664595087:=0
def tw494863362802165214:=0
def tw4967234152912946308:=0
def tw4984515490095612175:=0
def tw4986224987305079025:=0
def tw4991398743380603343:=0
def tw5023220172256121300:=0
def tw5045512021756616664:=0
def tw5054564663033821026:=0
def tw5073371113896472106:=0
def tw5080134979101518298:=0
def tw5090430075407420751:=0
def tw5093856082698520240:=0
def tw5096857479978443231:=0
def tw5111251164094284860:=0
def tw5112046782342316802:=0
def tw5127639213362990138:=0
def tw5135088912154975045:=0
def tw5150880230632552426:=0
def tw5185003390576773984:=0
def tw5203621008573534174:=0
def tw5217463023328920821:=0
def tw5218045180299208304:=0
def tw5266767646868792899:=0
def tw5278100553593518938:=0
def tw528467258999635698:=0
def tw5286524710797225524:=0
def tw5287602882282981058:=0
def tw5308999562156495386:=0
def tw5319486286530949996:=0
def tw5332714118850411572:=0
def tw5345036745318662190:=0
def tw5357359817673954449:=0
def tw5370707134468598399:=0
def tw5379559071321300366:=0
def tw5422841707249333080:=0
def tw5446623714774433302:=0
def tw5465583993086725867:=0
def tw5484250433640616655:=0
def tw5503326416449846514:=0
def tw5629299018547559130:=0
def tw5666268799477159187:=0
def tw5685598667828331755:=0
def tw5719114261499046727:=0
def tw5758371243508947353:=0
def tw576893829386937052:=0
def tw5790471054932632008:=0
def tw5805826833184357070:=0
def tw5837719364336111551:=0
def tw5851207798479975348:=0
def tw5893496385584329124:=0
def tw5926220539639702661:=0
def tw5943465393138963440:=0
def tw6020424760261134397:=0
def tw6048964044649624059:=0
def tw6053091520247736993:=0
def tw6064724570211826581:=0
def tw6075454496067850790:=0
def tw6081834614696719153:=0
def tw6109815552435213234:=0
def tw6161277172013667548:=0
def tw6174917119492205079:=0
def tw6235123344270512105:=0
def tw623786313715153671:=0
def tw6258983145922983579:=0
def tw6274023498729141053:=0
def tw6281269707742588243:=0
def tw6284058820176928685:=0
def tw6308314036396961867:=0
def tw6323535042696154224:=0
def tw6323633534154239553:=0
def tw6342631564522828905:=0
def tw6342935228026272098:=0
def tw6347032357770831807:=0
def tw635948555560013756:=0
def tw6370068166582082049:=0
def tw6399318615208718790:=0
def tw6443323575781261701:=0
def tw644542906509309533:=0
def tw6487059022855687556:=0
def tw650565669602507791:=0
def tw6556637447805223599:=0
def tw6567625477856894253:=0
def tw6569164831405626432:=0
def tw6616018860445186173:=0
def tw6636384901350862319:=0
def tw6652220882254401636:=0
def tw6719814408240384732:=0
def tw6735689804546679023:=0
def tw6741875725750876203:=0
def tw6816390934131882662:=0
def tw6832380342644673725:=0
def tw6855965305368525807:=0
def tw6876057778213973496:=0
def tw6911248193071218671:=0
def tw6917115207994486755:=0
def tw6968044117551712858:=0
def tw6978303580166073776:=0
def tw7053173875586926600:=0
def tw7088735619637261306:=0
def tw7110629719874283734:=0
def tw7220694594228235304:=0
def tw7268512311671312180:=0
def tw7289666754252972809:=0
def tw7299998286474196641:=0
def tw7324902751621448296:=0
def tw7333889071604676416:=0
def tw7363331602541092378:=0
def tw7373079715699556891:=0
def tw7393205416202776907:=0
def tw7461136802325735674:=0
def tw7506098587552077411:=0
def tw7518451951522617812:=0
def tw75196200131614044:=0
def tw7585238867426819546:=0
def tw7614485907992867752:=0
def tw7637210445561976189:=0
def tw7677266532279807066:=0
def tw7679553942471899747:=0
def tw772253372023391988:=0
def tw7789447804403675866:=0
def tw782597723222492890:=0
def tw7843538525258504099:=0
def tw785474635082225000:=0
def tw7868768677313630855:=0
def tw7912264997433312112:=0
def tw7914698897031308910:=0
def tw7920158811074139387:=0
def tw7967143124819953468:=0
def tw7985791163832621916:=0
def tw7997954837816674476:=0
def tw8057843068360650490:=0
def tw8081619276759710296:=0
def tw8086601883688305920:=0
def tw8088679149695921352:=0
def tw8100860278325708199:=0
def tw810278562237979042:=0
def tw8121939379299686664:=0
def tw8128011191695361520:=0
def tw814753289493791180:=0
def tw8223128306788419408:=0
def tw825198892950674513:=0
def tw8262891394999627988:=0
def tw8283905163703216094:=0
def tw8340189774457496303:=0
def tw8375041396354530126:=0
def tw8378148031397866094:=0
def tw8413894483507224977:=0
def tw8445948423804980903:=0
def tw8478136731185051572:=0
def tw8520626923018847327:=0
def tw8539884484114550013:=0
def tw8542918528571189323:=0
def tw8569925715877484897:=0
def tw8594459779211009359:=0
def tw8631438101112142546:=0
def tw8634604606161495224:=0
def tw8641462736015797817:=0
def tw8652637069987213943:=0
def tw8723517297019906810:=0
def tw8730855037723906835:=0
def tw8782358289914360839:=0
def tw8792079192913465070:=0
def tw8797247274126772313:=0
def tw8814186222037569969:=0
def tw8840819732075721051:=0
def tw8866327577187074105:=0
def tw8868359254937394241:=0
def tw8874111334200356076:=0
def tw8958811448770882649:=0
def tw8961571526132712720:=0
def tw8962855158610583846:=0
def tw9002361116541898116:=0
def tw9004803651179491829:=0
def tw901753150054909386:=0
def tw9021042011763973669:=0
def tw902338112927736476:=0
def tw9026291803084028173:=0
def tw9079837972277520607:=0
def tw9111520783472021615:=0
def tw9111623721820577839:=0
def tw9115459680018165942:=0
def tw9126568340272813074:=0
def tw913668906732180607:=0
def tw9136961173600735855:=0
def tw9177054647118002798:=0
def tw9231656029380090360:=0
def tw9235471219821504562:=0
def tw9295203997867969439:=0
def tw9295335708286728763:=0
def tw930055959839795082:=0
def tw9317530423968966111:=0
def tw9319235422980770039:=0
def tw9328185048673024607:=0
def tw9346513534265417279:=0
def tw9357082681309321173:=0
def tw9370691321610877347:=0
def tw9372077856955365896:=0
def tw9425013805254759327:=0
def tw9426706621553505543:=0
def tw944823099812976284:=0
def tw9462818062160245165:=0
def tw9495669604741088857:=0
def tw9507653759395681293:=0
def tw9567224668540017223:=0
def tw9638585681508401490:=0
def tw9647698694358532918:=0
def tw9664501203035070499:=0
def tw9688632022247368691:=0
def tw9715308639234975373:=0
def tw9715690516869892361:=0
def tw9718093336965956237:=0
def tw9728903968839449762:=0
def tw9748179928681481188:=0
def tw9755017802937523946:=0
def tw9767542496442487672:=0
def tw9808199748206658826:=0
def tw9818675145331249056:=0
def tw9837493976655614190:=0
def tw983800818691026547:=0
def tw9839425119955005778:=0
def tw9852075548291489737:=0
def tw9882316515713492201:=0
def tw9929027013531175308:=0
def tw9954771004638614855:=0
def tw9956373605746898604:=0
def tw9996976370459556553:=0
end PySem.W.Fast
open PySem PySem.W PyProof.Rows
local macro_rules | `(tactic| walk_at "ki")=>`(tactic| first | k_is | skip)
local macro_rules | `(tactic| walk_at "kf")=>`(tactic| (refine' L2.fun_mk ?_ ?_ ?_<;>walk_at "ki"))
local macro_rules | `(tactic| walk_at "kk")=>`(tactic| first
 | k_is
 | walk_at "kf"
 | (refine' L2.ExcC.mk ?_ ?_ ?_ (DM.isSm ?_) ?_ ?_ ?_ ?_ ?_;k_exc;all_goals walk_at "ki")
 | (refine' L2.Cls.mk ?_ ?_ ?_ ?_<;>k_is)
 | (refine' DM.Own.mk ?_ ?_ ?_ ?_<;>k_is)
 | (with_reducible exact rfl)
 | (unfold L2.NoAttr;k_is)
 | skip)
set_option maxRecDepth 100000 in
set_option maxHeartbeats 0 in
theorem PySem.Challenge.cw_dipmaps_k38_whole_days_holds : PySem.Challenge.rw_dipmaps_k38_whole_days.Holds := by
 w_on;o_law;k_head;(case hw=>w_witness2)
 k_fill
 refine DM.walk (l:=PySem.Challenge.rw_dipmaps_k38_whole_days) rfl rfl (fun w h Y=>PySem.W.kIn_of Y) ?F
 case F =>
   intro w mg fa h KX G hmg;refine' DM.all_mk KX G hmg ..
   all_goals (try (refine' And.intro ?_ ?_))
   all_goals (try unfold DM.Gn)
   all_goals (try (refine' L2.Meth.mk ?_ ?_ ?_))
   all_goals (try walk_at "kk")
   all_goals (intro X;refine' DM.Bits.mk X rfl ?_ (DM.bits12 ?_ ?_ ?_ ?_ ?_ ?_ ?_ ?_ ?_ ?_ ?_ ?_) ?_)
   all_goals (first | kit_is | kts_exm)
