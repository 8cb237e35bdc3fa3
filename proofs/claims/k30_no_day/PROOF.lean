import PyProof.Rows.All
import Wide.All
import OpenK.AllK
import Wide.FinOn
import Lean
import PyProof.EqAt
import PyProof.EqKinds
import PyProof.TupleCall
import PySem.Challenge.RW_dipmaps_k30_no_day
set_option Elab.async false
set_option linter.all false
set_option compiler.extract_closed false
set_option maxRecDepth 100000
open List renaming length_map→be,getElem?_eq_getElem→zW,getElem?_map→zX,length_append→zY,getD_eq_getElem?_getD→zZ,mem_of_getElem?→z6,map_append→z8,getElem?_append_right→z9,length_singleton→Aa,range→Ab,replicate→Ae,getElem?_append_left→Af,mem_cons_self→Ag,size_toArray→Ah,mem_cons_of_mem→Ai,map_cons→An,length_take→Ao,dropLast_concat_getLast→Ap,mem_append_right→Aq,lookup→Au,lookup_cons→Ax,mem_map_of_mem→AA,map_map→AH,length_cons→AK,not_mem_nil→AM,take_of_length_le→AQ,take_length→AR,mem_cons→AV,getElem?_of_mem→AX,getLast?_eq_some_getLast→AY,length_dropLast→AZ,append_nil→A2,length_drop→A3,getElem_mem→A4,filter_append→A7,mem_append_left→A8,filter_cons_of_pos→A9,length_range→Ba,replicate_succ→Bc,length_filter_le→Bf,zip_cons_cons→Bg,find?_cons→Bn,getElem?_eq_none→Br,dropLast_sublist→Bs,range_succ→Bt,filter_nil→Bu,append_assoc→Bv,map_nil→Bw,mem_of_mem_take→Bx,any_cons→Bz,pairwise_singleton→BB,getLast_eq_getElem→BC,map_singleton→BE,length_zip→BF,take_sublist→BG,flatten_cons→BH,take_succ→BI,pairwise_append→BJ,perm_ext_iff_of_nodup→BL,filterMap_cons→BN,length_erase_of_mem→BO,eq_of_mem_replicate→BP,foldl_cons→BQ,nodup_cons→BS,filter_cons_of_neg→BV,getElem?_set_self→BW,length_pos_of_mem→BZ,filter_eq_nil_iff→B3,dropLast_eq_take→B6,getElem?_set_ne→B8,mem_erase_of_ne→B9,length_nil→Cb,forIn_cons→Cd,getElem?_range→Cg,getElem?_drop→Cn,getElem?_take→Co,length→Cr,foldl_append→Ct,ext_getElem?→Cu,all_cons→Cv,of_mem_zip→CF,length_set→CG,nodup_nil→CL,map_take→CO,map_drop→CP,all_map→CT,foldl→CW
open PySem.Str renaming ofString→zV,empty→BU
open Nat renaming le_refl→z7,ne_of_lt→Ak,lt_of_lt_of_le→Am,sub_self→AL,zero_le→AN,le_trans→AO,lt_succ_of_lt→Bh,lt_irrefl→Bp,lt_succ_self→BA,ne_of_gt→BX,lt_of_succ_lt→B1,lt_of_le_of_lt→Ck,le_of_not_lt→Cy,le_add_right→Cz,le_of_lt→CA,le_succ→CJ,le_of_eq→CS,min_self→CU,succ_pos→CV
open PySem renaming boot_len→Ac,mem_of_lookup→Bb,call→CY
open PySem.F renaming excBase_ValueError→Aj,plainAttrs_list→Aw,slot_list_append→AE,type_list_append→AF
open Array renaming getElem?_eq_getElem→Al,length_toList→AI,getD_eq_getD_getElem?→AJ,getElem?_toList→Be
open PySem.W renaming mg_of→Av,nsIn→Ay,mg_none_of→Az,kitOne→AB,kia_one→A1,emptyDict→A5,findIn→A6,instObj→Bm,keepIn→Bq,fnOf→BD,methodCall_KW→B5,plainGet→B7,makesIn→Ca,hideAll_get→Ce,plainGet_of→Cf,lookIn→Ci,callWith_K→Cj,methodObj→Cp,hasDictIn→Cq,takerIn→CD,codeIn→CK,excIn→CN,isFn→CQ
open PyProof.Rows renaming sortedS→AC,callWith_type1→Bo,envOfC→CM
open Int renaming toNat_natCast→AG,emod_lt_of_pos→AU,emod_nonneg→AW,eq_ofNat_of_zero_le→Bj,toNat→Bl,le_refl→BK,toNat_of_nonneg→Ch,le_trans→CC
open Option renaming getD_some→BM,map_some→BR,isSome_map→Cs,getD_none→Cw
local macro_rules | `(tactic| decide) => `(tactic| decide +kernel)
set_option hygiene false in
local macro_rules | `(tactic| omega) => `(tactic| first | exact Nat.le_trans (by decide) hs | decide | omega +splitDisjunctions)
namespace L2
open PySem PySem.Spec PyProof.Rows
abbrev Key:=Sum Int Str
def i8:Key→Value→Bool
 | .inl k,v=>Value.isInt k v
 | .inr x,v=>Value.isStrOf x v
def zR (w:World):Key→Int
 | .inl k=>hashInt k
 | .inr x=>hashStr w x
theorem bF:∀ {k:Key}{v:Value},i8 k v=true→(∃ i t,k=Sum.inl i∧v=Value.int i t)∨(∃ x t,k=Sum.inr x∧v=Value.str x t)
 | .inl i,v,h=>by
   obtain⟨t,e⟩:=Value.isInt_shape (k:=i) (v:=v) h;exact .inl ⟨i,t,rfl,e⟩
 | .inr x,v,h=>by
   obtain⟨t,e⟩:=Value.isStrOf_shape (x:=x) (v:=v) h;exact .inr ⟨x,t,rfl,e⟩
theorem tK (i:Int)(t:Tok):i8 (.inl i) (.int i t)=true:=by simp[i8,Value.isInt]
theorem tY (x:Str)(t:Tok):i8 (.inr x) (.str x t)=true:=by simp[i8,Value.isStrOf]
theorem yJ (a b:Int):decide ((Sum.inl a:Key)=Sum.inl b)=(a==b):=by
 by_cases e:a=b
 . subst e;simp
 . have h:¬(Sum.inl a:Key)=Sum.inl b:=fun q=>e (Sum.inl.inj q);rw[decide_eq_false h];exact(beq_eq_false_iff_ne.mpr e).symm
theorem xO (a b:Str):decide ((Sum.inr a:Key)=Sum.inr b)=decide (a=b):=by
 by_cases e:a=b
 . subst e;simp
 . have h:¬(Sum.inr a:Key)=Sum.inr b:=fun q=>e (Sum.inr.inj q);rw[decide_eq_false h,decide_eq_false e]
theorem xS (a:Int) (b:Str):decide ((Sum.inl a:Key)=Sum.inr b)=false:=decide_eq_false (fun q=>nomatch q)
theorem xR (a:Str) (b:Int):decide ((Sum.inr a:Key)=Sum.inl b)=false:=decide_eq_false (fun q=>nomatch q)
def bJ (prog:Program)(w:World):PySem.KeyKind prog w Key where
 is:=i8
 hash:=zR w
 inj:=fun v a b ha hb=>by
   rcases bF ha with ⟨i,t,rfl,rfl⟩ | ⟨x,t,rfl,rfl⟩
   . rcases bF hb with ⟨j,u,rfl,e⟩ | ⟨y,u,rfl,e⟩
     . injection e with e1 _;rw[e1]
     . exact nomatch e
   . rcases bF hb with ⟨j,u,rfl,e⟩ | ⟨y,u,rfl,e⟩
     . exact nomatch e
     . injection e with e1 _;rw[e1]
 byValue:=fun k v h=>by
   rcases bF h with ⟨i,t,rfl,rfl⟩ | ⟨x,t,rfl,rfl⟩<;>rfl
 pyHash:=fun hv h=>by
   rcases bF hv with ⟨i,t,rfl,rfl⟩ | ⟨x,t,rfl,rfl⟩
   . exact wpAny_pyHash_int h
   . exact wpAny_pyHash_str h
 eqBool:=fun hu hv h=>by
   rcases bF hu with ⟨i,t,rfl,rfl⟩ | ⟨x,t,rfl,rfl⟩
   . rcases bF hv with ⟨j,u,rfl,rfl⟩ | ⟨y,u,rfl,rfl⟩
     . rw[yJ] at h;exact wpAny_eqBool_int h
     . rw[xS] at h;exact SeqAt.EqAt.int_str i t y u _ _ _ _ h
   . rcases bF hv with ⟨j,u,rfl,rfl⟩ | ⟨y,u,rfl,rfl⟩
     . rw[xR] at h;exact SeqAt.EqAt.str_int x t j u _ _ _ _ h
     . rw[xO] at h;exact wpAny_eqBool_str h
 «strs»:=fun k x t v h=>by
   rcases bF h with ⟨i,u,rfl,e⟩ | ⟨y,u,rfl,e⟩
   . exact nomatch e
   . injection e with e1 _
     subst e1;cases v<;>rfl
theorem oK (prog:Program)(w:World) (i:Int)(t:Tok):(bJ prog w).is (.inl i) (.int i t)=true:=tK i t
theorem i9 (prog:Program)(w:World) (x:Str)(t:Tok):(bJ prog w).is (.inr x) (.str x t)=true:=tY x t
inductive V where
 | non | bl (b:Bool) | int (i:Int) | str (x:Str) | byt (b:Array UInt8) | flt (b:UInt64) | ref (a:Addr) | ty (n:String)
 deriving DecidableEq
def bd:V→Value→Prop
 | .non,u=>u=Value.none
 | .bl b,u=>u=Value.bool b
 | .int i,u=>∃ t,u=Value.int i t
 | .str x,u=>∃ t,u=Value.str x t
 | .byt b,u=>∃ t,u=Value.bytes b t
 | .flt b,u=>∃ t,u=Value.float b t
 | .ref a,u=>u=Value.ref a
 | .ty n,u=>u=Value.type n
abbrev Vals:List V→List Value→Prop:=Paired bd
theorem Vals.length {xs:List V}{us:List Value}(r:Vals xs us):xs.length=us.length:=Paired.length r
theorem Vals.get:∀ {xs:List V}{us:List Value}{i:Nat}{x:V},Vals xs us→xs[i]?=some x→∃ u,us[i]?=some u∧bd x u
 | _,_,_,_,.nil,e=>by simp at e
 | _,_,0,_,.cons r _,e=>by simp at e;subst e;exact⟨_,rfl,r⟩
 | _,_,i+1,x,.cons _ t,e=>by
   obtain⟨u,h1,h2⟩:=Vals.get (i:=i) (x:=x) t (by simpa using e);exact⟨u,by simpa using h1,h2⟩
theorem Vals.set {x:V}{u:Value}(r:bd x u):∀ {xs:List V}{us:List Value} (i:Nat),Vals xs us→Vals (xs.set i x) (us.set i u)
 | _,_,_,.nil=>.nil
 | _,_,0,.cons _ t=>.cons r t
 | _,_,i+1,.cons q t=>.cons q (Vals.set r i t)
theorem Vals.append:∀ {xs ys:List V}{us ws:List Value},Vals xs us→Vals ys ws→Vals (xs++ys) (us++ws)
 | _,_,_,_,.nil,s=>s
 | _,_,_,_,.cons r t,s=>.cons r (Vals.append t s)
theorem Vals.take:∀ {xs:List V}{us:List Value} (n:Nat),Vals xs us→Vals (xs.take n) (us.take n)
 | _,_,0,_=>.nil
 | _,_,_+1,.nil=>.nil
 | _,_,n+1,.cons r t=>.cons r (Vals.take n t)
theorem Vals.drop:∀ {xs:List V}{us:List Value} (n:Nat),Vals xs us→Vals (xs.drop n) (us.drop n)
 | _,_,0,r=>r
 | _,_,_+1,.nil=>.nil
 | _,_,n+1,.cons _ t=>Vals.drop n t
def gm:Option V→Option Value→Prop
 | some v,some u=>bd v u
 | none,none=>True
 | _,_=>False
def KV {κ:Type}:List (κ×V)→List (κ×Value)→Prop:=Paired fun(p:κ×V)(q:κ×Value)=>p.1=q.1∧bd p.2 q.2
def kV:Key→V
 | .inl i=>.int i
 | .inr x=>.str x
inductive HO where
 | lst (xs:List V)
 | tup (xs:List V)
 | dK (kvs:List (Key×V)) | dT (kvs:List (List Key×V))
 | set (S:Int→Bool) (n:Nat)
 | ins (C dx:Addr)(fs:List (Str×V))
 | own (x:Addr)
 | xd (fs:List (Str×V))
 | met (f x:Addr)
 | rng (lo hi:Int)
 | frz (o:Obj)(u:HO)
 | tbl (ps:Array Value)
 | ext (φ:Heap→Prop)
abbrev Hp:=Addr→Option HO
def upd (H:Hp)(a:Addr)(o:HO):Hp:=fun b=>if b=a then some o else H b
theorem ac {H:Hp}{a:Addr}{o:HO}:upd H a o a=some o:=by unfold upd;rw[if_pos rfl]
theorem ai {H:Hp}{a b:Addr}{o:HO}(h:b≠a):upd H a o b=H b:=by unfold upd;rw[if_neg h]
theorem ic {H:Hp}{a:Addr}{o u:HO}:upd (upd H a o) a u=upd H a u:=by
 funext b;unfold upd;split<;>rfl
theorem ze {H:Hp}{a b:Addr}{o u:HO}(h:H a=some o)(h':H b=some u)(d:o≠u):a≠b:=by
 intro e;subst e;rw[h] at h';exact d (Option.some.inj h')
theorem aG {H:Hp}{a b:Addr}{o:HO}(h:H a=some o)(h':H b=none):a≠b:=by
 intro e;subst e;rw[h] at h';cases h'
section
variable (P:Program)(w:World)
def bR (H:Hp)(h:Heap)(a:Addr):HO→Prop
 | .lst xs=>xs.length≤sizeLine∧∃ (its:List Value) (n:Nat),Vals xs its∧h.get? a=some { cls:=.type "list",data:=.seq its.toArray n }
 | .tup xs=>xs.length≤sizeLine∧∃ its:List Value,Vals xs its∧IsTup h a its.toArray
 | .dK kvs=>kvs.length≤sizeLine∧(a==sysModules)=false∧∃ vs,KV kvs vs∧h.DictOf (bJ P w) a vs
 | .dT kvs=>kvs.length≤sizeLine∧(a==sysModules)=false∧∃ xs:List (List Key×Addr×Value),
     Paired (fun(p:List Key×V)(q:List Key×Addr×Value)=>p.1=q.1∧H q.2.1=some (.tup (p.1.map kV))∧bd p.2 q.2.2) kvs xs ∧
     ∃ o es ep,h.get? a=some o∧o.ExactDict∧o.data=.dict es ep∧es.toList=xs.map (entryOfKey (tupleKind (bJ P w)))∧(xs.map (·.1)).Nodup
 | .set S n=>h.SetOf (intKind P w) a S n
 | .ins C dx fs=>H dx=some (.own a)∧fs.length≤1000∧dx≠a∧h.get? a=some (Bm C dx) ∧
     ∃ mA,h.Ns1 dx mA∧(∀ f,gm (fs.lookup f) (mA f))∧PySem.Within mA (fs.map (·.1))
 | .own _=>∃ o,h.get? a=some o
 | .xd fs=>∃ mA,h.Ns1 a mA∧∀ f,gm (fs.lookup f) (mA f)
 | .rng lo hi=>∃ t u v,h.get? a=some { cls:=.type "range",data:=.fields #[.int lo t,.int hi u,.int 1 v] }
 | .frz o u=>h.get? a=some o∧bR H h a u
 | .tbl ps=>h.get? a=some { cls:=.none,data:=.fields ps }
 | .met f x=>h.get? a=some (Cp (.ref f) (.ref x))
 | .ext φ=>φ h∧(∃ o,h.get? a=some o)∧∀ h1 h2:Heap,φ h1→(∀ o,h1.get? a=some o→h2.get? a=some o)→φ h2
def HOk (H:Hp)(h:Heap):Prop:=∀ a o,H a=some o→bR P w H h a o
end
section
variable {P:Program}{w:World}{H H':Hp}{h h':Heap}{a:Addr}{o:HO}
theorem bR.lt (x:bR P w H h a o):a < h.objs.size:=by
 cases o with
 | lst xs=>obtain⟨_,_,_,_,e⟩:=x;exact Heap.lt_size e
 | tup xs=>obtain⟨_,_,_,p⟩:=x;exact p.lt
 | dK kvs=>obtain⟨_,_,_,_,o,_,_,e,_⟩:=x;exact Heap.lt_size e
 | dT kvs=>obtain⟨_,_,_,_,o,_,_,e,_⟩:=x;exact Heap.lt_size e
 | set S n=>obtain⟨o,_,_,_,e,_⟩:=x;exact Heap.lt_size e
 | ins C dx fs=>obtain⟨_,_,_,e,_⟩:=x;exact Heap.lt_size e
 | own y=>obtain⟨_,e⟩:=x;exact Heap.lt_size e
 | xd fs=>obtain⟨_,⟨_,_,_,e,_⟩,_⟩:=x;exact Heap.lt_size e
 | rng lo hi=>obtain⟨_,_,_,e⟩:=x;exact Heap.lt_size e
 | frz ob u=>obtain⟨e,_⟩:=x;exact Heap.lt_size e
 | tbl ps=>exact Heap.lt_size (show h.get? a=some _ from x)
 | met f y=>exact Heap.lt_size (show h.get? a=some _ from x)
 | ext φ=>obtain⟨_,⟨_,e⟩,_⟩:=x;exact Heap.lt_size e
theorem Paired.mapP {α β:Type}{F G:α→β→Prop}:∀ {l₁:List α}{l₂:List β},Paired F l₁ l₂→(∀ a b,F a b→G a b)→Paired G l₁ l₂
 | _,_,.nil,_=>.nil
 | _,_,.cons r t,f=>.cons (f _ _ r) (Paired.mapP t f)
theorem bR.stay (x:bR P w H h a o)(k:∀ b u,(b=a∨H b=some (.own a))→h.get? b=some u→h'.get? b=some u)
   (ho:∀ b,H b=some (.own a)→H' b=some (.own a))(ht:∀ b xs,H b=some (.tup xs)→H' b=some (.tup xs)):bR P w H' h' a o:=by
 induction o with
 | lst xs=>obtain⟨z,its,n,r,e⟩:=x;exact⟨z,its,n,r,k _ _ (.inl rfl) e⟩
 | tup xs=>obtain⟨z,its,r,ob,e,c⟩:=x;exact⟨z,its,r,ob,k _ _ (.inl rfl) e,c⟩
 | dK kvs=>obtain⟨z,y,vs,r,ob,es,ep,e,c⟩:=x;exact⟨z,y,vs,r,ob,es,ep,k _ _ (.inl rfl) e,c⟩
 | dT kvs =>
   obtain⟨z,y,xs,r,ob,es,ep,e,c⟩:=x;exact⟨z,y,xs,Paired.mapP r fun p q z=>⟨z.1,ht _ _ z.2.1,z.2.2⟩,ob,es,ep,k _ _ (.inl rfl) e,c⟩
 | set S n=>obtain⟨ob,es,ep,t,e,c⟩:=x;exact⟨ob,es,ep,t,k _ _ (.inl rfl) e,c⟩
 | ins C dx fs =>
   obtain⟨d,z,ne,e,mA,⟨od,es,ep,e2,c⟩,r⟩:=x;exact⟨ho _ d,z,ne,k _ _ (.inl rfl) e,mA,⟨od,es,ep,k _ _ (.inr d) e2,c⟩,r⟩
 | own y=>obtain⟨ob,e⟩:=x;exact⟨ob,k _ _ (.inl rfl) e⟩
 | xd fs=>obtain⟨mA,⟨od,es,ep,e,c⟩,r⟩:=x;exact⟨mA,⟨od,es,ep,k _ _ (.inl rfl) e,c⟩,r⟩
 | rng lo hi=>obtain⟨t,u,v,e⟩:=x;exact⟨t,u,v,k _ _ (.inl rfl) e⟩
 | frz ob u ih=>obtain⟨e,q⟩:=x;exact⟨k _ _ (.inl rfl) e,ih q⟩
 | tbl ps =>
   have e:h.get? a=some { cls:=.none,data:=.fields ps }:=x;show h'.get? a=some { cls:=.none,data:=.fields ps };exact k a _ (.inl rfl) e
 | met f y =>
   have e:h.get? a=some (Cp (.ref f) (.ref y)):=x;show h'.get? a=some (Cp (.ref f) (.ref y));exact k a _ (.inl rfl) e
 | ext φ=>obtain⟨p,⟨o,e⟩,st⟩:=x;exact⟨st _ _ p fun o q=>k _ _ (.inl rfl) q,⟨o,k _ _ (.inl rfl) e⟩,st⟩
theorem HOk.lt (x:HOk P w H h)(e:H a=some o):a < h.objs.size:=(x a o e).lt
theorem HOk.fresh (x:HOk P w H h)(e:h.objs.size≤a):H a=none:=by
 cases q:H a with
 | none=>rfl
 | some u=>exact absurd (Am (x.lt q) e) (Bp _)
theorem HOk.kept (x:HOk P w H h)(k:∀ b u,h.get? b=some u→h'.get? b=some u):HOk P w H h':=fun a o e =>
 (x a o e).stay (fun b u _ q=>k b u q) (fun _ q=>q) fun _ _ q=>q
theorem HOk.laid (x:HOk P w H h)(k:∀ b u,h.get? b=some u→h'.get? b=some u)(hp:h.objs.size≤a)(new:bR P w (upd H a o) h' a o):HOk P w (upd H a o) h':=fun b u e=>by
 have hn:=x.fresh hp;by_cases hb:b=a
 . subst hb;rw[ac] at e;cases e;exact new
 . rw[ai hb] at e
   exact(x b u e).stay (fun c v _ q=>k c v q) (fun c q=>by rw[ai (aG q hn)];exact q) fun c xs q=>by rw[ai (aG q hn)];exact q
end
def Rd (H:Hp)(a:Addr)(u:HO):Prop:=H a=some u∨∃ o,H a=some (.frz o u)
theorem Rd.ok {P:Program}{w:World}{H:Hp}{h:Heap}{a:Addr}{u:HO}(r:Rd H a u)(x:HOk P w H h):bR P w H h a u:=by
 rcases r with r | ⟨o,r⟩
 . exact x a u r
 . obtain⟨_,q⟩:=x a _ r;exact q
def Mut:Option HO→Prop
 | some (.lst _)=>True
 | some (.dK _)=>True
 | some (.dT _)=>True
 | some (.set _ _)=>True
 | some (.ins _ _ _)=>True
 | some (.ext _)=>True
 | _=>False
section
variable {P:Program}{w:World}{H:Hp}{h h':Heap}{x e:Addr}{o':HO}
theorem HOk.write (ok:HOk P w H h)(mu:Mut (H x))(he:e=x∨H e=some (.own x))(k:∀ b u,b≠e→h.get? b=some u→h'.get? b=some u)(heo:∃ u,h'.get? e=some u)
   (new:bR P w (upd H x o') h' x o'):HOk P w (upd H x o') h':=fun b u q=>by
 have nown:∀ c y,H c=some (.own y)→c≠x:=fun c y r z=>by subst z;rw[r] at mu;exact mu
 have ntup:∀ c xs,H c=some (.tup xs)→c≠x:=fun c xs r z=>by subst z;rw[r] at mu;exact mu
 by_cases hb:b=x
 . subst hb;rw[ac] at q;cases q;exact new
 . rw[ai hb] at q;by_cases hbe:b=e
   . have q':H b=some (.own x):=by
       rcases he with z | z
       . exact absurd (hbe.trans z) hb
       . rw[hbe];exact z
     rw[q] at q';cases q';obtain⟨v,hv⟩:=heo;exact⟨v,by rw[hbe];exact hv⟩
   . refine(ok b u q).stay (fun c v hc r=>k c v ?_ r) (fun c r=>by rw[ai (nown c b r)];exact r) fun c xs r=>by rw[ai (ntup c xs r)];exact r
     rcases hc with rfl | hc
     . exact hbe
     . rintro rfl
       rcases he with z | z
       . exact nown c b hc z
       . rw[hc] at z;cases z;exact hb rfl
end
structure Un (fs ex:List Addr)(H H':Hp)(h h':Heap):Prop where
 keep:∀ b o,h.get? b=some o→H b=none→b∉fs→b∉ex→h'.get? b=some o
 slot:∀ b o,h.get? b=some o→H b=none→b∈fs→b∉ex→∃ sl,h'.get? b=some { o with slots:=sl }
 free:∀ b o,h.get? b=some o→H b=none→b∉ex→H' b=none
 there:∀ b o,h.get? b=some o→b∉ex→∃ o',h'.get? b=some o'
 tups:∀ b xs,H b=some (.tup xs)→H' b=some (.tup xs)
 frzs:∀ b o u,H b=some (.frz o u)→H' b=some (.frz o u)
 tbls:∀ b ps,H b=some (.tbl ps)→∃ more,H' b=some (.tbl (ps++more))
section
variable {fs fs' ex ex':List Addr}{H H1 H2:Hp}{h h1 h2 h':Heap}{a x e:Addr}{o:HO}
theorem Un.any (u:Un fs ex H H1 h h1){b:Addr}{ob:Obj}(q:h.get? b=some ob)(n:H b=none)(hx:b∉ex):∃ sl,h1.get? b=some { ob with slots:=sl }:=by
 by_cases hb:b∈fs
 . exact u.slot b ob q n hb hx
 . exact⟨ob.slots,u.keep b ob q n hb hx⟩
theorem Un.kept (k:∀ b u,h.get? b=some u→h'.get? b=some u):Un fs ex H H h h' :=
 ⟨fun b ob q _ _ _=>k b ob q,fun b ob q _ _ _=>⟨ob.slots,k b ob q⟩,fun _ _ _ n _=>n,fun b ob q _=>⟨ob,k b ob q⟩,fun _ _ q=>q,fun _ _ _ q=>q,fun _ ps q=>⟨#[],by rw[q];simp⟩⟩
theorem Un.refl:Un fs ex H H h h:=Un.kept fun _ _ q=>q
theorem Un.laid (k:∀ b u,h.get? b=some u→h'.get? b=some u)(hp:h.objs.size≤a)(hn:H a=none):Un fs ex H (upd H a o) h h' where
 keep:=fun b u q _ _ _=>k b u q
 slot:=fun b u q _ _ _=>⟨u.slots,k b u q⟩
 free:=fun b u q n _=>by rw[ai (Ak (Am (Heap.lt_size q) hp))];exact n
 there:=fun b u q _=>⟨u,k b u q⟩
 tups:=fun b xs q=>by rw[ai (aG q hn)];exact q
 frzs:=fun b u xs q=>by rw[ai (aG q hn)];exact q
 tbls:=fun b ps q=>⟨#[],by rw[ai (aG q hn),q];simp⟩
theorem Un.write (mu:Mut (H x))(he:e=x∨H e=some (.own x))(k:∀ b u,b≠e→h.get? b=some u→h'.get? b=some u)(heo:∃ u,h'.get? e=some u):Un fs ex H (upd H x o) h h':=by
 have hx:∀ b,H b=none→b≠x:=fun b n z=>by subst z;rw[n] at mu;exact mu
 have hb:∀ b,H b=none→b≠e:=fun b n z=>by
   subst z
   rcases he with r | r
   . exact hx b n r
   . rw[n] at r;cases r
 have hm:∀ b u,H b=some u→¬Mut (some u)→b≠x:=fun b u q nm z=>by subst z;rw[q] at mu;exact nm mu
 refine⟨fun b u q n _ _=>k b u (hb b n) q,fun b u q n _ _=>⟨u.slots,k b u (hb b n) q⟩,fun b u q n _=>by rw[ai (hx b n)];exact n,fun b u q _=>?_,
   fun b xs q=>by rw[ai (hm b _ q fun z=>z)];exact q,fun b u xs q=>by rw[ai (hm b _ q fun z=>z)];exact q,fun b ps q=>⟨#[],by rw[ai (hm b _ q fun z=>z),q];simp⟩⟩
 by_cases hbe:b=e
 . subst hbe;exact heo
 . exact⟨u,k b u hbe q⟩
end
def trk (h:Heap)(H:Hp):List Addr:=(Ab h.objs.size).filter fun a=>(H a).isSome
def mE (h:Heap)(H:Hp):Heap:=PySem.W.hideAll h (trk h H)
theorem tN (h:Heap)(H:Hp):(mE h H).objs.size=h.objs.size:=PySem.W.hideAll_size _ _
theorem vW {h:Heap}{H:Hp}{b:Addr}{o:Obj}(e:h.get? b=some o)(n:H b=none):(mE h H).get? b=some o :=
 Ce _ e fun hm=>by
   have q:(H b).isSome=true:=(List.mem_filter.mp hm).2;rw[n] at q;simp at q
theorem wo {h:Heap}{H:Hp}{b:Addr}{o:Obj}(e:(mE h H).get? b=some o):h.get? b=some o∧H b=none:=by
 have e':h.get? b=some o:=PySem.W.of_hideAll (trk h H) e;refine⟨e',?_⟩
 cases q:H b with
 | none=>rfl
 | some x =>
   have hm:b∈trk h H:=List.mem_filter.mpr ⟨List.mem_range.mpr (Heap.lt_size e'),by simp[q]⟩;have z:(mE h H).get? b=none:=PySem.W.hideAll_none (trk h H) hm;rw[z] at e;cases e
def wL (g h:Heap)(L:Addr):List (Addr×Obj):=(Ab h.objs.size).filterMap fun a=>if a=L∨(g.get? a).isSome=true then none else(h.get? a).map fun o=>(a,o)
def cO (g h:Heap)(L d:Addr):List (Addr×Obj):=(wL g h L).filter fun p=>decide (p.1≠d)
structure Mod (K:PySem.W.Frag)(mg:Str→Option Value)(base:Heap):Prop where
 kin:K.In base
 glob:base.Ns mainGlobals mg
 blt:∃ mb,base.Ns builtinsNs mb∧∀ x:Str,x≠"__name__"→mb x=bootBuiltins x
 nolimit:base.NoLimit
structure Cx where
 prog:Program
 w:World
 K:PySem.W.Frag
 mg:Str→Option Value
 base:Heap
 A:Around
 N:List Str
 s₀:Shared
 H₀:Hp
 env:Env
 outer:List Env
 stack:List Env
 ex:List Addr
 fn:Str→Bool
 calm:Bool
 pn:List (Addr×Obj)
 xe:Value→Shared→Prop
def frs (l:List Env):List Addr:=l.filterMap (·.frame)
abbrev Cx.fs (X:Cx):List Addr:=frs X.outer
def Vis (sc:Scope) (x:Str):Prop:=sc.names.lookup x=some .local∨sc.names.lookup x=some .cell∨sc.names.lookup x=some .free
def Loc (sc:Scope) (x:Str):Prop:=sc.names.lookup x=some .local∨sc.names.lookup x=some .cell
def zS (env:Env)(h:Heap)(m:Str→Option Value) (x:Str) (u:Value):Prop :=
 (env.kindOf x=some .local∧m x=some u)∨((env.kindOf x=some .cell∨env.kindOf x=some .free)∧∃ c,env.cells.lookup x=some c∧h.IsCell c (some u))
structure Cx.Ok (X:Cx):Prop where
 mod:Mod X.K X.mg X.base
 kind:X.env.scope.kind=.function
 glob:X.env.globals=mainGlobals
 blt:X.env.builtins=builtinsNs
 above:X.s₀.heap.objs.size≤X.env.locals
 inj:∀ x y c,X.env.cells.lookup x=some c→X.env.cells.lookup y=some c→x=y
 has:∀ x,(X.env.kindOf x=some .cell∨X.env.kindOf x=some .free)→∃ c,X.env.cells.lookup x=some c
 cab:∀ x c,X.fn x=true→X.env.cells.lookup x=some c→X.s₀.heap.objs.size≤c
 hd:X.calm=true→X.A.handled=none
 frames:X.A.frames=some X.stack
 stk:X.stack=X.outer∨(X.stack=X.env::X.outer∧X.env.frame=some X.env.locals)
 exf:∀ b∈X.ex,b≠X.env.locals∧∀ x c,X.env.cells.lookup x=some c→c≠b
 bs:∀ b o,X.base.get? b=some o→X.s₀.heap.get? b=some o∧X.H₀ b=none
 bsz:X.base.objs.size≤X.s₀.heap.objs.size
 noex:∀ b o,X.base.get? b=some o→b∉X.ex
 exfs:∀ b∈X.ex,b∉X.fs
 funs:X.s₀.heap.FunFrames X.base X.outer
 frf:∀ b∈X.fs,X.H₀ b=none
structure Inv (X:Cx)(pins:List (Addr×Obj))(σ:List (Option V))(H:Hp)(s:Shared):Prop where
 ok:X.Ok
 os:s.os=X.s₀.os
 bare:AllBare s.gens
 base:Un X.fs X.ex X.H₀ H X.s₀.heap s.heap
 loc:∃ m,s.heap.Ns X.env.locals m∧∀ (i:Nat) (x:Str) (v:V),X.N[i]?=some x→σ[i]?=some (some v)→Vis X.env.scope x→∃ u,bd v u∧zS X.env s.heap m x u
 cell:∀ x c,X.env.cells.lookup x=some c→∃ v,s.heap.IsCell c v
 free:H X.env.locals=none
 freeC:∀ x c,X.env.cells.lookup x=some c→H c=none
 pin:∀ p∈X.pn++pins,s.heap.get? p.1=some p.2∧H p.1=none∧p.1≠X.env.locals∧p.1∉X.fs∧∀ v,p.2.data≠.cell v
 hok:HOk X.prog X.w H s.heap
 len:σ.length=X.N.length
section
variable {X:Cx}{pins:List (Addr×Obj)}{σ:List (Option V)}{H H':Hp}{s:Shared}{h':Heap}
theorem Cx.Ok.nofr (ok:X.Ok){b:Addr}{o:Obj}(e:X.base.get? b=some o):b∉X.fs:=fun hb=>by
 have:=(ok.funs.mem hb).1;rw[e] at this;cases this
theorem Inv.bs (I:Inv X pins σ H s):∀ b o,X.base.get? b=some o→s.heap.get? b=some o∧H b=none:=fun b o e =>
 ⟨I.base.keep b o (I.ok.bs b o e).1 (I.ok.bs b o e).2 (I.ok.nofr e) (I.ok.noex b o e),I.base.free b o (I.ok.bs b o e).1 (I.ok.bs b o e).2 (I.ok.noex b o e)⟩
theorem Inv.bk (I:Inv X pins σ H s):∀ b o,X.base.get? b=some o→s.heap.get? b=some o:=fun b o e=>(I.bs b o e).1
theorem Inv.mod (I:Inv X pins σ H s):Mod X.K X.mg X.base:=I.ok.mod
theorem Inv.kIn (I:Inv X pins σ H s):X.K.In s.heap:=I.ok.mod.kin.keeps I.bk
theorem Inv.lt (I:Inv X pins σ H s):X.env.locals < s.heap.objs.size:=let ⟨_,hn,_⟩:=I.loc;hn.lt
theorem Inv.sz (I:Inv X pins σ H s):X.s₀.heap.objs.size≤s.heap.objs.size:=AO I.ok.above (CA I.lt)
theorem Inv.nofs (I:Inv X pins σ H s){a:Addr}(h:s.heap.objs.size≤a):a∉X.fs:=fun hb=>by
 obtain⟨_,o,ho,_⟩:=I.ok.funs.mem hb;exact absurd (Am (Heap.lt_size ho) (AO I.sz h)) (Bp _)
theorem Inv.cne (I:Inv X pins σ H s):∀ x c,X.env.cells.lookup x=some c→c≠X.env.locals:=fun x c e z=>by
 obtain⟨v,o,ho,hd⟩:=I.cell x c e;obtain⟨m,⟨o',es,ep,ho',hd',_⟩,_⟩:=I.loc;rw[z,ho'] at ho;cases ho;rw[hd'] at hd;cases hd
theorem Inv.funs (I:Inv X pins σ H s):s.heap.FunFrames X.base X.outer:=by
 have all:∀ (l:List Env),(∀ b∈frs l,b∈X.fs)→X.s₀.heap.FunFrames X.base l→s.heap.FunFrames X.base l:=by
   intro l
   induction l with
   | nil=>intro _ _;trivial
   | cons env r ih =>
     intro hs hl;obtain⟨hk,⟨L,o,hf,hn,ho,hd⟩,hr⟩:=hl;have hL:L∈X.fs:=hs L (by unfold frs;rw[BN,hf];exact Ag);obtain⟨sl,e⟩:=I.base.slot L o ho (I.ok.frf L hL) hL fun z=>I.ok.exfs L z hL;exact⟨hk,⟨L,_,hf,hn,e,hd⟩,ih (fun b hb=>hs b (by unfold frs;rw[BN,hf];exact Ai _ hb)) hr⟩
 exact all X.outer (fun _ hb=>hb) I.ok.funs
theorem Inv.stack (I:Inv X pins σ H s):s.heap.FunFrames X.base X.stack:=by
 rcases I.ok.stk with e | ⟨e,hf⟩
 . rw[e];exact I.funs
 . rw[e];obtain⟨m,hn,_⟩:=I.loc;refine .cons (by rw[I.ok.kind];decide) hf hn ?_ I.funs;exact Heap.get?_none_of_le (AO I.ok.bsz I.ok.above)
theorem Inv.stkSub (I:Inv X pins σ H s):∀ b∈frs X.stack,b∈X.env.locals::X.fs:=fun b hb=>by
 rcases I.ok.stk with e | ⟨e,hf⟩
 . rw[e] at hb;exact Ai _ hb
 . rw[e] at hb;unfold frs at hb;rw[BN,hf] at hb;exact hb
theorem Inv.stkFree (I:Inv X pins σ H s):∀ b∈frs X.stack,H b=none:=fun b hb=>by
 rcases List.mem_cons.mp (I.stkSub b hb) with e | hb
 . rw[e];exact I.free
 . obtain⟨_,o,ho,_⟩:=I.ok.funs.mem hb;exact I.base.free b o ho (I.ok.frf b hb) fun z=>I.ok.exfs b z hb
theorem Inv.step {g':Array GenState}{t':Nat}{d':Drawn}{ch:List Addr}(I:Inv X pins σ H s)
   (hch:∀ b∈ch,(b∈X.ex∨X.s₀.heap.objs.size≤b)∧b≠X.env.locals∧(∀ x c,X.env.cells.lookup x=some c→c≠b)∧∀ p∈X.pn++pins,p.1≠b)
   (keep:∀ b o,b≠X.env.locals→b∉X.fs→b∉ch→s.heap.get? b=some o→H b=none→h'.get? b=some o)
   (slot:∀ b o,b≠X.env.locals→b∈X.fs→b∉ch→s.heap.get? b=some o→H b=none→∃ sl,h'.get? b=some { o with slots:=sl })(free:∀ b o,b∉ch→s.heap.get? b=some o→H b=none→H' b=none)
   (there:∀ b o,b∉ch→s.heap.get? b=some o→∃ o',h'.get? b=some o')
   (tups:∀ b xs,H b=some (.tup xs)→H' b=some (.tup xs))(frzs:∀ b o u,H b=some (.frz o u)→H' b=some (.frz o u))(tbls:∀ b ps,H b=some (.tbl ps)→∃ more,H' b=some (.tbl (ps++more)))
   (ns:∀ m,s.heap.Ns X.env.locals m→h'.Ns X.env.locals m)(hok:HOk X.prog X.w H' h')(hg:AllBare g') :
   Inv X pins σ H' { s with heap:=h',gens:=g',drawn:=d',toks:=t' }:=by
 have neL:∀ b o,X.s₀.heap.get? b=some o→b≠X.env.locals:=fun b o e=>Ak (Am (Heap.lt_size e) I.ok.above)
 have neC:∀ b o,X.s₀.heap.get? b=some o→b∉X.ex→b∉ch:=fun b o e hx hb=>by
   rcases(hch b hb).1 with z | z
   . exact hx z
   . exact absurd (Am (Heap.lt_size e) z) (Bp _)
 have cellK:∀ x c,X.env.cells.lookup x=some c→∀ v,s.heap.IsCell c v→h'.IsCell c v:=fun x c e v ⟨o,ho,hd⟩=>by
   have nch:c∉ch:=fun z=>(hch c z).2.2.1 x c e rfl;by_cases hc:c∈X.fs
   . obtain⟨sl,q⟩:=slot c o (I.cne x c e) hc nch ho (I.freeC x c e);exact⟨_,q,hd⟩
   . exact⟨o,keep c o (I.cne x c e) hc nch ho (I.freeC x c e),hd⟩
 refine⟨I.ok,I.os,hg,⟨fun b o e n hb hx=>?_,fun b o e n hb hx=>?_,fun b o e n hx=>?_,fun b o e hx=>?_,fun b xs e=>tups b xs (I.base.tups b xs e),fun b o xs e=>frzs b o xs (I.base.frzs b o xs e),fun b ps e=>?_⟩,?_,fun x c e=>?_,?_,fun x c e=>?_,fun p hp=>?_,hok,I.len⟩
 . exact keep b o (neL b o e) hb (neC b o e hx) (I.base.keep b o e n hb hx) (I.base.free b o e n hx)
 . obtain⟨sl,e1⟩:=I.base.slot b o e n hb hx;obtain⟨sl',e2⟩:=slot b _ (neL b o e) hb (neC b o e hx) e1 (I.base.free b o e n hx);exact⟨sl',e2⟩
 . obtain⟨o',e1⟩:=I.base.there b o e hx;exact free b o' (neC b o e hx) e1 (I.base.free b o e n hx)
 . obtain⟨o',e1⟩:=I.base.there b o e hx;exact there b o' (neC b o e hx) e1
 . obtain⟨m1,e1⟩:=I.base.tbls b ps e;obtain⟨m2,e2⟩:=tbls b _ e1;exact⟨m1++m2,by rw[e2,Array.append_assoc]⟩
 . obtain⟨m,hn,hl⟩:=I.loc;refine⟨m,ns m hn,fun i x v e1 e2 e3=>?_⟩;obtain⟨u,r,l⟩:=hl i x v e1 e2 e3;refine⟨u,r,?_⟩
   rcases l with l | ⟨k,c,e,z⟩
   . exact .inl l
   . exact .inr ⟨k,c,e,cellK x c e _ z⟩
 . obtain⟨v,z⟩:=I.cell x c e;exact⟨v,cellK x c e v z⟩
 . obtain⟨m,⟨o,_,_,ho,_⟩,_⟩:=I.loc;exact free _ o (fun z=>(hch _ z).2.1 rfl) ho I.free
 . obtain⟨v,o,ho,hd⟩:=I.cell x c e;exact free c o (fun z=>(hch c z).2.2.1 x c e rfl) ho (I.freeC x c e)
 . obtain⟨e,n,ne,nf,d⟩:=I.pin p hp;have nch:p.1∉ch:=fun z=>(hch p.1 z).2.2.2 p hp rfl;exact⟨keep p.1 p.2 ne nf nch e n,free p.1 p.2 nch e n,ne,nf,d⟩
theorem Inv.un {t':Nat}(I:Inv X pins σ H s)(u:Un X.fs [] H H' s.heap h')(hok:HOk X.prog X.w H' h'):Inv X pins σ H' { s with heap:=h',toks:=t' }:=by
 obtain⟨m,⟨o,es,ep,ho,r⟩,_⟩:=id I.loc;obtain⟨sl,hL⟩:=u.any ho I.free (by simp)
 exact I.step (g':=s.gens) (d':=s.drawn) (ch:=[]) (fun _ z=>nomatch z) (fun b o _ hb _ e n=>u.keep b o e n hb (by simp)) (fun b o _ hb _ e n=>u.slot b o e n hb (by simp)) (fun b o _ e n=>u.free b o e n (by simp)) (fun b o _ e=>u.there b o e (by simp)) u.tups u.frzs u.tbls (fun m' hm=>by
   obtain⟨o',es',ep',ho',r'⟩:=hm;rw[ho] at ho';cases ho'
   exact⟨_,es',ep',hL,r'⟩) hok I.bare
theorem Inv.call {g':Array GenState}{t':Nat}{d':Drawn}{ch:List Addr}(I:Inv X pins σ H s)(u:Un (frs X.stack) ch H H' s.heap h')(hok:HOk X.prog X.w H' h')(hg:AllBare g')
   (hch:∀ b∈ch,(b∈X.ex∨X.s₀.heap.objs.size≤b)∧b≠X.env.locals∧(∀ x c,X.env.cells.lookup x=some c→c≠b)∧∀ p∈X.pn++pins,p.1≠b) :
   Inv X pins σ H' { s with heap:=h',gens:=g',drawn:=d',toks:=t' }:=by
 obtain⟨m,⟨o,es,ep,ho,r⟩,_⟩:=id I.loc;obtain⟨sl,hL⟩:=u.any ho I.free fun z=>(hch _ z).2.1 rfl
 exact I.step (ch:=ch) hch (fun b o hL hb hc e n=>u.keep b o e n (fun z=>(List.mem_cons.mp (I.stkSub b z)).elim hL hb) hc) (fun b o _ _ hc e n=>u.any e n hc) (fun b o hc e n=>u.free b o e n hc) (fun b o hc e=>u.there b o e hc) u.tups u.frzs u.tbls (fun m' hm=>by
   obtain⟨o',es',ep',ho',r'⟩:=hm;rw[ho] at ho';cases ho'
   exact⟨_,es',ep',hL,r'⟩) hok hg
theorem Inv.turned {t':Nat}{it:Addr}(I:Inv X pins σ H s)(k:∀ b o,b≠it→s.heap.get? b=some o→h'.get? b=some o)(hn:H it=none)(hL:it≠X.env.locals)
   (h1:it∈X.ex∨X.s₀.heap.objs.size≤it)(h2:∀ x c,X.env.cells.lookup x=some c→c≠it)(h3:∀ p∈X.pn++pins,p.1≠it):Inv X pins σ H { s with heap:=h',toks:=t' }:=by
 have nit:∀ b u,H b=some u→b≠it:=fun b u e z=>by rw[z,hn] at e;cases e
 refine I.step (g':=s.gens) (d':=s.drawn) (ch:=[it]) (fun b hb=>?_) (fun b o _ _ hc e _=>k b o (fun z=>hc (by simp[z])) e) (fun b o _ _ hc e _=>⟨o.slots,k b o (fun z=>hc (by simp[z])) e⟩) (fun _ _ _ _ n=>n)
   (fun b o hc e=>⟨o,k b o (fun z=>hc (by simp[z])) e⟩) (fun _ _ e=>e) (fun _ _ _ e=>e) (fun b ps e=>⟨#[],by rw[e];simp⟩) (fun m hm=>?_) (fun b u e=>?_) I.bare
 . have e:b=it:=by simpa using hb
   subst e;exact⟨h1,hL,h2,h3⟩
 . obtain⟨o,es,ep,ho,r⟩:=hm;exact⟨o,es,ep,k _ o (Ne.symm hL) ho,r⟩
 . refine(I.hok b u e).stay (fun c v hc q=>k c v ?_ q) (fun _ q=>q) fun _ _ q=>q
   rcases hc with z | z
   . rw[z];exact nit b u e
   . exact nit c _ z
theorem Inv.tok (I:Inv X pins σ H s) (t:Nat):Inv X pins σ H { s with toks:=t }:=I.un (h':=s.heap) (t':=t) Un.refl I.hok
theorem Inv.kept {t':Nat}(I:Inv X pins σ H s)(k:∀ b u,s.heap.get? b=some u→h'.get? b=some u):Inv X pins σ H { s with heap:=h',toks:=t' }:=I.un (Un.kept k) (I.hok.kept k)
theorem Inv.laid {a:Addr}{o:HO}{t':Nat}(I:Inv X pins σ H s)(k:∀ b u,s.heap.get? b=some u→h'.get? b=some u)(hp:s.heap.objs.size≤a)(new:bR X.prog X.w (upd H a o) h' a o) :
 Inv X pins σ (upd H a o) { s with heap:=h',toks:=t' }:=I.un (Un.laid k hp (I.hok.fresh hp)) (I.hok.laid k hp new)
theorem Inv.write {x e:Addr}{o:HO}{t':Nat}(I:Inv X pins σ H s)(mu:Mut (H x))(he:e=x∨H e=some (.own x))(k:∀ b u,b≠e→s.heap.get? b=some u→h'.get? b=some u)(heo:∃ u,h'.get? e=some u)
 (new:bR X.prog X.w (upd H x o) h' x o):Inv X pins σ (upd H x o) { s with heap:=h',toks:=t' }:=I.un (Un.write mu he k heo) (I.hok.write mu he k heo new)
theorem Inv.pins_of {pins':List (Addr×Obj)}(I:Inv X pins σ H s)(h:∀ p∈pins',s.heap.get? p.1=some p.2∧H p.1=none∧p.1≠X.env.locals∧p.1∉X.fs∧∀ v,p.2.data≠.cell v):Inv X pins' σ H s :=
 ⟨I.ok,I.os,I.bare,I.base,I.loc,I.cell,I.free,I.freeC,fun p hp=>(List.mem_append.mp hp).elim (fun z=>I.pin p (A8 _ z)) (h p),I.hok,I.len⟩
theorem kE {N:List Str}(hN:N.Nodup){i j:Nat}{x:Str}(a:N[i]?=some x)(b:N[j]?=some x):i=j:=by
 obtain⟨h1,e1⟩:=List.getElem?_eq_some_iff.mp a;obtain⟨h2,e2⟩:=List.getElem?_eq_some_iff.mp b;exact(List.getElem_inj hN).mp (e1.trans e2.symm)
theorem ip {M:Model}{A:Around}{E:Value→Shared→Prop}{i:Nat}{x:Str}{v:V}{u:Value}{Q:Unit→Shared→Prop}(I:Inv X pins σ H s)(hN:X.N.Nodup)(hi:X.N[i]?=some x)(hx:Loc X.env.scope x)(r:bd v u)
   (h:∀ s',Inv X pins (σ.set i (some v)) H s'→(∃ a,Heap.SameBut a s.heap s'.heap∧(a=X.env.locals∨X.env.cells.lookup x=some a))→Q () s')(hf:X.fn x=true∨X.env.scope.names.lookup x=some .local:=by first | exact .inl rfl | exact .inr rfl | assumption):wpAny M A (storeName X.env x u) Q E s:=by
 obtain⟨m,hn,hl⟩:=id I.loc
 have hcls:(X.env.scope.kind==.class||(X.env.scope.kind==.module&&X.env.locals != X.env.globals))=false:=by rw[I.ok.kind];rfl
 have hiσ:i < σ.length:=by rw[I.len];exact(List.getElem?_eq_some_iff.mp hi).1
 have cne:=I.cne
 have tracked:∀ {a:Addr}{h':Heap},(∃ o,s.heap.get? a=some o∧H a=none)→Heap.SameBut a s.heap h'→HOk X.prog X.w H h':=fun {a h'} ha hs b ob e=>by
   obtain⟨_,_,hfree⟩:=ha;refine(I.hok b ob e).stay (fun c w' hc q=>(hs.2 c ?_).trans q) (fun _ q=>q) fun _ _ q=>q;rintro rfl
   rcases hc with rfl | hc
   . rw[hfree] at e;cases e
   . rw[hfree] at hc;cases hc
 rcases hx with hk | hk
 . refine wpAny_storeName_local hk hn (fun h' hn' hs=>?_) hcls;obtain⟨oL,_,_,hoL,_⟩:=id hn;refine h _ ⟨I.ok,I.os,I.bare,⟨fun b o e n hb hx=>?_,fun b o e n hb hx=>?_,I.base.free,fun b o e hx=>?_,I.base.tups,I.base.frzs,I.base.tbls⟩,⟨_,hn',fun j y v' e1 e2 e3=>?_⟩,fun y c e=>?_,I.free,I.freeC,fun p hp=>?_,tracked ⟨oL,hoL,I.free⟩ hs,by simpa using I.len⟩ ⟨_,hs,.inl rfl⟩
   . exact(hs.2 b (Ak (Am (Heap.lt_size e) I.ok.above))).trans (I.base.keep b o e n hb hx)
   . obtain⟨sl,e1⟩:=I.base.slot b o e n hb hx;exact⟨sl,(hs.2 b (Ak (Am (Heap.lt_size e) I.ok.above))).trans e1⟩
   . obtain⟨o',e1⟩:=I.base.there b o e hx;exact⟨o',(hs.2 b (Ak (Am (Heap.lt_size e) I.ok.above))).trans e1⟩
   . by_cases hj:j=i
     . subst hj;rw[hi] at e1;cases e1;rw[BW hiσ] at e2;cases e2;exact⟨u,r,.inl ⟨hk,by simp⟩⟩
     . rw[B8 (Ne.symm hj)] at e2;obtain⟨u',r',q⟩:=hl j y v' e1 e2 e3;refine⟨u',r',?_⟩
       rcases q with ⟨k,e⟩ | ⟨k,c,e,z⟩
       . refine .inl ⟨k,?_⟩;have:y≠x:=fun e=>hj (kE hN e1 (e▸hi));simp[this,e]
       . exact .inr ⟨k,c,e,z.sameBut hs (cne y c e)⟩
   . obtain⟨w',z⟩:=I.cell y c e;exact⟨w',z.sameBut hs (cne y c e)⟩
   . obtain⟨e,n,ne,nf,d⟩:=I.pin p hp;exact⟨(hs.2 p.1 ne).trans e,n,ne,nf,d⟩
 . have hfn:X.fn x=true:=by
     rcases hf with z | z
     . exact z
     . rw[z] at hk;cases hk
   obtain⟨c,hc⟩:=I.ok.has x (.inl hk);obtain⟨w',z⟩:=I.cell x c hc;refine wpAny_storeName_cell I.ok.kind hk hc z (fun h' hc' hs=>?_);obtain⟨oc,hoc,hocd⟩:=id z;refine h { s with heap:=h' } ⟨I.ok,I.os,I.bare,⟨fun b o e n hb hx=>?_,fun b o e n hb hx=>?_,I.base.free,fun b o e hx=>?_,I.base.tups,I.base.frzs,I.base.tbls⟩,⟨m,hn.sameBut hs (Ne.symm (cne x c hc)),fun j y v' e1 e2 e3=>?_⟩,fun y c' e=>?_,I.free,I.freeC,fun p hp=>?_,tracked ⟨oc,hoc,I.freeC x c hc⟩ hs,by simpa using I.len⟩ ⟨c,hs,.inr hc⟩
   . exact(hs.2 b (Ak (Am (Heap.lt_size e) (I.ok.cab x c hfn hc)))).trans (I.base.keep b o e n hb hx)
   . obtain⟨sl,e1⟩:=I.base.slot b o e n hb hx;exact⟨sl,(hs.2 b (Ak (Am (Heap.lt_size e) (I.ok.cab x c hfn hc)))).trans e1⟩
   . obtain⟨o',e1⟩:=I.base.there b o e hx;exact⟨o',(hs.2 b (Ak (Am (Heap.lt_size e) (I.ok.cab x c hfn hc)))).trans e1⟩
   . by_cases hj:j=i
     . subst hj;rw[hi] at e1;cases e1;rw[BW hiσ] at e2;cases e2;exact⟨u,r,.inr ⟨.inl hk,c,hc,hc'⟩⟩
     . rw[B8 (Ne.symm hj)] at e2;obtain⟨u',r',q⟩:=hl j y v' e1 e2 e3;refine⟨u',r',?_⟩
       rcases q with q | ⟨k,c',e,z'⟩
       . exact .inl q
       . refine .inr ⟨k,c',e,z'.sameBut hs ?_⟩;rintro rfl;exact hj (kE hN e1 (I.ok.inj _ _ _ e hc▸hi))
   . by_cases hcc:c'=c
     . subst hcc;exact⟨_,hc'⟩
     . obtain⟨w2,z2⟩:=I.cell y c' e;exact⟨w2,z2.sameBut hs hcc⟩
   . obtain⟨e,n,ne,nf,d⟩:=I.pin p hp;refine⟨(hs.2 p.1 ?_).trans e,n,ne,nf,d⟩;intro q;rw[q,hoc] at e;have q':oc=p.2:=Option.some.inj e;exact d w' (by rw[←q'];exact hocd)
theorem kg {M:Model}{A:Around}{E:Value→Shared→Prop}{i:Nat}{x:Str}{v:V}{u:Value}{Q:Unit→Shared→Prop}(I:Inv X pins σ H s)(hN:X.N.Nodup)(hi:X.N[i]?=some x)(hx:Loc X.env.scope x)(r:bd v u)
   (h:∀ s',Inv X pins (σ.set i (some v)) H s'→Q () s')(hf:X.fn x=true∨X.env.scope.names.lookup x=some .local:=by first | exact .inl rfl | exact .inr rfl | assumption):wpAny M A (storeName X.env x u) Q E s :=
 ip I hN hi hx r (fun s' I' _=>h s' I') hf
theorem Inv.call' {s':Shared}{ch:List Addr}(I:Inv X pins σ H s)(ho:s'.os=s.os)(u:Un (frs X.stack) ch H H' s.heap s'.heap)(hok:HOk X.prog X.w H' s'.heap)(hg:AllBare s'.gens)
   (hch:∀ b∈ch,(b∈X.ex∨X.s₀.heap.objs.size≤b)∧b≠X.env.locals∧(∀ x c,X.env.cells.lookup x=some c→c≠b)∧∀ p∈X.pn++pins,p.1≠b):Inv X pins σ H' s':=by
 obtain⟨h',g',d',t',o'⟩:=s';have e:o'=s.os:=ho;subst e;exact I.call (g':=g') (t':=t') (d':=d') u hok hg hch
end
abbrev XK:=Value→Option Addr→Hp→Prop
abbrev St:=List (Option V)
abbrev VK:=V→Hp→Prop
abbrev TE:=St→Hp→VK→Prop
abbrev TT:=St→Hp→(Bool→Hp→Prop)→Prop
abbrev TA:=St→Hp→(List V→Hp→Prop)→Prop
structure gl where
 nx:St→Hp→Prop
 rt:VK
 bk:St→Hp→Prop:=fun _ _=>False
 ct:St→Hp→Prop:=fun _ _=>False
abbrev TS:=gl→St→Hp→Prop
def EP (X:Cx)(pins:List (Addr×Obj)) (σ:St)(Q:VK) (u:Value)(s':Shared):Prop:=∃ v H',Inv X pins σ H' s'∧bd v u∧Q v H'
def TP (X:Cx)(pins:List (Addr×Obj)) (σ:St)(Q:Bool→Hp→Prop)(b:Bool)(s':Shared):Prop:=∃ H',Inv X pins σ H' s'∧Q b H'
def AP (X:Cx)(pins:List (Addr×Obj)) (σ:St)(Q:List V→Hp→Prop)(us:List Value)(s':Shared):Prop:=∃ vs H',Inv X pins σ H' s'∧Vals vs us∧Q vs H'
def SP (X:Cx)(pins:List (Addr×Obj))(D:gl)(f:Flow)(s':Shared):Prop :=
 match f with
 | .next=>∃ σ' H',Inv X pins σ' H' s'∧D.nx σ' H'
 | .brk=>∃ σ' H',Inv X pins σ' H' s'∧D.bk σ' H'
 | .cont=>∃ σ' H',Inv X pins σ' H' s'∧D.ct σ' H'
 | .ret u=>∃ v σ' H',Inv X pins σ' H' s'∧bd v u∧D.rt v H'
def PE (X:Cx)(e:Expr)(t:TE):Prop :=
 ∀ ⦃pins:List (Addr×Obj)⦄ (s:Shared) (σ:St)(H:Hp)(Q:VK),Inv X pins σ H s→t σ H Q→wpAny (model X.prog X.w) X.A (eval e X.env) (EP X pins σ Q) X.xe s
def PT (X:Cx)(e:Expr)(t:TT):Prop :=
 ∀ ⦃pins:List (Addr×Obj)⦄ (s:Shared) (σ:St)(H:Hp)(Q:Bool→Hp→Prop),Inv X pins σ H s→t σ H Q→wpAny (model X.prog X.w) X.A (isTrue e X.env (eval e X.env)) (TP X pins σ Q) X.xe s
def PW (X:Cx)(e:Expr)(t:TT):Prop :=
 ∀ (whole:Sem Value)(pins:List (Addr×Obj))(s:Shared) (σ:St)(H:Hp)(Q:Bool→Hp→Prop),Inv X pins σ H s→t σ H Q→wpAny (model X.prog X.w) X.A (isTrue e X.env whole) (TP X pins σ Q) X.xe s
theorem PW.pt {X:Cx}{e:Expr}{t:TT}(h:PW X e t):PT X e t:=h _
def PA (X:Cx)(es:List Expr)(t:TA):Prop :=
 ∀ ⦃pins:List (Addr×Obj)⦄ (pos:Pos)(s:Shared) (σ:St)(H:Hp)(Q:List V→Hp→Prop),Inv X pins σ H s→t σ H Q→wpAny (model X.prog X.w) X.A (spliced (backTo pos (starEach es X.env))) (AP X pins σ Q) X.xe s
def PS (X:Cx)(st:Stmt)(t:TS):Prop :=
 ∀ ⦃pins:List (Addr×Obj)⦄ (s:Shared) (σ:St)(H:Hp)(D:gl),Inv X pins σ H s→t D σ H→wpAny (model X.prog X.w) X.A (exec st X.env) (SP X pins D) X.xe s
def PSs (X:Cx)(st:List Stmt)(t:TS):Prop :=
 ∀ ⦃pins:List (Addr×Obj)⦄ (s:Shared) (σ:St)(H:Hp)(D:gl),Inv X pins σ H s→t D σ H→wpAny (model X.prog X.w) X.A (execs st X.env) (SP X pins D) X.xe s
theorem thn {α:Type}{t:Sem α}{Q Q':α→Shared→Prop}{M:Model}{A:Around}{E:Value→Shared→Prop}{s:Shared}(h:wpAny M A t Q E s)(hQ:∀ a s,Q a s→Q' a s):wpAny M A t Q' E s:=wpAny_mono h hQ fun _ _ x=>x
section
variable {X:Cx}
theorem bin {a b:Expr}{ta tb:TE}(ha:PE X a ta)(hb:PE X b tb){pins:List (Addr×Obj)}{s:Shared}{σ:St}{H:Hp}{R:V→V→Hp→Prop}(I:Inv X pins σ H s)(h:ta σ H fun x H1=>tb σ H1 fun y H2=>R x y H2)
   {α:Type}{Q:α→Shared→Prop}{f:Value→Value→Sem α}
   (hf:∀ v u s2 x y H2,Inv X pins σ H2 s2→bd x v→bd y u→R x y H2→wpAny (model X.prog X.w) X.A (f v u) Q X.xe s2) :
   wpAny (model X.prog X.w) X.A (eval a X.env) (fun v s₁=>wpAny (model X.prog X.w) X.A (eval b X.env) (fun u s₂=>wpAny (model X.prog X.w) X.A (f v u) Q X.xe s₂) X.xe s₁) X.xe s:=by
 refine thn (ha s σ H _ I h) fun v s1 ⟨x,H1,I1,r1,q1⟩=>?_;refine thn (hb s1 σ H1 _ I1 q1) fun u s2 ⟨y,H2,I2,r2,q2⟩=>?_;exact hf v u s2 x y H2 I2 r1 r2 q2
def oB (x:V)(k:Addr→Prop):Prop:=match x with
 | .ref p=>k p
 | _=>False
def isInt (x:V)(k:Int→Prop):Prop:=match x with
 | .int p=>k p
 | _=>False
def uF (x:V)(k:Bool→Prop):Prop:=match x with
 | .bl p=>k p
 | _=>False
theorem lI {p:Addr}{k:Addr→Prop}:oB (.ref p) k=k p:=rfl
theorem lw {p:Int}{k:Int→Prop}:isInt (.int p) k=k p:=rfl
theorem rE {p:Bool}{k:Bool→Prop}:uF (.bl p) k=k p:=rfl
theorem jC {x:V}{k:Addr→Prop}:oB x k=∃ p,x=.ref p∧k p:=by
 cases x<;>simp[oB]
theorem da {x:V}{k:Int→Prop}:isInt x k=∃ p,x=.int p∧k p:=by
 cases x<;>simp[isInt]
theorem re {x:V}{k:Bool→Prop}:uF x k=∃ p,x=.bl p∧k p:=by
 cases x<;>simp[uF]
def k4 (i:Nat):TE:=fun σ H Q=>match σ[i]? with
 | some (some v)=>Q v H
 | _=>False
theorem vi {i:Nat}{σ:St}{H:Hp}{Q:VK}(h:k4 i σ H Q):∃ v,σ[i]?=some (some v)∧Q v H:=by
 unfold k4 at h
 split at h
 . exact⟨_,by assumption,h⟩
 . exact h.elim
def tC (v:V):TE:=fun _ H Q=>Q v H
theorem xQ {i:Nat}{x:Str}{pos:Pos}(hN:X.N[i]?=some x)(hv:Vis X.env.scope x)(hd:(x==("__debug__":Str))=false:=by decide)(hcd:(x==("__classdict__":Str))=false:=by decide):PE X (.Name x pos) (k4 i):=by
 intro pins s σ H Q I h;obtain⟨v,e,h⟩:=vi h;obtain⟨m,hn,hl⟩:=I.loc;obtain⟨u,r,l⟩:=hl i x v hN e hv;have fin:EP X pins σ Q u s:=⟨v,H,I,r,h⟩
 rcases l with ⟨hk,hm⟩ | ⟨hk,c,hc,hcell⟩
 . exact wpAny_Name (wpAny_loadName_local I.ok.kind hk hn hm fin) hd
 . rcases hk with hk | hk
   . exact wpAny_Name (wpAny_loadName_cell I.ok.kind hk hc hcell fin) hd
   . exact wpAny_Name (wpAny_loadName_free I.ok.kind hk hc hcell fin hcd) hd
theorem ag {i j pos}:PE X (.Constant (.int i) j pos) (tC (.int i)):=fun _ _ _ H _ I h=>wpAny_Constant_int ⟨.int i,H,I.tok _,⟨_,rfl⟩,h⟩
theorem cv {b j pos}:PE X (.Constant (.bool b) j pos) (tC (.bl b)):=fun _ _ _ H _ I h=>Constant_bool ⟨.bl b,H,I,rfl,h⟩
theorem mP {j pos}:PE X (.Constant .none j pos) (tC .non):=fun _ _ _ H _ I h=>Constant_none ⟨.non,H,I,rfl,h⟩
theorem ay {x j pos}:PE X (.Constant (.str x) j pos) (tC (.str x)):=fun _ _ _ H _ I h=>Calls.Constant_str ⟨.str x,H,I.tok _,⟨_,rfl⟩,h⟩
def Gl (X:Cx) (x:Str):Prop:=X.env.kindOf x=some .globalImplicit
theorem g0 {E:Value→Shared→Prop}{pins:List (Addr×Obj)}{s:Shared}{σ:St}{H:Hp}{x:Str}{u:Value}{pos:Pos}{Q:Value→Shared→Prop}(I:Inv X pins σ H s)(hg:Gl X x)(hm:X.mg x=some u)(h:Q u s)
   (hd:(x==("__debug__":Str))=false:=by decide):wpAny (model X.prog X.w) X.A (eval (.Name x pos) X.env) Q E s :=
 Calls.Name_function_global I.ok.kind hg (Calls.loadGlobal_global (by rw[I.ok.glob];exact I.mod.glob.keeps I.bk) hm h) hd
theorem iH {E:Value→Shared→Prop}{pins:List (Addr×Obj)}{s:Shared}{σ:St}{H:Hp}{x:Str}{u:Value}{pos:Pos}{Q:Value→Shared→Prop}(I:Inv X pins σ H s)(hg:Gl X x)(hm:X.mg x=none)(hv:bootBuiltins x=some u)(h:Q u s)
   (hn:x≠"__name__":=by decide)(hd:(x==("__debug__":Str))=false:=by decide):wpAny (model X.prog X.w) X.A (eval (.Name x pos) X.env) Q E s:=by
 obtain⟨mb,h1,h2⟩:=I.mod.blt;exact Calls.Name_function_global I.ok.kind hg (Calls.loadGlobal_builtin (by rw[I.ok.glob];exact I.mod.glob.keeps I.bk) hm (by rw[I.ok.blt];exact h1.keeps I.bk) ((h2 x hn).trans hv) h) hd
theorem bi {x:Str}{v:V}{u:Value}{pos:Pos}(hg:Gl X x)(hm:X.mg x=some u)(r:bd v u)(hd:(x==("__debug__":Str))=false:=by decide):PE X (.Name x pos) (tC v) :=
 fun _ _ _ H _ I h=>g0 I hg hm ⟨v,H,I,r,h⟩ hd
theorem cF {x:Str}{v:V}{u:Value}{pos:Pos}(hg:Gl X x)(hm:X.mg x=none)(hv:bootBuiltins x=some u)(r:bd v u)(hn:x≠"__name__":=by decide)(hd:(x==("__debug__":Str))=false:=by decide):PE X (.Name x pos) (tC v) :=
 fun _ _ _ H _ I h=>iH I hg hm hv ⟨v,H,I,r,h⟩ hn hd
variable {a b:Expr}{ta tb:TE}{pos:Pos}
def PC (X:Cx)(op:CmpOp)(a b:Expr)(t:TE):Prop :=
 ∀ (pins:List (Addr×Obj))(s:Shared) (σ:St)(H:Hp)(Q:VK),Inv X pins σ H s→t σ H Q →
   wpAny (model X.prog X.w) X.A (eval a X.env) (fun v s₁=>wpAny (model X.prog X.w) X.A (eval b X.env) (fun u s₂=>wpAny (model X.prog X.w) X.A (compareOp op v u) (EP X pins σ Q) X.xe s₂) X.xe s₁) X.xe s
def tB (t:TE):TT:=fun σ H Q=>t σ H fun x H1=>∃ c,x=.bl c∧Q c H1
theorem fu {op:CmpOp}{t:TE}(h:PC X op a b t)(h1:behindInMarks op b=false:=by first | exact nobehind _ (by decide) (by decide) | rfl):PT X (.Compare a [op] [b] pos) (tB t):=by
 intro pins s σ H Q I hw;refine wpAny_isTrue_Compare1 (thn (h pins s σ H _ I hw) fun v s1 h1=>thn h1 fun u s2 h2=>thn h2 fun c s3 ⟨x,H1,I1,r1,q1⟩=>?_) h1;obtain⟨d,rfl,q⟩:=q1;cases r1;exact wpAny_truthy_bool ⟨H1,I1,q⟩
theorem bL {e:Expr}{t:TE}(h:PE X e t)(he:∀ whole,isTrue e X.env whole=(do let v ←whole;standAt e.pos;holding [v] (truthy v)):=by intro _;rfl):PT X e (tB t):=by
 intro pins s σ H Q I hw;refine isTrue_plain (thn (h s σ H _ I hw) fun v s1 ⟨x,H1,I1,r1,q1⟩=>?_) (he _);obtain⟨d,rfl,q⟩:=q1;cases r1;exact wpAny_truthy_bool ⟨H1,I1,q⟩
variable {tA tB':TT}{cO:List Expr}
def xY (t u:TT):TT:=fun σ H Q=>t σ H fun c H1=>if c=true then u σ H1 Q else Q false H1
def tOr (t u:TT):TT:=fun σ H Q=>t σ H fun c H1=>if c=true then Q true H1 else u σ H1 Q
def yt (t:TT):TT:=fun σ H Q=>t σ H fun c H1=>Q (!c) H1
theorem gT (ha:PT X a tA):PW X (.BoolOp .And [a] pos) tA:=by
 intro wh pins s σ H Q I h;refine isTrue_and (thn (ha s σ H Q I h) fun c s1 e=>?_)
 cases c with
 | true=>exact isTrue_and_nil e
 | false=>exact e
theorem dc (ha:PT X a tA):PW X (.BoolOp .Or [a] pos) tA:=by
 intro wh pins s σ H Q I h;refine isTrue_or (thn (ha s σ H Q I h) fun c s1 e=>?_)
 cases c with
 | false=>exact isTrue_or_nil e
 | true=>exact e
theorem jV (ha:PT X a tA)(hb:PW X (.BoolOp .And (b::cO) pos) tB'):PW X (.BoolOp .And (a::b::cO) pos) (xY tA tB'):=by
 intro wh pins s σ H Q I h;refine isTrue_and (thn (ha s σ H _ I h) fun c s1 ⟨H1,I1,q1⟩=>?_)
 cases c with
 | true=>exact hb wh pins s1 σ H1 Q I1 q1
 | false=>exact⟨H1,I1,q1⟩
theorem eE (ha:PT X a tA)(hb:PW X (.BoolOp .Or (b::cO) pos) tB'):PW X (.BoolOp .Or (a::b::cO) pos) (tOr tA tB'):=by
 intro wh pins s σ H Q I h;refine isTrue_or (thn (ha s σ H _ I h) fun c s1 ⟨H1,I1,q1⟩=>?_)
 cases c with
 | true=>exact⟨H1,I1,q1⟩
 | false=>exact hb wh pins s1 σ H1 Q I1 q1
theorem cf (ha:PT X a tA):PT X (.UnaryOp .Not a pos) (yt tA):=by
 intro pins s σ H Q I h;exact isTrue_not (ha s σ H (fun c H1=>Q (!c) H1) I h)
def vX (ta tb:TE):TE:=fun σ H Q=>ta σ H fun x H1=>∃ c,x=.bl c∧if c=true then tb σ H1 Q else Q (.bl false) H1
def zF (ta tb:TE):TE:=fun σ H Q=>ta σ H fun x H1=>∃ c,x=.bl c∧if c=true then Q (.bl true) H1 else tb σ H1 Q
def uO (ta:TE):TE:=fun σ H Q=>ta σ H fun x H1=>∃ c,x=.bl c∧Q (.bl (!c)) H1
theorem vg {op}{t:TE}(h:PE X a t):PE X (.BoolOp op [a] pos) t:=fun pins s σ H Q I hw=>BoolOp_one (h s σ H Q I hw)
theorem pO (ha:PE X a ta)(hb:PE X (.BoolOp .And (b::cO) pos) tb):PE X (.BoolOp .And (a::b::cO) pos) (vX ta tb):=by
 intro pins s σ H Q I h;refine BoolOp_and (thn (ha s σ H _ I h) fun v s1 ⟨x,H1,I1,r1,q1⟩=>?_);obtain⟨c,rfl,q1⟩:=q1;cases r1;refine wpAny_truthy_bool ?_
 cases c with
 | true=>exact hb s1 σ H1 Q I1 q1
 | false=>exact⟨.bl false,H1,I1,rfl,q1⟩
theorem xT (ha:PE X a ta):PE X (.UnaryOp .Not a pos) (uO ta):=by
 intro pins s σ H Q I h;refine UnaryOp_ (thn (ha s σ H _ I h) fun v s1 ⟨x,H1,I1,r1,q1⟩=>?_);obtain⟨c,rfl,q1⟩:=q1;cases r1;exact not_of (wpAny_truthy_bool ⟨.bl (!c),H1,I1,rfl,q1⟩)
def tIf (t:TT)(ta tb:TE):TE:=fun σ H Q=>t σ H fun c H1=>if c=true then ta σ H1 Q else tb σ H1 Q
theorem vw {c:Expr}(hc:PT X c tA)(ha:PE X a ta)(hb:PE X b tb):PE X (.IfExp c a b pos) (tIf tA ta tb):=by
 intro pins s σ H Q I h;refine wpAny_IfExp (thn (hc s σ H _ I h) fun d s1 ⟨H1,I1,q1⟩=>?_)
 cases d with
 | true=>exact ha s1 σ H1 Q I1 q1
 | false=>exact hb s1 σ H1 Q I1 q1
end
def SqL (K:PySem.W.Frag)(H:Hp)(a:Addr)(xs:List V):Prop :=
 Rd H a (.lst xs) ∨
   ∃ (o:Obj)(its:Array Value) (n:Nat),K.lookup a=some o∧o.cls=.type "list"∧o.dict=none∧o.data=.seq its n∧its.size≤sizeLine∧Vals xs its.toList
def SqT (K:PySem.W.Frag)(H:Hp)(a:Addr)(xs:List V):Prop :=
 Rd H a (.tup xs) ∨
   ∃ (o:Obj)(its:Array Value) (n:Nat),K.lookup a=some o∧o.cls=.type "tuple"∧o.data=.seq its n∧its.size≤sizeLine∧Vals xs its.toList
def zM:Value→Option V
 | .none=>some .non
 | .bool b=>some (.bl b)
 | .int i _=>some (.int i)
 | .str x _=>some (.str x)
 | .bytes b _=>some (.byt b)
 | .float b _=>some (.flt b)
 | .ref a=>some (.ref a)
 | .type n=>some (.ty n)
 | _=>none
theorem bd.abs {x:V}{u:Value}(r:bd x u):zM u=some x:=by
 cases x with
 | non=>cases r;rfl
 | bl _=>cases r;rfl
 | int _=>obtain⟨t,rfl⟩:=r;rfl
 | str _=>obtain⟨t,rfl⟩:=r;rfl
 | byt _=>obtain⟨t,rfl⟩:=r;rfl
 | flt _=>obtain⟨t,rfl⟩:=r;rfl
 | ref _=>cases r;rfl
 | ty _=>cases r;rfl
theorem bd.inj {x y:V}{u:Value}(r:bd x u)(q:bd y u):x=y:=Option.some.inj (r.abs.symm.trans q.abs)
theorem Vals.inj:∀ {xs ys:List V}{us:List Value},Vals xs us→Vals ys us→xs=ys
 | _,_,_,.nil,.nil=>rfl
 | _,_,_,.cons r t,.cons r' t'=>by rw[r.inj r',Vals.inj t t']
section
variable {X:Cx}{pins:List (Addr×Obj)}{σ:St}{H:Hp}{s:Shared}{a:Addr}{xs ys:List V}
theorem SqL.of {K:PySem.W.Frag}(h:H a=some (.lst xs)):SqL K H a xs:=.inl (.inl h)
theorem SqT.of {K:PySem.W.Frag}(h:H a=some (.tup xs)):SqT K H a xs:=.inl (.inl h)
theorem Inv.list (I:Inv X pins σ H s)(h:SqL X.K H a xs):∃ its:List Value,Vals xs its∧PlainL s.heap a its.toArray∧xs.length≤sizeLine:=by
 rcases h with h | ⟨o,its,n,hk,hc,hd,hs,hz,r⟩
 . obtain⟨z,its,n,r,e⟩:=h.ok I.hok;exact⟨its,r,⟨_,n,e,rfl,rfl,rfl⟩,z⟩
 . refine⟨its.toList,r,⟨o,n,I.kIn a o hk,hc,hd,by simpa using hs⟩,?_⟩;have e:=r.length;simp only[AI] at e;omega
theorem Inv.tuple (I:Inv X pins σ H s)(h:SqT X.K H a xs):∃ its:List Value,Vals xs its∧IsTup s.heap a its.toArray∧xs.length≤sizeLine:=by
 rcases h with h | ⟨o,its,n,hk,hc,hs,hz,r⟩
 . obtain⟨z,its,r,p⟩:=h.ok I.hok;exact⟨its,r,p,z⟩
 . refine⟨its.toList,r,⟨o,I.kIn a o hk,hc,n,by simpa using hs⟩,?_⟩;have e:=r.length;simp only[AI] at e;omega
theorem Inv.list_inj (I:Inv X pins σ H s)(h:SqL X.K H a xs)(h':SqL X.K H a ys):xs=ys:=by
 obtain⟨its,r,⟨o,n,e,_,_,d⟩,_⟩:=I.list h;obtain⟨its',r',⟨o',n',e',_,_,d'⟩,_⟩:=I.list h';rw[e] at e';cases e';rw[d] at d'
 injection d' with d1 _
 have:its=its':=by simpa using congrArg Array.toList d1
 subst this;exact r.inj r'
theorem Inv.tuple_inj (I:Inv X pins σ H s)(h:SqT X.K H a xs)(h':SqT X.K H a ys):xs=ys:=by
 obtain⟨its,r,⟨o,e,_,n,d⟩,_⟩:=I.tuple h;obtain⟨its',r',⟨o',e',_,n',d'⟩,_⟩:=I.tuple h';rw[e] at e';cases e';rw[d] at d'
 injection d' with d1 _
 have:its=its':=by simpa using congrArg Array.toList d1
 subst this;exact r.inj r'
end
abbrev Cx.wish (X:Cx)(E:Value→Shared→Prop):Cx:={ X with xe:=E }
abbrev Cx.nox (X:Cx):Cx:=X.wish fun _ _=>False
theorem Cx.Ok.wish {X:Cx}(ok:X.Ok)(E:Value→Shared→Prop):(X.wish E).Ok :=
 ⟨ok.mod,ok.kind,ok.glob,ok.blt,ok.above,ok.inj,ok.has,ok.cab,ok.hd,ok.frames,ok.stk,ok.exf,ok.bs,ok.bsz,ok.noex,ok.exfs,ok.funs,ok.frf⟩
theorem Cx.Ok.unwish {X:Cx}{E:Value→Shared→Prop}(ok:(X.wish E).Ok):X.Ok :=
 ⟨ok.mod,ok.kind,ok.glob,ok.blt,ok.above,ok.inj,ok.has,ok.cab,ok.hd,ok.frames,ok.stk,ok.exf,ok.bs,ok.bsz,ok.noex,ok.exfs,ok.funs,ok.frf⟩
section
variable {X:Cx}{pins:List (Addr×Obj)}{σ:St}{H:Hp}{s:Shared}{E:Value→Shared→Prop}
theorem Inv.wish (I:Inv X pins σ H s)(E:Value→Shared→Prop):Inv (X.wish E) pins σ H s:=⟨I.ok.wish E,I.os,I.bare,I.base,I.loc,I.cell,I.free,I.freeC,I.pin,I.hok,I.len⟩
theorem Inv.unwish (I:Inv (X.wish E) pins σ H s):Inv X pins σ H s:=⟨I.ok.unwish,I.os,I.bare,I.base,I.loc,I.cell,I.free,I.freeC,I.pin,I.hok,I.len⟩
theorem SP.unwish {D:gl}{f:Flow}{s':Shared}(h:SP (X.wish E) pins D f s'):SP X pins D f s':=by
 cases f with
 | next=>obtain⟨σ',H',I,q⟩:=h;exact⟨σ',H',I.unwish,q⟩
 | brk=>obtain⟨σ',H',I,q⟩:=h;exact⟨σ',H',I.unwish,q⟩
 | cont=>obtain⟨σ',H',I,q⟩:=h;exact⟨σ',H',I.unwish,q⟩
 | ret u=>obtain⟨v,σ',H',I,r,q⟩:=h;exact⟨v,σ',H',I.unwish,r,q⟩
theorem PSs.nox {st:List Stmt}{t:TS}(h:PSs X.nox st t):PSs X st t:=fun pins s σ H D I hw =>
 wpAny_mono (h s σ H D (I.wish _) hw) (fun _ _ q=>q.unwish) fun _ _ z=>False.elim z
end
section
variable {X:Cx}{st:Stmt}{cO:List Stmt}{t u:TS}{e:Expr}{te:TE}{pos:Pos}
def u0:TS:=fun D σ H=>D.nx σ H
def xK (t u:TS):TS:=fun D σ H=>t { D with nx:=u D } σ H
theorem am:PSs X [] u0:=fun _ _ σ H _ I h=>wpAny_execs_nil ⟨σ,H,I,h⟩
theorem aN (h1:PS X st t)(h2:PSs X cO u):PSs X (st::cO) (xK t u):=by
 intro pins s σ H D I h;refine wpAny_execs_cons (thn (h1 s σ H { D with nx:=u D } I h) fun f s1 q=>?_)
 cases f with
 | next =>
   obtain⟨σ',H',I',q⟩:=q;exact h2 s1 σ' H' D I' q
 | ret v=>exact q
 | brk=>exact q
 | cont=>exact q
theorem ah (h1:PS X st t):PSs X [st] t:=by
 intro pins s σ H D I h;refine wpAny_execs_cons (thn (h1 s σ H D I h) fun f s1 q=>?_)
 cases f with
 | next=>exact wpAny_execs_nil q
 | ret v=>exact q
 | brk=>exact q
 | cont=>exact q
theorem Inv.quiet {pins:List (Addr×Obj)}{σ:St}{H:Hp}{s:Shared}(I:Inv X pins σ H s):interactive X.env=false:=by simp[interactive,I.ok.kind]
def v5 (te:TE):TS:=fun D σ H=>te σ H fun _ H1=>D.nx σ H1
theorem aM (he:PE X e te)(hs:swapsWith e none pos.line X.env=pure false:=by rfl):PS X (.Expr e pos) (v5 te):=by
 intro pins s σ H D I h;exact wpAny_Expr_any (thn (he s σ H _ I h) fun v s1 ⟨x,H1,I1,r1,q1⟩=>⟨σ,H1,I1,q1⟩) I.quiet hs
def x0 (te:TE):TS:=fun D σ H=>te σ H D.rt
theorem ap (he:PE X e te):PS X (.Return (some e) pos) (x0 te):=by
 intro pins s σ H D I h;exact wpAny_Return_some (thn (he s σ H _ I h) fun v s1 ⟨x,H1,I1,r1,q1⟩=>⟨x,σ,H1,I1,r1,q1⟩)
def vh (c:TT)(t u:TS):TS:=fun D σ H=>c σ H fun b H1=>if b=true then t D σ H1 else u D σ H1
theorem aC {c:Expr}{a b:List Stmt}{tc:TT}(hc:PT X c tc)(ha:PSs X a t)(hb:PSs X b u):PS X (.If c a b pos) (vh tc t u):=by
 intro pins s σ H D I h;refine wpAny_If (thn (hc s σ H _ I h) fun d s1 ⟨H1,I1,q1⟩=>?_)
 cases d with
 | true=>exact ha s1 σ H1 D I1 q1
 | false=>exact hb s1 σ H1 D I1 q1
def yE:TS:=fun _ _ _=>False
theorem cE {sts:List Stmt}:PSs X sts yE:=fun _ _ _ _ _ _ h=>h.elim
end
abbrev TG:=V→St→Hp→(St→Hp→Prop)→Prop
abbrev TGs:=List V→St→Hp→(St→Hp→Prop)→Prop
def PG (X:Cx)(target:Expr)(t:TG):Prop :=
 ∀ ⦃pins:List (Addr×Obj)⦄ (s:Shared) (σ:St)(H:Hp) (v:V) (u:Value)(Q:St→Hp→Prop),Inv X pins σ H s→bd v u→t v σ H Q →
   wpAny (model X.prog X.w) X.A (assign target X.env u) (fun _ s'=>∃ σ' H',Inv X pins σ' H' s'∧Q σ' H') X.xe s
def PGs (X:Cx)(ts:List Expr)(t:TGs):Prop :=
 ∀ ⦃pins:List (Addr×Obj)⦄ (s:Shared) (σ:St)(H:Hp)(vs:List V)(us:List Value)(Q:St→Hp→Prop),Inv X pins σ H s→Vals vs us→t vs σ H Q →
   wpAny (model X.prog X.w) X.A (assignInOrder ((assignEach ts X.env).map (·.2)) us) (fun _ s'=>∃ σ' H',Inv X pins σ' H' s'∧Q σ' H') X.xe s
abbrev yi:=V→V→V→Hp→(Hp→Prop)→Prop
def zn (X:Cx)(t:yi):Prop :=
 ∀ (pins:List (Addr×Obj))(s:Shared) (σ:St)(H:Hp) (o i v:V) (ov iv u:Value)(Q:Hp→Prop),Inv X pins σ H s→bd o ov→bd i iv→bd v u→t o i v H Q →
   wpAny (model X.prog X.w) X.A (setItem ov iv u) (fun _ s'=>∃ H',Inv X pins σ H' s'∧Q H') X.xe s
abbrev TIp:=V→V→Hp→VK→Prop
section
variable {X:Cx}{pos:Pos}
def bB (i:Nat):TG:=fun v σ H Q=>Q (σ.set i (some v)) H
theorem rG {i:Nat}{x:Str}(hN:X.N.Nodup)(hi:X.N[i]?=some x)(hx:Loc X.env.scope x)(hf:X.fn x=true∨X.env.scope.names.lookup x=some .local:=by first | exact .inl rfl | exact .inr rfl | assumption):PG X (.Name x pos) (bB i):=by
 intro pins s σ H v u Q I r h;exact wpAny_assign_Name (kg I hN hi hx r (fun s' I'=>⟨_,H,I',h⟩) hf)
def iO:TGs:=fun vs σ H Q=>vs=[]∧Q σ H
def bO (t:TG)(u:TGs):TGs:=fun vs σ H Q=>∃ v r,vs=v::r∧t v σ H fun σ' H'=>u r σ' H' Q
theorem bT:PGs X [] iO:=by
 intro pins s σ H vs us Q I r h;obtain⟨e,h⟩:=h;subst e;cases r;exact assignInOrder_nil ⟨σ,H,I,h⟩
theorem aH {e:Expr}{es:List Expr}{t:TG}{u:TGs}(h1:PG X e t)(h2:PGs X es u)
   (hs:(assignEach (e::es) X.env).map (·.2)=assign e X.env::(assignEach es X.env).map (·.2):=by rfl):PGs X (e::es) (bO t u):=by
 intro pins s σ H vs us Q I r h;obtain⟨v,vr,e1,h⟩:=h;subst e1
 cases r with
 | cons r rr =>
   rw[hs];refine assignInOrder_cons (thn (h1 s σ H _ _ _ I r h) fun _ s1 ⟨σ1,H1,I1,q1⟩=>?_);exact h2 s1 σ1 H1 _ _ Q I1 rr q1
def kx (K:PySem.W.Frag) (n:Nat)(t:TGs):TG:=fun v σ H Q=>∃ a xs,v=.ref a∧SqT K H a xs∧xs.length=n∧t xs σ H Q
theorem cz {es:List Expr}{k:Nat}{t:TGs}{n:Nat}(hc:X.calm=true)(h:PGs X es t)
   (hn:(assignEach es X.env).length=n:=by rfl)(hst:(assignEach es X.env).findIdx? (·.1)=none:=by rfl):PG X (.Tuple es k pos) (kx X.K n t):=by
 intro pins s σ H v u Q I r hw;obtain⟨a,xs,e1,hq,hl,hw⟩:=hw;subst e1;cases r;obtain⟨its,rv,ht,hz⟩:=I.tuple hq;refine assign_Tuple_tuple (I.ok.hd hc) ht (by simp[hn,←hl,rv.length]) hst fun h' hx=>?_;have I1:Inv X pins σ H { s with heap:=h' }:=I.kept (t':=s.toks) fun b o e=>hx b o (Ak (Heap.lt_size e)) e;exact h _ σ H xs _ Q I1 (by simpa using rv) hw
def yF (to ti:TE)(t:yi):TG:=fun v σ H Q=>to σ H fun o H1=>ti σ H1 fun i H2=>t o i v H2 fun H3=>Q σ H3
theorem pj {o i:Expr}{to ti:TE}{t:yi}(ho:PE X o to)(hi:PE X i ti)(hs:zn X t)
   (ha:∀ v,assign (.Subscript o i pos) X.env v=(do
     let ov ←holding [v] (eval o X.env)
     let iv ←holding [v,ov] (eval i X.env)
     standAt pos
     holding [v,ov,iv] (setItem ov iv v)
     release [v,ov,iv] []):=by intro _;rfl):PG X (.Subscript o i pos) (yF to ti t):=by
 intro pins s σ H v u Q I r h;rw[ha];refine wpAny_bind (wpAny_holding (thn (ho s σ H _ I h) fun ov s1 ⟨x,H1,I1,r1,q1⟩=>?_));refine wpAny_bind (wpAny_holding (thn (hi s1 σ H1 _ I1 q1) fun iv s2 ⟨y,H2,I2,r2,q2⟩=>?_));refine wpAny_bind (wpAny_standAt (wpAny_bind (wpAny_holding (thn (hs pins s2 σ H2 x y v ov iv u _ I2 r1 r2 r q2) fun _ s3 ⟨H3,I3,q3⟩=>?_))));exact wpAny_release ⟨σ,H3,I3,q3⟩
def p8 (te:TE)(g:TG):TS:=fun D σ H=>te σ H fun x H1=>g x σ H1 D.nx
theorem mJ {tg e:Expr}{te:TE}{g:TG}(he:PE X e te)(hg:PG X tg g)(hs:swapsWithSole [tg] e pos.line X.env=pure false:=by rfl)(hw:swappedStores [tg] e X.env=pure none:=by rfl)
   (h1:(assignEach [tg] X.env).map (·.2)=[assign tg X.env]:=by rfl):PS X (.Assign [tg] e pos) (p8 te g):=by
 intro pins s σ H D I h;refine wpAny_Assign_stores (thn (he s σ H _ I h) fun v s1 ⟨x,H1,I1,r1,q1⟩=>?_) hs hw;rw[h1];exact thn (hg s1 σ H1 x v _ I1 r1 q1) fun _ s2 q=>q
theorem mo {i:Nat}{x:Str}{e:Expr}{te:TE}{pos':Pos}(hN:X.N.Nodup)(hi:X.N[i]?=some x)(hx:Loc X.env.scope x)(he:PE X e te)(hs:swapsWith e (some (.Name x pos')) pos.line X.env=pure false:=by rfl)(hf:X.fn x=true∨X.env.scope.names.lookup x=some .local:=by first | exact .inl rfl | exact .inr rfl | assumption) :
   PS X (.Assign [.Name x pos'] e pos) (p8 te (bB i)):=by
 intro pins s σ H D I h;refine wpAny_Assign_Name (thn (he s σ H _ I h) fun v s1 ⟨y,H1,I1,r1,q1⟩=>?_) hs;exact kg I1 hN hi hx r1 (fun s2 I2=>⟨_,H1,I2,q1⟩) hf
def zC (i:Nat)(te:TE)(ti:TIp):TS:=fun D σ H=>∃ x,σ[i]?=some (some x)∧te σ H fun y H1=>ti x y H1 fun z H2=>D.nx (σ.set i (some z)) H2
def ipI (f:Int→Int→Int):TIp:=fun x y H Q=>∃ i j,x=.int i∧y=.int j∧Q (.int (f i j)) H
end
section
variable {X:Cx}{pos:Pos}
def xV (c:TT)(tb:TS):TS:=fun D σ H=>∃ W:Nat→St→Hp→Prop,(∃ m,W m σ H)∧∀ m σ H,W m σ H →
 c σ H fun b H1=>if b=true then ∃ N:St→Hp→Prop,(∀ σ' H',N σ' H'→∃ m',m' < m∧W m' σ' H')∧tb { D with nx:=N,ct:=N,bk:=D.nx } σ H1 else D.nx σ H1
theorem uc {c:Expr}{body:List Stmt}{tc:TT}{tb:TS}(hp:PassesOwn (model X.prog X.w) X.A X.env X.xe)(hc:PT X c tc)(hb:PSs X body tb):PS X (.While c body [] pos) (xV tc tb):=by
 intro pins s σ H D I h;obtain⟨W,⟨m0,w0⟩,turn⟩:=h;refine wpAny_While (codeAny_whileLoop (fun n s'=>∃ σ' H',Inv X pins σ' H' s'∧W n σ' H') ?_ m0 ⟨σ,H,I,w0⟩);rintro n s1 ⟨σ1,H1,I1,w1⟩;refine wpAny_passesOwn hp (thn (hc s1 σ1 H1 _ I1 (turn n σ1 H1 w1)) fun b s2 ⟨H2,I2,q2⟩=>?_)
 cases b with
 | true =>
   obtain⟨N,hN,q2⟩:=q2;rw[if_pos rfl];refine wpAny_passesOwn hp (thn (hb s2 σ1 H2 _ I2 q2) fun f s3 q3=>?_)
   cases f with
   | next =>
     obtain⟨σ3,H3,I3,n3⟩:=q3;obtain⟨m',hm,w3⟩:=hN σ3 H3 n3;exact⟨m',hm,σ3,H3,I3,w3⟩
   | cont =>
     obtain⟨σ3,H3,I3,n3⟩:=q3;obtain⟨m',hm,w3⟩:=hN σ3 H3 n3;exact⟨m',hm,σ3,H3,I3,w3⟩
   | brk=>exact q3
   | ret v=>exact q3
 | false =>
   rw[if_neg Bool.false_ne_true];exact wpAny_execs_nil ⟨σ1,H2,I2,q2⟩
end
structure It where
 go:Nat→Hp→Prop
 yld:Nat→Hp→V→Hp→Prop
 stop:Nat→Hp→Prop
def ff (X:Cx)(pins:List (Addr×Obj))(H:Hp)(b:Addr):Prop :=
 H b=none∧b≠X.env.locals∧b∉X.fs∧(b∈X.ex∨X.s₀.heap.objs.size≤b)∧(∀ x c,X.env.cells.lookup x=some c→c≠b)∧∀ p∈X.pn++pins,p.1≠b
theorem Inv.fpOk {X:Cx}{pins:List (Addr×Obj)}{σ:St}{H H':Hp}{s:Shared}{b:Addr}(I:Inv X pins σ H s)(hb:s.heap.objs.size≤b)(hn:H' b=none):ff X pins H' b:=by
 refine⟨hn,BX (Am I.lt hb),I.nofs hb,.inr (AO I.sz hb),fun x c e z=>?_,fun p hp z=>?_⟩
 . obtain⟨v,q⟩:=I.cell x c e;exact absurd (Am q.lt (by rw[z];exact hb)) (Bp _)
 . exact absurd (Am (Heap.lt_size (I.pin p hp).1) (by rw[z];exact hb)) (Bp _)
structure oj (P:Program)(w:World)(K:PySem.W.Frag)(tg:Expr)(J:It)(fp:List Addr)(it:Addr)(tn:Nat→Heap→Prop):Prop where
 mem:it∈fp
 obj:∀ i h,tn i h→∀ b∈fp,∃ o,h.get? b=some o∧∀ v,o.data≠.cell v
 keep:∀ i h h',tn i h→(∀ b∈fp,∀ o,h.get? b=some o→h'.get? b=some o)→tn i h'
 item:∀ (X:Cx),X.prog=P→X.w=w→X.K=K→X.calm=true→∀ (i:Nat)(pins:List (Addr×Obj))(s:Shared) (σ:St)(H:Hp)(E:Value→Shared→Prop),Inv X pins σ H s→(∀ b∈fp,ff X pins H b)→tn i s.heap→J.go i H →
   wpAny (model P w) X.A (pyNext (.ref it)) (fun r s1=>∃ u,r=some u ∧
     wpAny (model P w) X.A (letOwnedTupleGo tg (.ref it) u) (fun _ s2=>∃ x H',Inv X pins σ H' s2∧bd x u∧J.yld i H x H'∧tn (i+1) s2.heap∧∀ b∈fp,H' b=none) E s1) E s
 done:∀ (X:Cx),X.prog=P→X.w=w→X.K=K→X.calm=true→∀ (i:Nat)(pins:List (Addr×Obj))(s:Shared) (σ:St)(H:Hp)(E:Value→Shared→Prop),Inv X pins σ H s→(∀ b∈fp,ff X pins H b)→tn i s.heap→J.stop i H →
   wpAny (model P w) X.A (pyNext (.ref it)) (fun r s1=>r=none∧Inv X pins σ H s1) E s
 self:∀ (A:Around) (i:Nat)(s:Shared)(Q:Value→Shared→Prop)(E:Value→Shared→Prop),tn i s.heap→Q (.ref it) s→wpAny (model P w) A (pyIter (.ref it)) Q E s
abbrev TI:=St→Hp→(It→Hp→Prop)→Prop
def PIE (X:Cx)(pins:List (Addr×Obj)) (σ:St)(tg:Expr)(R:It→Hp→Prop) (itv:Value)(s2:Shared):Prop :=
 ∃ (it:Addr)(fp:List Addr)(tn:Nat→Heap→Prop)(J:It)(H':Hp),itv=.ref it∧Inv X pins σ H' s2∧oj X.prog X.w X.K tg J fp it tn∧tn 0 s2.heap∧(∀ b∈fp,ff X pins H' b)∧R J H'
def PI (X:Cx)(tg iter:Expr)(wi:TI):Prop :=
 ∀ ⦃pins:List (Addr×Obj)⦄ (s:Shared) (σ:St)(H:Hp)(R:It→Hp→Prop),Inv X pins σ H s→wi σ H R →
   wpAny (model X.prog X.w) X.A (eval iter X.env) (fun v s1=>wpAny (model X.prog X.w) X.A (pyIter v) (PIE X pins σ tg R) X.xe s1) X.xe s
theorem oW {M:Model}{A:Around}{E:Value→Shared→Prop}{s:Shared}{tg:Expr}{it:Addr}{u:Value}{o:Obj}{n:String}{vs:Array Value}{Q:Unit→Shared→Prop}(ho:s.heap.get? it=some o)(hc:o.cls=.type n)(hd:o.data=.fields vs)
   (hn:["enumerate", "zip", "dict_itemiterator", "dict_reverseitemiterator", "odict_iterator", "itertools.zip_longest", "itertools.pairwise"].contains n=false)(hQ:Q () s):wpAny M A (letOwnedTupleGo tg (.ref it) u) Q E s:=by
 unfold letOwnedTupleGo
 cases tg<;>first
   | exact wpAny_pure hQ
   | (cases u<;>first
       | exact wpAny_pure hQ
       | (refine wpAny_bind (wpAny_load ho ?_)
          rw[hc,hd];show wpAny M A (if(["enumerate", "zip", "dict_itemiterator", "dict_reverseitemiterator", "odict_iterator", "itertools.zip_longest", "itertools.pairwise"].contains n&&vs[0]?==some (rawInt _))=true then _ else _) Q E s;rw[if_neg (by intro h;rw[hn,Bool.false_and] at h;cases h)]
          exact wpAny_pure hQ))
def Itl (K:PySem.W.Frag)(a:Addr):It :=
 ⟨fun i H=>∃ xs x,SqL K H a xs∧xs[i]?=some x,fun i H x H'=>H'=H∧∀ xs,SqL K H a xs→xs[i]?=some x,fun i H=>∃ xs,SqL K H a xs∧xs.length≤i⟩
def Itt (K:PySem.W.Frag)(a:Addr):It :=
 ⟨fun i H=>∃ xs x,SqT K H a xs∧xs[i]?=some x,fun i H x H'=>H'=H∧∀ xs,SqT K H a xs→xs[i]?=some x,fun i H=>∃ xs,SqT K H a xs∧xs.length≤i⟩
def Itr (lo:Int) (n:Nat):It:=⟨fun i _=>i < n,fun i H x H'=>H'=H∧x=.int (lo+i),fun i _=>n≤i⟩
theorem tG {P:Program}{w:World}{K:PySem.W.Frag}{tg:Expr}(a it:Addr):oj P w K tg (Itl K a) [it] it (fun i h=>h.IsListIter it a i) where
 mem:=by simp
 obj:=fun i h st b hb=>by
   have e:b=it:=by simpa using hb
   subst e;obtain⟨o,e,c,d⟩:=st;exact⟨o,e,fun v z=>by rw[d] at z;cases z⟩
 keep:=fun i h h' st k=>st.at fun o e=>k it (by simp) o e
 item:=by
   intro X hP hw hK hc i pins s σ H E I hf st hg;subst hP hw hK;obtain⟨xs,x,hq,hx⟩:=hg;obtain⟨its,rv,p,hz⟩:=I.list hq;obtain⟨u,hu,ru⟩:=rv.get hx;obtain⟨f0,f1,f2,f3,f4,f5⟩:=hf it (by simp);refine wpAny_pyNext_list_item st p.isList (x:=u) (by simpa using hu) fun h' st' sb=>?_;have I1:Inv X pins σ H { s with heap:=h' }:=I.turned (t':=s.toks) (fun b o hb e=>(sb.2 b hb).trans e) f0 f1 f3 f4 f5;obtain⟨o,e,c,d⟩:=id st';exact⟨u,rfl,oW (s:={ s with heap:=h' }) e c d (by decide) ⟨x,H,I1,ru,⟨rfl,fun ys hy=>by rw[I.list_inj hy hq];exact hx⟩,st',fun b hb=>(hf b hb).1⟩⟩
 done:=by
   intro X hP hw hK hc i pins s σ H E I hf st hg;subst hP hw hK;obtain⟨xs,hq,hx⟩:=hg;obtain⟨its,rv,p,hz⟩:=I.list hq;obtain⟨f0,f1,f2,f3,f4,f5⟩:=hf it (by simp);have hl:=rv.length;exact wpAny_pyNext_list_end (I.ok.hd hc) st p.isList (by simp;omega) fun h' eb=>⟨rfl,I.turned (t':=s.toks) (fun b o hb e=>eb b o hb e) f0 f1 f3 f4 f5⟩
 self:=fun _ _ _ _ _ st h=>wpAny_pyIter_listiter st h
theorem pZ {P:Program}{w:World}{K:PySem.W.Frag}{tg:Expr}(a it:Addr):oj P w K tg (Itt K a) [it] it (fun i h=>h.IsTupleIter it a i) where
 mem:=by simp
 obj:=fun i h st b hb=>by
   have e:b=it:=by simpa using hb
   subst e;obtain⟨o,e,c,d⟩:=st;exact⟨o,e,fun v z=>by rw[d] at z;cases z⟩
 keep:=fun i h h' st k=>st.at fun o e=>k it (by simp) o e
 item:=by
   intro X hP hw hK hc i pins s σ H E I hf st hg;subst hP hw hK;obtain⟨xs,x,hq,hx⟩:=hg;obtain⟨its,rv,p,hz⟩:=I.tuple hq;obtain⟨u,hu,ru⟩:=rv.get hx;obtain⟨f0,f1,f2,f3,f4,f5⟩:=hf it (by simp);refine wpAny_pyNext_tuple_item st (show s.heap.IsTuple a its.toArray from p) (x:=u) (by simpa using hu) fun h' st' sb=>?_;have I1:Inv X pins σ H { s with heap:=h' }:=I.turned (t':=s.toks) (fun b o hb e=>(sb.2 b hb).trans e) f0 f1 f3 f4 f5;obtain⟨o,e,c,d⟩:=id st';exact⟨u,rfl,oW (s:={ s with heap:=h' }) e c d (by decide) ⟨x,H,I1,ru,⟨rfl,fun ys hy=>by rw[I.tuple_inj hy hq];exact hx⟩,st',fun b hb=>(hf b hb).1⟩⟩
 done:=by
   intro X hP hw hK hc i pins s σ H E I hf st hg;subst hP hw hK;obtain⟨xs,hq,hx⟩:=hg;obtain⟨its,rv,p,hz⟩:=I.tuple hq;obtain⟨f0,f1,f2,f3,f4,f5⟩:=hf it (by simp);have hl:=rv.length;exact wpAny_pyNext_tuple_end (I.ok.hd hc) st (show s.heap.IsTuple a its.toArray from p) (by simp;omega) fun h' eb=>⟨rfl,I.turned (t':=s.toks) (fun b o hb e=>eb b o hb e) f0 f1 f3 f4 f5⟩
 self:=fun _ _ _ _ _ st h=>wpAny_pyIter_tupleiter st h
theorem qC {P:Program}{w:World}{K:PySem.W.Frag}{tg:Expr}(it:Addr) (lo:Int) (n:Nat):oj P w K tg (Itr lo n) [it] it (fun i h=>IsRangeIter h it (lo+(i:Nat)*1) ((n:Int) - (i:Nat)) 1) where
 mem:=by simp
 obj:=fun i h st b hb=>by
   have e:b=it:=by simpa using hb
   subst e
   exact⟨_,st,fun v z=>by
     have z':Data.fields _=Data.cell v:=z
     cases z'⟩
 keep:=fun i h h' st k=>k it (by simp) _ st
 item:=by
   intro X hP hw hK hc i pins s σ H E I hf st hg;subst hP hw hK;obtain⟨f0,f1,f2,f3,f4,f5⟩:=hf it (by simp);have W:=Walks.range (prog:=X.prog) (w:=X.w) (I.ok.hd hc) it lo 1 n;refine W.item i s _ _ hg st fun v h' tk hv st' kk=>?_;obtain⟨t,rfl⟩:=hv;have I1:Inv X pins σ H { s with heap:=h',toks:=tk }:=I.turned (fun b o hb e=>kk b o (by simpa using hb) e) f0 f1 f3 f4 f5;refine⟨_,rfl,oW (s:={ s with heap:=h',toks:=tk }) (n:="range_iterator") st' rfl rfl (by decide) ⟨.int (lo+i),H,I1,⟨t,?_⟩,⟨rfl,rfl⟩,st',fun b hb=>(hf b hb).1⟩⟩;rw[Int.mul_one]
 done:=by
   intro X hP hw hK hc i pins s σ H E I hf st hg;subst hP hw hK;obtain⟨f0,f1,f2,f3,f4,f5⟩:=hf it (by simp);exact wpAny_pyNext_range_end (I.ok.hd hc) st (by have:n≤i:=hg;omega) fun h' eb=>⟨rfl,I.turned (t':=s.toks) (fun b o hb e=>eb b o hb e) f0 f1 f3 f4 f5⟩
 self:=fun _ _ _ _ _ st h=>wpAny_pyIter_rangeiter st h
section
variable {X:Cx}{tg:Expr}
def wk (K:PySem.W.Frag)(tl:TE):TI:=fun σ H R=>tl σ H fun x H1=>∃ a,x=.ref a∧(∃ xs,SqL K H1 a xs)∧R (Itl K a) H1
def yn (K:PySem.W.Frag)(tl:TE):TI:=fun σ H R=>tl σ H fun x H1=>∃ a,x=.ref a∧(∃ xs,SqT K H1 a xs)∧R (Itt K a) H1
theorem aY {l:Expr}{tl:TE}(hl:PE X l tl):PI X tg l (wk X.K tl):=by
 intro pins s σ H R I h;refine thn (hl s σ H _ I h) fun v s1 ⟨x,H1,I1,r1,q1⟩=>?_;obtain⟨a,e,⟨xs,hq⟩,q⟩:=q1;subst e;cases r1;obtain⟨its,rv,p,hz⟩:=I1.list hq;refine wpAny_pyIter_list p.isList ?_;refine⟨s1.heap.objs.size,[s1.heap.objs.size],_,_,H1,rfl,I1.kept (t':=s1.toks) fun b o e=>Heap.get?_push_of_some _ e,tG a _,⟨_,Heap.get?_push_size _ rfl,rfl,rfl⟩,fun b hb=>?_,q⟩
 have e:b=s1.heap.objs.size:=by simpa using hb
 subst e;exact I1.fpOk (z7 _) (I1.hok.fresh (z7 _))
theorem yu {l:Expr}{tl:TE}(hl:PE X l tl):PI X tg l (yn X.K tl):=by
 intro pins s σ H R I h;refine thn (hl s σ H _ I h) fun v s1 ⟨x,H1,I1,r1,q1⟩=>?_;obtain⟨a,e,⟨xs,hq⟩,q⟩:=q1;subst e;cases r1;obtain⟨its,rv,p,hz⟩:=I1.tuple hq;refine wpAny_pyIter_tuple (show s1.heap.IsTuple a its.toArray from p) ?_;refine⟨s1.heap.objs.size,[s1.heap.objs.size],_,_,H1,rfl,I1.kept (t':=s1.toks) fun b o e=>Heap.get?_push_of_some _ e,pZ a _,⟨_,Heap.get?_push_size _ rfl,rfl,rfl⟩,fun b hb=>?_,q⟩
 have e:b=s1.heap.objs.size:=by simpa using hb
 subst e;exact I1.fpOk (z7 _) (I1.hok.fresh (z7 _))
theorem uD {pins:List (Addr×Obj)}{σ:St}{H:Hp}{s:Shared}{R:It→Hp→Prop}{E:Value→Shared→Prop}{lo hi:Int}{t u v:Tok}{tk:Nat}(I:Inv X pins σ H s)(h1:-(2 ^ 62)≤lo)(h2:lo < 2 ^ 62)(h3:-(2 ^ 62)≤hi)(h4:hi < 2 ^ 62)
   (q:R (Itr lo (hi - lo).toNat) H):wpAny (model X.prog X.w) X.A (pyIter (.ref s.heap.objs.size)) (PIE X pins σ tg R) E { s with heap:=s.heap.push { cls:=.type "range",data:=.fields #[.int lo t,.int hi u,.int 1 v] },toks:=tk }:=by
 refine wpAny_pyIter_range (IsRange.new ..) (small_one h1 h2 h3 h4) ?_;have I1:Inv X pins σ H { s with heap:=s.heap.push { cls:=.type "range",data:=.fields #[.int lo t,.int hi u,.int 1 v] },toks:=tk }:=I.kept fun b o e=>Heap.get?_push_of_some _ e
 refine⟨(s.heap.push { cls:=.type "range",data:=.fields #[.int lo t,.int hi u,.int 1 v] }).objs.size,[(s.heap.push { cls:=.type "range",data:=.fields #[.int lo t,.int hi u,.int 1 v] }).objs.size],_,_,H,rfl,
   I1.kept (t':=tk) fun b o e=>Heap.get?_push_of_some _ e,qC _ lo (hi - lo).toNat,?_,fun b hb=>?_,q⟩
 . have e1:lo+((0:Nat):Int)*1=lo:=by simp
   have e2:(((hi - lo).toNat:Nat):Int) - ((0:Nat):Int)=Builtin.Range.rangeSize lo hi 1:=by rw[rangeSize_one];split<;>omega
   show IsRangeIter _ _ (lo+((0:Nat):Int)*1) ((((hi - lo).toNat:Nat):Int) - ((0:Nat):Int)) 1;rw[e1,e2];exact Heap.get?_push_size _ rfl
 . have e:b=(s.heap.push { cls:=.type "range",data:=.fields #[.int lo t,.int hi u,.int 1 v] }).objs.size:=by simpa using hb
   subst e;exact I1.fpOk (z7 _) (I1.hok.fresh (z7 _))
def wa (ta:TA):TI:=fun σ H R=>ta σ H fun vs H1=>∃ j:Int,vs=[.int j]∧-(2 ^ 62)≤j∧j < 2 ^ 62∧R (Itr 0 j.toNat) H1
def xB (ta:TA):TI:=fun σ H R=>ta σ H fun vs H1=>∃ i j:Int,vs=[.int i,.int j]∧(-(2 ^ 62)≤i∧i < 2 ^ 62∧-(2 ^ 62)≤j∧j < 2 ^ 62)∧R (Itr i (j - i).toNat) H1
theorem cb {a:Expr}{ta:TA}{p pos:Pos}(hg:Gl X "range")(hm:X.mg "range"=none)(ha:PA X [a] ta)(hs:starEach [a] X.env=[(false,eval a X.env)]:=by rfl):PI X tg (.Call (.Name "range" p) [a] [] pos) (wa ta):=by
 intro pins s σ H R I h;refine Call_ (iH I hg hm boot_range (Bo (thn (ha pos s σ H _ I h) fun us s1 ⟨vs,H1,I1,r1,q1⟩=>?_) hs rfl));obtain⟨j,e,q1,q2,q⟩:=q1;subst e
 cases r1 with
 | cons r rr =>
   cases rr;obtain⟨t,rfl⟩:=r;exact call_range_1 (uD I1 (by omega) (by omega) q1 q2 (by simpa using q))
def zd (wi:TI)(g:TG)(tb:TS):TS:=fun D σ H=>wi σ H fun J H1=>∃ W:Nat→Nat→St→Hp→Prop,(∃ m,W 0 m σ H1)∧∀ i m σ H,W i m σ H →
 (J.stop i H∧D.nx σ H)∨(J.go i H∧∃ N:St→Hp→Prop,(∀ σ' H',N σ' H'→∃ m',m' < m∧W (i+1) m' σ' H')∧∀ x H',J.yld i H x H'→g x σ H' fun σ2 H2=>tb { D with nx:=N,ct:=N,bk:=D.nx } σ2 H2)
def jS (fp:List Addr)(h:Heap):List (Addr×Obj):=fp.filterMap fun b=>(h.get? b).map fun o=>(b,o)
theorem dt {fp:List Addr}{h:Heap}{b:Addr}{o:Obj}(hb:b∈fp)(e:h.get? b=some o):(b,o)∈jS fp h:=List.mem_filterMap.mpr ⟨b,hb,by rw[e];rfl⟩
theorem tU {fp:List Addr}{h:Heap}{p:Addr×Obj}(hp:p∈jS fp h):p.1∈fp∧h.get? p.1=some p.2:=by
 obtain⟨b,hb,e⟩:=List.mem_filterMap.mp hp
 cases q:h.get? b with
 | none=>rw[q] at e;cases e
 | some o =>
   rw[q] at e;have e':(b,o)=p:=Option.some.inj e;subst e';exact⟨hb,q⟩
theorem Inv.pinned {pins:List (Addr×Obj)}{σ:St}{H:Hp}{s:Shared}{fp:List Addr}(I:Inv X pins σ H s)(hf:∀ b∈fp,ff X pins H b)(ho:∀ b∈fp,∃ o,s.heap.get? b=some o∧∀ v,o.data≠.cell v):Inv X (pins++jS fp s.heap) σ H s :=
 I.pins_of fun p hp=>(List.mem_append.mp hp).elim (fun z=>I.pin p (Aq _ z)) fun z=>by
   obtain⟨hb,e⟩:=tU z;obtain⟨f0,f1,f2,_⟩:=hf p.1 hb;obtain⟨o,e',d⟩:=ho p.1 hb;rw[e] at e';cases e';exact⟨e,f0,f1,f2,d⟩
theorem Inv.unpinned {pins pl:List (Addr×Obj)}{σ:St}{H:Hp}{s:Shared}(I:Inv X (pins++pl) σ H s):Inv X pins σ H s:=I.pins_of fun p hp=>I.pin p (Aq _ (A8 _ hp))
theorem bq {iter:Expr}{body:List Stmt}{wi:TI}{g:TG}{tb:TS}{pos:Pos}(hp:PassesOwn (model X.prog X.w) X.A X.env X.xe)(hc:X.calm=true)(hi:PI X tg iter wi)(hg:PG X tg g)(hb:PSs X body tb)
   (hs:∀ x,foldedSetIterable iter X.env x=pure x:=by intro _;rfl):PS X (.For tg iter body [] pos) (zd wi g tb):=by
 intro pins s σ H D I h;refine wpAny_For (thn (hi s σ H _ I h) fun v s1 h1=>thn h1 fun itv s2 h2=>?_) hs;obtain⟨it,fp,tn,J,H2,e,I2,T,st2,f2,W,⟨m0,w0⟩,turn⟩:=h2;subst e;have stat:∀ {H':Hp},(∀ b∈fp,H' b=none)→∀ b∈fp,ff X pins H' b:=fun hn b hb=>⟨hn b hb,(f2 b hb).2⟩;refine codeAny_forLoop_any (fun n s'=>∃ i σ' H',Inv X pins σ' H' s'∧tn i s'.heap∧(∀ b∈fp,H' b=none)∧W i n σ' H') ?_ m0 ⟨0,σ,H2,I2,st2,fun b hb=>(f2 b hb).1,w0⟩;rintro n s3 ⟨i,σ3,H3,I3,st3,fr3,w3⟩
 rcases turn i n σ3 H3 w3 with ⟨stop,qn⟩ | ⟨go,N,hN,step⟩
 . refine wpAny_passesOwn hp (thn (T.done X rfl rfl rfl hc i pins s3 σ3 H3 X.xe I3 (stat fr3) st3 stop) fun r s4 ⟨hr,I4⟩=>?_);subst hr;exact wpAny_execs_nil ⟨σ3,H3,I4,qn⟩
 . refine wpAny_passesOwn hp (thn (T.item X rfl rfl rfl hc i pins s3 σ3 H3 X.xe I3 (stat fr3) st3 go) fun r s4 ⟨u,hr,h4⟩=>?_);subst hr;refine wpAny_passesOwn hp (thn h4 fun _ s5 ⟨x,H5,I5,r5,y5,st5,fr5⟩=>?_);have I5':=I5.pinned (stat fr5) (T.obj _ _ st5);refine wpAny_passesOwn hp (thn (hg s5 σ3 H5 x u _ I5' r5 (step x H5 y5)) fun _ s6 ⟨σ6,H6,I6,q6⟩=>?_);refine wpAny_passesOwn hp (thn (hb s6 σ6 H6 _ I6 q6) fun f s7 q7=>?_)
   have again:∀ {σ7:St}{H7:Hp},Inv X (pins++jS fp s5.heap) σ7 H7 s7→N σ7 H7→∃ m,m < n∧∃ i σ' H',Inv X pins σ' H' s7∧tn i s7.heap∧(∀ b∈fp,H' b=none)∧W i m σ' H':=fun {σ7 H7} I7 n7=>by
     obtain⟨m',hm,w7⟩:=hN σ7 H7 n7;refine⟨m',hm,i+1,σ7,H7,I7.unpinned,T.keep _ _ _ st5 fun b hb o e=>(I7.pin (b,o) (Aq _ (Aq _ (dt hb e)))).1,fun b hb=>?_,w7⟩;obtain⟨o,e,d⟩:=T.obj _ _ st5 b hb;exact(I7.pin (b,o) (Aq _ (Aq _ (dt hb e)))).2.1
   cases f with
   | next=>obtain⟨σ7,H7,I7,n7⟩:=q7;exact again I7 n7
   | cont=>obtain⟨σ7,H7,I7,n7⟩:=q7;exact again I7 n7
   | brk=>obtain⟨σ7,H7,I7,q7⟩:=q7;exact⟨σ7,H7,I7.unpinned,q7⟩
   | ret v=>obtain⟨x7,σ7,H7,I7,r7,q7⟩:=q7;exact⟨x7,σ7,H7,I7.unpinned,r7,q7⟩
end
abbrev R2:=V→V→Hp→VK→Prop
def OpR (X:Cx)(f:Value→Value→Sem Value)(r:R2):Prop :=
 ∀ (pins:List (Addr×Obj))(s:Shared) (σ:St)(H:Hp) (x y:V) (v u:Value)(Q:VK),Inv X pins σ H s→bd x v→bd y u→r x y H Q →
   wpAny (model X.prog X.w) X.A (f v u) (EP X pins σ Q) X.xe s
def UnR (X:Cx)(f:Value→Sem Value)(r:V→Hp→VK→Prop):Prop :=
 ∀ (pins:List (Addr×Obj))(s:Shared) (σ:St)(H:Hp) (x:V) (v:Value)(Q:VK),Inv X pins σ H s→bd x v→r x H Q →
   wpAny (model X.prog X.w) X.A (f v) (EP X pins σ Q) X.xe s
def cw (X:Cx) (f:Value)(r:List V→Hp→VK→Prop):Prop :=
 ∀ (pins:List (Addr×Obj))(s:Shared) (σ:St)(H:Hp)(xs:List V)(us:List Value)(Q:VK),Inv X pins σ H s→Vals xs us→r xs H Q →
   wpAny (model X.prog X.w) X.A (call f us) (EP X pins σ Q) X.xe s
def tOp (r:R2)(ta tb:TE):TE:=fun σ H Q=>ta σ H fun x H1=>tb σ H1 fun y H2=>r x y H2 Q
def tUn (r:V→Hp→VK→Prop)(ta:TE):TE:=fun σ H Q=>ta σ H fun x H1=>r x H1 Q
def rI (C:Int→Int→Prop)(g:Int→Int→V):R2:=fun x y H Q=>isInt x fun i=>isInt y fun j=>C i j∧Q (g i j) H
def rI0 (g:Int→Int→V):R2:=fun x y H Q=>isInt x fun i=>isInt y fun j=>Q (g i j) H
def rU (g:Int→V):V→Hp→VK→Prop:=fun x H Q=>∃ i,x=.int i∧Q (g i) H
section
variable {X:Cx}{a b c:Expr}{ta tb tc:TE}{pos:Pos}
theorem ym (ha:PE X a ta)(hb:PE X b tb){pins:List (Addr×Obj)}{s:Shared}{σ:St}{H:Hp}{R:V→V→Hp→Prop}(I:Inv X pins σ H s)
   (h:ta σ H fun x H1=>tb σ H1 fun y H2=>R x y H2){Q:Value→Shared→Prop}{f:Value→Value→Sem Value}
   (hf:∀ v u s2 x y H2,Inv X pins σ H2 s2→bd x v→bd y u→R x y H2→wpAny (model X.prog X.w) X.A (f v u) Q X.xe s2) :
   wpAny (model X.prog X.w) X.A (eval a X.env) (fun v s₁=>wpAny (model X.prog X.w) X.A (eval b X.env) (fun u s₂=>wpAny (model X.prog X.w) X.A (f v u) Q X.xe s₂) X.xe s₁) X.xe s:=by
 refine thn (ha s σ H _ I h) fun v s1 ⟨x,H1,I1,r1,q1⟩=>?_;refine thn (hb s1 σ H1 _ I1 q1) fun u s2 ⟨y,H2,I2,r2,q2⟩=>?_;exact hf v u s2 x y H2 I2 r1 r2 q2
theorem aA {op:Operator}{r:R2}(ho:OpR X (binaryOp op) r)(ha:PE X a ta)(hb:PE X b tb):PE X (.BinOp a op b pos) (tOp r ta tb):=by
 intro pins s σ H Q I h;exact wpAny_BinOp (ym ha hb I h fun v u s2 x y H2 I2 rx ry q=>ho pins s2 σ H2 x y v u Q I2 rx ry q)
theorem d9 {op:UnaryOp}{r:V→Hp→VK→Prop}(ho:UnR X (unaryOp op) r)(ha:PE X a ta):PE X (.UnaryOp op a pos) (tUn r ta):=by
 intro pins s σ H Q I h;exact UnaryOp_ (thn (ha s σ H _ I h) fun v s1 ⟨x,H1,I1,r1,q1⟩=>ho pins s1 σ H1 x v Q I1 r1 q1)
theorem opI {f:Value→Value→Sem Value}{C:Int→Int→Prop}{g:Int→Int→Int}
   (rule:∀ (i j:Int)(t u:Tok)(s:Shared)(Q:Value→Shared→Prop)(E:Value→Shared→Prop),C i j→Q (.int (g i j) s.toks) { s with toks:=s.toks+1 }→wpAny (model X.prog X.w) X.A (f (.int i t) (.int j u)) Q E s) :
   OpR X f (rI C fun i j=>.int (g i j)):=by
 intro pins s σ H x y v u Q I rx ry h;rw[rI,da] at h;obtain⟨i,rfl,h⟩:=h;rw[da] at h;obtain⟨j,rfl,hc,q⟩:=h;obtain⟨t,rfl⟩:=rx;obtain⟨t',rfl⟩:=ry;exact rule i j t t' s _ _ hc ⟨.int (g i j),H,I.tok _,⟨_,rfl⟩,q⟩
theorem zq {f:Value→Value→Sem Value}{g:Int→Int→Int}
   (rule:∀ (i j:Int)(t u:Tok)(s:Shared)(Q:Value→Shared→Prop)(E:Value→Shared→Prop),Q (.int (g i j) s.toks) { s with toks:=s.toks+1 }→wpAny (model X.prog X.w) X.A (f (.int i t) (.int j u)) Q E s) :
   OpR X f (rI0 fun i j=>.int (g i j)):=by
 intro pins s σ H x y v u Q I rx ry h;rw[rI0,da] at h;obtain⟨i,rfl,h⟩:=h;rw[da] at h;obtain⟨j,rfl,q⟩:=h;obtain⟨t,rfl⟩:=rx;obtain⟨t',rfl⟩:=ry;exact rule i j t t' s _ _ ⟨.int (g i j),H,I.tok _,⟨_,rfl⟩,q⟩
theorem wP {f:Value→Value→Sem Value}{g:Int→Int→Bool}
   (rule:∀ (i j:Int)(t u:Tok)(s:Shared)(Q:Value→Shared→Prop)(E:Value→Shared→Prop),Q (.bool (g i j)) s→wpAny (model X.prog X.w) X.A (f (.int i t) (.int j u)) Q E s) :
   OpR X f (rI0 fun i j=>.bl (g i j)):=by
 intro pins s σ H x y v u Q I rx ry h;rw[rI0,da] at h;obtain⟨i,rfl,h⟩:=h;rw[da] at h;obtain⟨j,rfl,q⟩:=h;obtain⟨t,rfl⟩:=rx;obtain⟨t',rfl⟩:=ry;exact rule i j t t' s _ _ ⟨.bl (g i j),H,I,rfl,q⟩
def zI (i j:Int):Prop:=0 < j∧j < 1073741824
def yV (i j:Int):Prop:=0≤j∧j≤1000000∧i.natAbs < 2 ^ 64
def uG (i j:Int):Prop:=(-(2 ^ 64) < i∧i < 2 ^ 64)∨(-(2 ^ 64) < j∧j < 2 ^ 64)
theorem uG.ok {i j:Int}(h:uG i j):IntMulOk i j:=by
 rcases h with ⟨h1,h2⟩ | ⟨h1,h2⟩
 . exact .of_left (intBits_le_64 h1 h2)
 . exact .of_right (intBits_le_64 h1 h2)
theorem bU:OpR X (binaryOp .Add) (rI0 fun i j=>.int (i+j)):=zq fun _ _ _ _ _ _ _ q=>add_int q
theorem jL:OpR X (binaryOp .Sub) (rI0 fun i j=>.int (i - j)):=zq fun _ _ _ _ _ _ _ q=>sub_int q
theorem fY:OpR X (binaryOp .Mult) (rI uG fun i j=>.int (i*j)):=opI fun _ _ _ _ _ _ _ hc q=>mul_int q hc.ok
theorem a9:OpR X (binaryOp .Mod) (rI (fun _ j=>0 < j) fun i j=>.int (i % j)):=opI fun i j _ _ _ _ _ hc q=>by
 have h1:(0:Int) < j:=hc;exact mod_int' (by omega) (by rw[Int.fmod_eq_emod_of_nonneg i (by omega)];exact q)
theorem kI:OpR X (binaryOp .Pow) (rI yV fun i j=>.int (i ^ j.toNat)):=opI fun _ _ _ _ _ _ _ hc q=>pow_int_small hc.1 hc.2.1 hc.2.2 q
theorem unI {f:Value→Sem Value}{g:Int→Int}
   (rule:∀ (i:Int)(t:Tok)(s:Shared)(Q:Value→Shared→Prop)(E:Value→Shared→Prop),Q (.int (g i) s.toks) { s with toks:=s.toks+1 }→wpAny (model X.prog X.w) X.A (f (.int i t)) Q E s) :
   UnR X f (rU fun i=>.int (g i)):=by
 intro pins s σ H x v Q I rx h;obtain⟨i,rfl,q⟩:=h;obtain⟨t,rfl⟩:=rx;exact rule i t s _ _ ⟨.int (g i),H,I.tok _,⟨_,rfl⟩,q⟩
theorem cK:UnR X (unaryOp .USub) (rU fun i=>.int (-i)):=unI fun _ _ _ _ _ q=>neg_int q
end
def y8:V→V→Bool
 | .non,.non=>true | .non,.int _=>true | .int _,.non=>true | .non,.bl _=>true | .bl _,.non=>true | .non,.str _=>true | .str _,.non=>true
 | .int _,.int _=>true | .bl _,.bl _=>true | .str _,.str _=>true | .byt _,.byt _=>true
 | .int _,.str _=>true | .str _,.int _=>true | .bl _,.str _=>true | .str _,.bl _=>true
 | _,_=>false
def rEq:R2:=fun x y H Q=>y8 x y=true∧Q (.bl (decide (x=y))) H
def rNe:R2:=fun x y H Q=>y8 x y=true∧Q (.bl (!decide (x=y))) H
theorem rF {i j:Int}:decide (V.int i=V.int j)=(i==j):=by
 rw[Bool.eq_iff_iff];simp
theorem uY {i j:Bool}:decide (V.bl i=V.bl j)=(i==j):=by
 rw[Bool.eq_iff_iff];simp
theorem se {i j:Str}:decide (V.str i=V.str j)=(i==j):=by
 rw[Bool.eq_iff_iff];simp
theorem sr {i j:Array UInt8}:decide (V.byt i=V.byt j)=(i.toList==j.toList):=by
 rw[Bool.eq_iff_iff];cases i;cases j;simp
section
variable {X:Cx}{a b c:Expr}{ta tb tc:TE}{pos:Pos}
theorem bg {pins:List (Addr×Obj)}{σ:St}{H:Hp}{s:Shared}{Q:VK}{k k':Bool}(I:Inv X pins σ H s)(q:Q (.bl k) H)(e:k=k'):EP X pins σ Q (.bool k') s:=by
 subst e;exact⟨.bl k,H,I,rfl,q⟩
theorem bK:OpR X (compareOp .Eq) rEq:=by
 intro pins s σ H x y v u Q I rx ry h;obtain⟨hs,q⟩:=h
 cases x with
 | non =>
   cases rx
   cases y with
   | non=>cases ry;exact PySem.EqNone.eq_none_none (bg I q (by simp))
   | bl j=>cases ry;exact PySem.EqNone.eq_none_bool (bg I q (by simp))
   | int j=>obtain⟨t',rfl⟩:=ry;exact PySem.EqNone.eq_none_int (bg I q (by simp))
   | str j=>obtain⟨t',rfl⟩:=ry;exact PySem.EqNone.eq_none_str (bg I q (by simp))
   | _=>exact absurd (show false=true from hs) Bool.false_ne_true
 | bl i =>
   cases rx
   cases y with
   | non=>cases ry;exact PySem.EqNone.eq_bool_none (bg I q (by simp))
   | bl j=>cases ry;exact eq_bool (bg I q uY)
   | str j=>obtain⟨t',rfl⟩:=ry;exact PySem.EqMixed.eq_bool_str (bg I q (by simp))
   | _=>exact absurd (show false=true from hs) Bool.false_ne_true
 | int i =>
   obtain⟨t,rfl⟩:=rx
   cases y with
   | non=>cases ry;exact PySem.EqNone.eq_int_none (bg I q (by simp))
   | int j=>obtain⟨t',rfl⟩:=ry;exact eq_int (bg I q rF)
   | str j=>obtain⟨t',rfl⟩:=ry;exact PySem.EqMixed.eq_int_str (bg I q (by simp))
   | _=>exact absurd (show false=true from hs) Bool.false_ne_true
 | str i =>
   obtain⟨t,rfl⟩:=rx
   cases y with
   | non=>cases ry;exact PySem.EqNone.eq_str_none (bg I q (by simp))
   | bl j=>cases ry;exact PySem.EqMixed.eq_str_bool (bg I q (by simp))
   | int j=>obtain⟨t',rfl⟩:=ry;exact PySem.EqMixed.eq_str_int (bg I q (by simp))
   | str j=>obtain⟨t',rfl⟩:=ry;exact eq_str (bg I q se)
   | _=>exact absurd (show false=true from hs) Bool.false_ne_true
 | byt i =>
   obtain⟨t,rfl⟩:=rx
   cases y with
   | byt j=>obtain⟨t',rfl⟩:=ry;exact PySem.W.eq_bytes (bg I q sr)
   | _=>exact absurd (show false=true from hs) Bool.false_ne_true
 | _=>cases y<;>exact absurd (show false=true from hs) Bool.false_ne_true
theorem jc:OpR X (compareOp .NotEq) rNe:=by
 intro pins s σ H x y v u Q I rx ry h;obtain⟨hs,q⟩:=h
 cases x with
 | non =>
   cases rx
   cases y with
   | non=>cases ry;exact PySem.EqNone.ne_none_none (bg I q (by simp))
   | bl j=>cases ry;exact PySem.EqNone.ne_none_bool (bg I q (by simp))
   | int j=>obtain⟨t',rfl⟩:=ry;exact PySem.EqNone.ne_none_int (bg I q (by simp))
   | str j=>obtain⟨t',rfl⟩:=ry;exact PySem.EqNone.ne_none_str (bg I q (by simp))
   | _=>exact absurd (show false=true from hs) Bool.false_ne_true
 | bl i =>
   cases rx
   cases y with
   | non=>cases ry;exact PySem.EqNone.ne_bool_none (bg I q (by simp))
   | bl j=>cases ry;exact ne_bool (bg I q (congrArg not uY))
   | str j=>obtain⟨t',rfl⟩:=ry;exact PySem.EqMixed.ne_bool_str (bg I q (by simp))
   | _=>exact absurd (show false=true from hs) Bool.false_ne_true
 | int i =>
   obtain⟨t,rfl⟩:=rx
   cases y with
   | non=>cases ry;exact PySem.EqNone.ne_int_none (bg I q (by simp))
   | int j=>obtain⟨t',rfl⟩:=ry;exact ne_int (bg I q (congrArg not rF))
   | str j=>obtain⟨t',rfl⟩:=ry;exact PySem.EqMixed.ne_int_str (bg I q (by simp))
   | _=>exact absurd (show false=true from hs) Bool.false_ne_true
 | str i =>
   obtain⟨t,rfl⟩:=rx
   cases y with
   | non=>cases ry;exact PySem.EqNone.ne_str_none (bg I q (by simp))
   | bl j=>cases ry;exact PySem.EqMixed.ne_str_bool (bg I q (by simp))
   | int j=>obtain⟨t',rfl⟩:=ry;exact PySem.EqMixed.ne_str_int (bg I q (by simp))
   | str j=>obtain⟨t',rfl⟩:=ry;exact ne_str (bg I q (congrArg not se))
   | _=>exact absurd (show false=true from hs) Bool.false_ne_true
 | byt i =>
   obtain⟨t,rfl⟩:=rx
   cases y with
   | byt j=>obtain⟨t',rfl⟩:=ry;exact PySem.W.ne_bytes (bg I q (congrArg not sr))
   | _=>exact absurd (show false=true from hs) Bool.false_ne_true
 | _=>cases y<;>exact absurd (show false=true from hs) Bool.false_ne_true
theorem cW:OpR X (compareOp .Lt) (rI0 fun i j=>.bl (decide (i < j))):=wP fun _ _ _ _ _ _ _ q=>lt_int q
theorem rj:OpR X (compareOp .LtE) (rI0 fun i j=>.bl (decide (i≤j))):=wP fun _ _ _ _ _ _ _ q=>le_int q
theorem fE:OpR X (compareOp .Gt) (rI0 fun i j=>.bl (decide (j < i))):=wP fun _ _ _ _ _ _ _ q=>gt_int q
theorem xC:OpR X (compareOp .GtE) (rI0 fun i j=>.bl (decide (j≤i))):=wP fun _ _ _ _ _ _ _ q=>ge_int q
theorem tM:OpR X (compareOp .In) (fun x y H Q=>∃ i j,x=.str i∧y=.str j∧Q (.bl (!(Builtin.Str.occurrences j i 0 j.length 1).isEmpty)) H):=by
 intro pins s σ H x y v u Q I rx ry h;obtain⟨i,j,rfl,rfl,q⟩:=h;obtain⟨t,rfl⟩:=rx;obtain⟨t',rfl⟩:=ry;exact in_str (bg I q rfl)
theorem xX:OpR X (compareOp .Is) (fun x y H Q=>y=.non∧Q (.bl (decide (x=.non))) H):=by
 intro pins s σ H x y v u Q I rx ry h;obtain⟨rfl,q⟩:=h;cases ry;refine is_none_gen (bg I q ?_)
 cases x<;>first
   | (cases rx;rfl)
   | (obtain⟨t,rfl⟩:=rx;rfl)
theorem aw (b:Expr){op:CmpOp}(h:op≠.In:=by decide)(h2:op≠.NotIn:=by decide):behindInMarks op b=false:=by
 have e1:(op==CmpOp.In)=false:=by cases op<;>first | rfl | exact absurd rfl h
 have e2:(op==CmpOp.NotIn)=false:=by cases op<;>first | rfl | exact absurd rfl h2
 cases b<;>simp[behindInMarks,e1,e2]
theorem jw {op:CmpOp}{r:R2}(ho:OpR X (compareOp op) r)(ha:PE X a ta)(hb:PE X b tb)(hm:behindInMarks op b=false):PE X (.Compare a [op] [b] pos) (tOp r ta tb):=by
 intro pins s σ H Q I h;exact wpAny_Compare1 (ym ha hb I h fun v u s2 x y H2 I2 rx ry q=>ho pins s2 σ H2 x y v u Q I2 rx ry q) hm
def nD (t:TE):TT:=fun σ H Q=>t σ H fun x H'=>uF x fun k=>Q k H'
theorem aq {op:CmpOp}{r:R2}(ho:OpR X (compareOp op) r)(ha:PE X a ta)(hb:PE X b tb)(hm:behindInMarks op b=false):PT X (.Compare a [op] [b] pos) (nD (tOp r ta tb)):=by
 intro pins s σ H Q I h
 refine wpAny_isTrue_Compare1 (thn (ha s σ H _ I h) fun v s1 ⟨x,H1,I1,r1,q1⟩=>thn (hb s1 σ H1 _ I1 q1) fun u s2 ⟨y,H2,I2,r2,q2⟩ =>
   thn (ho pins s2 σ H2 x y v u _ I2 r1 r2 q2) fun c s3 ⟨z,H3,I3,r3,q3⟩=>?_) hm
 have q3:uF z fun k=>Q k H3:=q3;rw[re] at q3;obtain⟨k,e,q3⟩:=q3;subst e;cases r3;exact wpAny_truthy_bool ⟨H3,I3,q3⟩
theorem iT:(sizeLine:Nat) < 2 ^ 63:=by rw[sizeLine_eq];decide
theorem fr:OpR X (binaryOp .Add) (fun x y H Q=>∃ i j,x=.str i∧y=.str j∧i.length+j.length≤sizeLine∧Q (.str (i++j)) H):=by
 intro pins s σ H x y v u Q I rx ry h;obtain⟨i,j,rfl,rfl,hz,q⟩:=h;obtain⟨t,rfl⟩:=rx;obtain⟨t',rfl⟩:=ry;exact add_str (fun t' tk=>⟨.str (i++j),H,I.tok _,⟨_,rfl⟩,q⟩) hz
theorem eA {x:V}{us:List Value}(r:Vals [x] us):∃ u,us=[u]∧bd x u:=by
 cases r with
 | cons r1 r2=>cases r2;exact⟨_,rfl,r1⟩
theorem oO {x y:V}{us:List Value}(r:Vals [x,y] us):∃ u w',us=[u,w']∧bd x u∧bd y w':=by
 cases r with
 | cons r1 r2 =>
   cases r2 with
   | cons r3 r4=>cases r4;exact⟨_,_,rfl,r1,r3⟩
theorem ly (hc:X.calm=true):cw X (.builtin "max") (fun xs H Q=>∃ i j,xs=[.int i,.int j]∧Q (.int (if j > i then j else i)) H):=by
 intro pins s σ H xs us Q I r h;obtain⟨i,j,rfl,q⟩:=h;obtain⟨u,w',rfl,⟨t,rfl⟩,⟨t',rfl⟩⟩:=oO r;refine max_two_ints (I.ok.hd hc) fun h' tk k=>⟨_,H,I.kept k,?_,q⟩;by_cases hj:j > i
 . rw[if_pos hj,if_pos hj];exact⟨_,rfl⟩
 . rw[if_neg hj,if_neg hj];exact⟨_,rfl⟩
theorem k7 (hc:X.calm=true):cw X (.builtin "min") (fun xs H Q=>∃ i j,xs=[.int i,.int j]∧Q (.int (if j < i then j else i)) H):=by
 intro pins s σ H xs us Q I r h;obtain⟨i,j,rfl,q⟩:=h;obtain⟨u,w',rfl,⟨t,rfl⟩,⟨t',rfl⟩⟩:=oO r;refine min_two_ints (I.ok.hd hc) fun h' tk k=>⟨_,H,I.kept k,?_,q⟩;by_cases hj:j < i
 . rw[if_pos hj,if_pos hj];exact⟨_,rfl⟩
 . rw[if_neg hj,if_neg hj];exact⟨_,rfl⟩
end
structure qH (h:Heap)(x dx C:Addr)(mA:Str→Option Value):Prop where
 obj:h.get? x=some (Bm C dx)
 ns:h.Ns1 dx mA
 ne:dx≠x
theorem sy {h:Heap}{dx:Addr}{mA:Str→Option Value}(n:h.Ns1 dx mA):∃ od,h.get? dx=some od∧∀ name,Ci name od=some (mA name):=by
 obtain⟨o,es,ep,ho,hd,hk,_,hm⟩:=n;refine⟨o,ho,fun name=>?_⟩;have e:=hm name;unfold nsFind findBy at e;rw[←Array.find?_toList] at e;unfold Ci;rw[hd];dsimp only
 split
 . rename_i y q;rw[q] at e;exact congrArg some e
 . rename_i q;rw[q] at e
   have a:es.toList.any (·.refKey)=false:=by
     rw[List.any_eq_false];intro y hy;obtain⟨z,t,hkey⟩:=hk y (Array.mem_toList_iff.mp hy);simp[DictEntry.refKey,hkey]
   have a':¬es.toList.any (·.refKey)=true:=by rw[a];exact Bool.false_ne_true
   rw[if_neg a'];exact congrArg some e
theorem qH.look {h:Heap}{x dx C:Addr}{mA:Str→Option Value}(I:qH h x dx C mA):∃ od,PySem.W.InstAt h x (Bm C dx) C (some od)∧∀ name,Ci name od=some (mA name) :=
 let ⟨od,ho,hl⟩:=sy I.ns
 ⟨od,⟨I.obj,rfl,rfl,ho⟩,hl⟩
section
variable {prog:Program}{w:World}{A:Around}{E:Value→Shared→Prop}{s:Shared}{K:PySem.W.Frag}{x dx C f:Addr}{mA:Str→Option Value}{name:Str}{v:Value}
theorem wQ {expr:Bool}{Q:Value→Shared→Prop}(X:K.In s.heap)(I:qH s.heap x dx C mA)(hg:B7 K C name=true)(hh:Cq K C=true)
   (ha:A6 K (.ref C) name=some none)(hv:mA name=some v)(hv':PySem.W.handedIn v=true)(h:Q v { s with toks:=s.toks+1 }) :
   wpAny (model prog w) A (getAttr (.ref x) name expr) Q E s:=by
 obtain⟨od,J,hl⟩:=I.look;exact PySem.W.get_value X J (Cf hg).1 (PySem.W.findObj_own hh ha rfl (by rw[hl,hv])) hv' h
theorem uQ {pl:Sem Bool}{Q:Value×List Value→Shared→Prop}(X:K.In s.heap)(I:qH s.heap x dx C mA)(hg:B7 K C name=true)
   (hf:A6 K (.ref C) name=some (some (.ref f)))(ht:CQ K (.ref f)=true)(hv:mA name=none)(h:Q (.ref f,[.ref x]) s) :
   wpAny (model prog w) A (getMethod (.ref x) name pl) Q E s:=by
 obtain⟨od,J,hl⟩:=I.look;exact PySem.W.method_fn X J (Cf hg).1 (Cf hg).2 hf (beq_iff_eq.mp ht) (by show(Ci name od).map (·.isSome)=some false;rw[hl,hv];rfl) h
theorem wK {ns:List Str}{Q:Unit→Shared→Prop}(X:K.In s.heap)(I:qH s.heap x dx C mA)
   (hs:A6 K (.ref C) "__setattr__"=some (some (.builtin "object.__setattr__")))(hp:PySem.W.plainOver K C=true)(ht:CD K C name=some none)(hh:Cq K C=true)
   (hw:PySem.Within mA ns)(hsz:ns.length≤sizeLine)
   (h:∀ h',qH h' x dx C (fun y=>if y=name then some v else mA y)→Heap.SameBut dx s.heap h'→Q () { s with heap:=h',toks:=s.toks+2 }) :
   wpAny (model prog w) A (setAttr (.ref x) name v) Q E s:=by
 obtain⟨od,J,hl⟩:=I.look;refine PySem.W.set_plain X J hs (PySem.W.osa_open (s:={ s with toks:=s.toks+1 }) (r:=none) X J hp ht fun b=>?_);obtain⟨cd,hc,hd'⟩:=PySem.W.any_some hh;have hx:s.heap.get? x=some ⟨.ref C,some dx,.plain,#[]⟩:=I.obj;refine wpAny_bind (wpAny_pure (wpAny_bind (wpAny_bind (wpAny_loadPart hx (wpAny_bind (PySem.W.Looks.here (s:={ s with toks:=s.toks+1 }) (PySem.W.looks_clsIn X hc) ?_))))));rw[hd'];refine wpAny_pure (a:=some dx) (wpAny_bind (wpAny_pure (wpAny_bind ?_)));refine wpAny_nsSet1 (s:={ s with toks:=s.toks+1 }) I.ns fun h' hn2 hs2=>?_;obtain⟨oD,esD,epD,hoD,hdD,hcD⟩:=hn2.count (PySem.Within.cons name v hw);refine wpAny_bind (wpAny_lookBehind hoD (by rw[hdD];exact pastItsLine_dict (AO hcD (by rw[AK];omega))) ?_);exact wpAny_pure (h _ ⟨(hs2.2 _ (Ne.symm I.ne)).trans I.obj,hn2,I.ne⟩ hs2)
theorem v3 {R:Result→Shared→Prop}{vs:List Value}{kw:List (Str×Value)}(X:K.In s.heap)(hm:Ca K C=true)
   (hi:A6 K (.ref C) "__init__"=some (some (.ref f)))(hf:PySem.W.typeIn K (.ref f)=some (.type "function"))
   (h:codeAny (model prog w) (A.under (.builtin "type.__call__" ⟨.ref C::vs,kw⟩)) (.call (.ref f) ⟨.ref (s.heap.objs.size+1)::vs,kw⟩) (PySem.W.InitBack (s.heap.objs.size+1) R)
     { s with heap:=(s.heap.push A5).push (Bm C s.heap.objs.size) }) :
   codeAny (model prog w) A (.call (.ref C) ⟨vs,kw⟩) R s:=by
 obtain⟨hh,g,d,t,os⟩:=s;exact PySem.W.make_core (PySem.W.makes_of X hm) (PySem.W.looks_findIn X hi) (fun self=>PySem.W.bind_fn X self hf) (.inl rfl) h
end
def cM (f:Str) (v:V):List (Str×V)→List (Str×V)
 | []=>[(f,v)]
 | (g,x)::r=>if g=f then(g,v)::r else(g,x)::cM f v r
theorem i4 (f g:Str) (v:V):∀ fs:List (Str×V),(cM f v fs).lookup g=if g=f then some v else fs.lookup g
 | []=>by
   show Au g [(f,v)]=_;by_cases h:g=f
   . have hb:(g==f)=true:=beq_iff_eq.mpr h;simp only[Au,hb,if_pos h]
   . have hb:(g==f)=false:=beq_eq_false_iff_ne.mpr h;simp only[Au,hb,if_neg h]
 | (k,x)::r=>by
   have ih:=i4 f g v r;rw[show cM f v ((k,x)::r)=(if k=f then(k,v)::r else(k,x)::cM f v r) from rfl];by_cases hk:k=f
   . rw[if_pos hk];by_cases h:g=k
     . have hb:(g==k)=true:=beq_iff_eq.mpr h;simp only[Au,hb,if_pos (h.trans hk)]
     . have hb:(g==k)=false:=beq_eq_false_iff_ne.mpr h;simp only[Au,hb,if_neg (fun e:g=f=>h (e.trans hk.symm))]
   . rw[if_neg hk];by_cases h:g=k
     . have hb:(g==k)=true:=beq_iff_eq.mpr h;simp only[Au,hb,if_neg (fun e:g=f=>hk (h.symm.trans e))]
     . have hb:(g==k)=false:=beq_eq_false_iff_ne.mpr h;simp only[Au,hb];exact ih
theorem iP (f:Str) (v:V):∀ fs:List (Str×V),f∈(cM f v fs).map (·.1)∧∀ g,g∈fs.map (·.1)→g∈(cM f v fs).map (·.1)
 | []=>⟨by simp[cM],fun g h=>by simp at h⟩
 | (k,x)::r=>by
   obtain⟨i1,i2⟩:=iP f v r;rw[show cM f v ((k,x)::r)=(if k=f then(k,v)::r else(k,x)::cM f v r) from rfl];by_cases hk:k=f
   . rw[if_pos hk];subst hk;exact⟨by simp,fun g h=>by simpa using h⟩
   . rw[if_neg hk];refine⟨?_,fun g h=>?_⟩
     . rw[An];exact Ai _ i1
     . rw[An] at h ⊢
       rcases List.mem_cons.mp h with e | e
       . exact List.mem_cons.mpr (.inl e)
       . exact Ai _ (i2 g e)
theorem jd (f:Str) (v:V):∀ fs:List (Str×V),(cM f v fs).length≤fs.length+1
 | []=>by simp[cM]
 | (k,x)::r=>by
   have ih:=jd f v r;rw[show cM f v ((k,x)::r)=(if k=f then(k,v)::r else(k,x)::cM f v r) from rfl];by_cases hk:k=f
   . rw[if_pos hk,AK,AK];omega
   . rw[if_neg hk,AK,AK];omega
theorem gm.some_of {v:V}{o:Option Value}(r:gm (some v) o):∃ u,o=some u∧bd v u:=by
 cases o with
 | none=>exact(show False from r).elim
 | some u=>exact⟨u,rfl,r⟩
theorem gm.none_of {o:Option Value}(r:gm none o):o=none:=by
 cases o with
 | none=>rfl
 | some u=>exact(show False from r).elim
theorem sW {v:V}{u:Value}(r:bd v u):PySem.W.handedIn u=true:=by
 cases v with
 | non=>cases (show u=Value.none from r);rfl
 | bl b=>cases (show u=Value.bool b from r);rfl
 | int i=>obtain⟨t,e⟩:=(show ∃ t,u=Value.int i t from r);cases e;rfl
 | str x=>obtain⟨t,e⟩:=(show ∃ t,u=Value.str x t from r);cases e;rfl
 | byt b=>obtain⟨t,e⟩:=(show ∃ t,u=Value.bytes b t from r);cases e;rfl
 | flt b=>obtain⟨t,e⟩:=(show ∃ t,u=Value.float b t from r);cases e;rfl
 | ref a=>cases (show u=Value.ref a from r);rfl
 | ty n=>cases (show u=Value.type n from r);rfl
section
variable {P:Program}{w:World}{H H':Hp}{h h':Heap}{a C dx:Addr}{fs fs':List (Str×V)}
theorem jl (hok:HOk P w H h)(e:H a=some (.ins C dx fs)):∃ mA,qH h a dx C mA∧(∀ f,gm (fs.lookup f) (mA f))∧PySem.Within mA (fs.map (·.1))∧fs.length≤1000∧H dx=some (.own a):=by
 obtain⟨d,z,ne,ob,mA,n,r,q⟩:=(show bR P w H h a (.ins C dx fs) from hok a _ e);exact⟨mA,⟨ob,n,ne⟩,r,q,z,d⟩
end
structure Cls (K:PySem.W.Frag)(C:Addr):Prop where
 pg:B7 K C BU=true
 hd:Cq K C=true
 po:PySem.W.plainOver K C=true
 sa:A6 K (.ref C) "__setattr__"=some (some (.builtin "object.__setattr__"))
theorem Cls.get {K:PySem.W.Frag}{C:Addr}(c:Cls K C) (f:Str):B7 K C f=true:=c.pg
def NoAttr (K:PySem.W.Frag)(C:Addr) (f:Str):Prop:=A6 K (.ref C) f=some none
theorem NoAttr.taker {K:PySem.W.Frag}{C:Addr}{f:Str}(n:NoAttr K C f):CD K C f=some none:=by
 unfold CD;rw[show A6 K (.ref C) f=some none from n];rfl
structure Meth (K:PySem.W.Frag)(C:Addr) (m:Str)(f:Addr):Prop where
 at_:A6 K (.ref C) m=some (some (.ref f))
 fn:CQ K (.ref f)=true
 kp:Bq K (.ref f)=true
section
variable {X:Cx}{pins:List (Addr×Obj)}{σ:St}{H:Hp}{s:Shared}{a C dx:Addr}{fs:List (Str×V)}{f:Str}{v:V}{A:Around}{E:Value→Shared→Prop}
theorem qh {b:Bool}{Q:Value→Shared→Prop}(I:Inv X pins σ H s)(e:H a=some (.ins C dx fs))(c:Cls X.K C)(n:NoAttr X.K C f)(l:fs.lookup f=some v)
   (h:∀ u s',Inv X pins σ H s'→bd v u→Q u s'):wpAny (model X.prog X.w) A (getAttr (.ref a) f b) Q E s:=by
 obtain⟨mA,O,r,_,_,_⟩:=jl I.hok e;obtain⟨u,hu,ru⟩:=gm.some_of (v:=v) (o:=mA f) (by rw[←l];exact r f);exact wQ I.kIn O (c.get f) c.hd n hu (sW ru) (h u _ (I.tok _) ru)
theorem gJ {m:Str}{g:Addr}{pl:Sem Bool}{Q:Value×List Value→Shared→Prop}(I:Inv X pins σ H s)(e:H a=some (.ins C dx fs))(c:Cls X.K C)(k:Meth X.K C m g)(l:fs.lookup m=none)
   (h:Q (.ref g,[.ref a]) s):wpAny (model X.prog X.w) A (getMethod (.ref a) m pl) Q E s:=by
 obtain⟨mA,O,r,_,_,_⟩:=jl I.hok e;have hn:mA m=none:=gm.none_of (by rw[←l];exact r m);exact uQ I.kIn O (c.get m) k.at_ k.fn hn h
theorem qL {y:V}{u:Value}{Q:Unit→Shared→Prop}(I:Inv X pins σ H s)(e:H a=some (.ins C dx fs))(c:Cls X.K C)(n:NoAttr X.K C f)(hl:fs.length < 1000)(ry:bd y u)
   (h:∀ s',Inv X pins σ (upd H a (.ins C dx (cM f y fs))) s'→Q () s'):wpAny (model X.prog X.w) A (setAttr (.ref a) f u) Q E s:=by
 obtain⟨mA,O,r,wi,_,ho⟩:=jl I.hok e
 have hz:(fs.map (·.1)).length≤sizeLine:=by rw[be,sizeLine_eq];omega
 refine wK I.kIn O c.sa c.po n.taker c.hd wi hz fun h' O' sb=>h _ ?_
 have hd:∃ o,h'.get? dx=some o:=let ⟨o,_,_,e',_⟩:=O'.ns;⟨o,e'⟩
 refine I.write (x:=a) (e:=dx) (by rw[e];exact True.intro) (.inr ho) (fun b q hb z=>(sb.2 b hb).trans z) hd ?_;refine⟨by rw[ai O.ne];exact ho,?_,O.ne,O'.obj,_,O'.ns,fun g=>?_,fun g hg=>?_⟩
 . have:=jd f y fs;omega
 . show gm ((cM f y fs).lookup g) (if g=f then some u else mA g);rw[i4];by_cases q:g=f
   . rw[if_pos q,if_pos q];exact ry
   . rw[if_neg q,if_neg q];exact r g
 . by_cases q:g=f
   . rw[q];exact(iP f y fs).1
   . refine(iP f y fs).2 g (wi g fun z=>hg ?_);show(if g=f then some u else mA g)=none;rw[if_neg q];exact z
theorem Inv.made (I:Inv X pins σ H s):Inv X pins σ (upd (upd H s.heap.objs.size (.own (s.heap.objs.size+1))) (s.heap.objs.size+1) (.ins C s.heap.objs.size []))
   { s with heap:=(s.heap.push A5).push (Bm C s.heap.objs.size) }:=by
 have e1:(s.heap.push A5).get? s.heap.objs.size=some A5:=Heap.get?_push_size s.heap rfl
 have e2:((s.heap.push A5).push (Bm C s.heap.objs.size)).get? (s.heap.objs.size+1)=some (Bm C s.heap.objs.size):=by
   have:=Heap.get?_push_size (s.heap.push A5) (o:=Bm C s.heap.objs.size) rfl
   rwa [Heap.size_push] at this
 have e3:(s.heap.push A5).Ns s.heap.objs.size (fun _=>none):=⟨A5,#[],_,e1,rfl,(fun e he=>absurd he (by simp)),fun _=>rfl⟩;have I1:=I.laid (a:=s.heap.objs.size) (o:=.own (s.heap.objs.size+1)) (h':=s.heap.push A5) (t':=s.toks) (fun b u q=>Heap.get?_push_of_some _ q) (z7 _) ⟨_,e1⟩;refine I1.laid (a:=s.heap.objs.size+1) (o:=.ins C s.heap.objs.size []) (t':=s.toks) (fun b u q=>Heap.get?_push_of_some _ q) (CS (Heap.size_push _ _)) ?_;have ne:s.heap.objs.size≠s.heap.objs.size+1:=Ak (BA _);refine⟨by rw[ai ne,ac],AN _,ne,e2,fun _=>none,(Heap.Ns1.of_empty e3).at fun o q=>Heap.get?_push_of_some _ q,fun _=>True.intro,fun y hy=>absurd rfl hy⟩
theorem wV {prog:Program}{w:World}{env:Env}{e:Expr}{f:Str}{pos:Pos}{s:Shared}{Q:Value→Shared→Prop}(hb:attributeBase e f env (eval e env)=eval e env)
   (h:wpAny (model prog w) A (eval e env) (fun o s₁=>wpAny (model prog w) A (getAttr o f true) Q E s₁) E s):wpAny (model prog w) A (eval (.Attribute e f pos) env) Q E s :=
 Attribute_any_ h (by rw[arm_eval_Attribute,hb])
end
def wF (K:PySem.W.Frag)(ta:TE) (f:Str):TE:=fun σ H Q=>ta σ H fun x H1=>∃ a C dx fs v,x=.ref a∧H1 a=some (.ins C dx fs)∧Cls K C∧NoAttr K C f∧fs.lookup f=some v∧Q v H1
def yR (K:PySem.W.Frag)(ta tv:TE) (f:Str):TS:=fun D σ H=>tv σ H fun y H1=>ta σ H1 fun x H2=>∃ a C dx fs,x=.ref a∧H2 a=some (.ins C dx fs)∧Cls K C∧NoAttr K C f∧fs.length < 1000 ∧
 D.nx σ (upd H2 a (.ins C dx (cM f y fs)))
section
variable {X:Cx}{o e value:Expr}{f:Str}{pos pos' tpos:Pos}{ta tv:TE}
theorem bD (he:PE X e ta)(hb:attributeBase e f X.env (eval e X.env)=eval e X.env):PE X (.Attribute e f pos) (wF X.K ta f):=by
 intro pins s σ H Q I h;refine wV hb (thn (he s σ H _ I h) fun u s1 ⟨x,H1,I1,rx,a,C,dx,fs,v,ex,ea,c,n,l,q⟩=>?_);subst ex;obtain rfl:u=Value.ref a:=rx;exact qh I1 ea c n l fun u' s2 I2 ru=>⟨v,H1,I2,ru,q⟩
theorem eJ (ha:PE X o ta)(hv:PE X value tv)(hs:swapsWith value (some (.Attribute o f pos')) pos.line X.env=pure false):PS X (.Assign [.Attribute o f pos'] value pos) (yR X.K ta tv f):=by
 intro pins s σ H D I h;refine plainObj_wpAny_Assign_Attribute (thn (hv s σ H _ I h) fun u s1 ⟨y,H1,I1,ry,q⟩=>thn (ha s1 σ H1 _ I1 q) fun ov s2 ⟨x,H2,I2,rx,a,C,dx,fs,ex,ea,c,n,l,q2⟩=>?_) hs;subst ex;obtain rfl:ov=Value.ref a:=rx;exact qL I2 ea c n l ry fun s3 I3=>⟨σ,_,I3,q2⟩
theorem xz {pl:Sem Bool}{m:Str}{apos:Pos}{args:List Expr}{pins:List (Addr×Obj)}{s:Shared}{σ:St}{H:Hp}{Q:Value→Shared→Prop}{te:TE}(he:PE X e te)(I:Inv X pins σ H s)
   (h:te σ H fun x H1=>∃ a C dx fs g,x=.ref a∧H1 a=some (.ins C dx fs)∧Cls X.K C∧Meth X.K C m g∧fs.lookup m=none ∧
     ∀ s1,Inv X pins σ H1 s1→wpAny (model X.prog X.w) X.A (callWith pos (.ref g) [.ref a] (backTo pos (starEach args X.env)) (backToKw pos (keywordEach [] X.env))) Q X.xe s1)
   (ht:eval (.Call (.Attribute e m apos) args [] pos) X.env=(do
     let ov ←eval e X.env
     standAt apos.atName
     let (f,first) ←holding [ov] (getMethod ov m pl)
     callWith pos f first (backTo pos (starEach args X.env)) (backToKw pos (keywordEach [] X.env)))) :
   wpAny (model X.prog X.w) X.A (eval (.Call (.Attribute e m apos) args [] pos) X.env) Q X.xe s:=by
 refine B5 (pl:=pl) (thn (he s σ H _ I h) fun u s1 ⟨x,H1,I1,rx,a,C,dx,fs,g,ex,ea,c,k,l,q⟩=>?_) ht;subst ex;obtain rfl:u=Value.ref a:=rx;exact gJ I1 ea c k l (q s1 I1)
end
section
variable {X:Cx}{pins:List (Addr×Obj)}{σ:St}{H:Hp}{s:Shared}{A:Around}{E:Value→Shared→Prop}{Q:Value→Shared→Prop}{c:Value}{b:Bool}
inductive cD (K:PySem.W.Frag)(H:Hp):V→Value→Prop where
 | non:cD K H .non (.type "NoneType")
 | bl (x:Bool):cD K H (.bl x) (.type "bool")
 | int (i:Int):cD K H (.int i) (.type "int")
 | str (x:Str):cD K H (.str x) (.type "str")
 | flt (x:UInt64):cD K H (.flt x) (.type "float")
 | lst {a:Addr}{xs:List V}(e:H a=some (.lst xs)):cD K H (.ref a) (.type "list")
 | frz {a:Addr}{o:Obj}{xs:List V}(e:H a=some (.frz o (.lst xs))):cD K H (.ref a) (.type "list")
 | tup {a:Addr}{xs:List V}(e:H a=some (.tup xs)):cD K H (.ref a) (.type "tuple")
 | dK {a:Addr}{kvs:List (Key×V)}(e:H a=some (.dK kvs)):cD K H (.ref a) (.type "dict")
 | dT {a:Addr}{kvs:List (List Key×V)}(e:H a=some (.dT kvs)):cD K H (.ref a) (.type "dict")
 | ins {a C dx:Addr}{fs:List (Str×V)}(e:H a=some (.ins C dx fs))(cl:Cls K C)(ha:A6 K (.ref C) "__class__"=some (some (.builtin "object.__class__")))
     (hn:PySem.W.specialIn K (.builtin "object.__class__") "__get__"=some (some (.builtin "getset_descriptor.__get__")))(htk:PySem.W.takesIn K (.builtin "object.__class__")=some true)
     (hm:PySem.W.mroIn K C (.type "object")=some true):cD K H (.ref a) (.ref C)
theorem t6 {x:V}{u t:Value}(I:Inv X pins σ H s)(rx:bd x u)(ty:cD X.K H x t)(e:AB X.K t c=some b)(h:∀ tk,Q (.bool b) { s with toks:=tk }) :
   wpAny (model X.prog X.w) A (call (.builtin "isinstance") [u,c]) Q E s:=by
 cases ty with
 | non=>cases (show u=Value.none from rx);exact A1 PySem.W.kitx_none I.kIn True.intro e (fun z=>nomatch z) h
 | bl y=>cases (show u=Value.bool y from rx);exact A1 PySem.W.kitx_bool I.kIn True.intro e (fun z=>nomatch z) h
 | int i=>obtain⟨t,q⟩:=(show ∃ t,u=Value.int i t from rx);cases q;exact A1 PySem.W.kitx_int I.kIn True.intro e (fun z=>nomatch z) h
 | str y=>obtain⟨t,q⟩:=(show ∃ t,u=Value.str y t from rx);cases q;exact A1 PySem.W.kitx_str I.kIn True.intro e (fun z=>nomatch z) h
 | flt y=>obtain⟨t,q⟩:=(show ∃ t,u=Value.float y t from rx);cases q;exact A1 PySem.W.kitx_float I.kIn True.intro e (fun z=>nomatch z) h
 | @lst a xs ea =>
   cases (show u=Value.ref a from rx);obtain⟨_,_,n,_,h1⟩:=(show bR X.prog X.w H s.heap a (.lst xs) from I.hok a _ ea);exact A1 PySem.W.kitx_list I.kIn ⟨_,h1,rfl⟩ e (fun z=>nomatch z) h
 | @frz a ob xs ea =>
   cases (show u=Value.ref a from rx);obtain⟨_,_,_,n,_,h1⟩:=(show bR X.prog X.w H s.heap a (.frz ob (.lst xs)) from I.hok a _ ea);exact A1 PySem.W.kitx_list I.kIn ⟨_,h1,rfl⟩ e (fun z=>nomatch z) h
 | @tup a xs ea =>
   cases (show u=Value.ref a from rx);obtain⟨_,_,_,p⟩:=(show bR X.prog X.w H s.heap a (.tup xs) from I.hok a _ ea);obtain⟨o,h1,h2,_⟩:=p;exact A1 PySem.W.kitx_tuple I.kIn ⟨o,h1,h2⟩ e (fun z=>nomatch z) h
 | @dK a kvs ea =>
   cases (show u=Value.ref a from rx);obtain⟨_,_,vs,_,p⟩:=(show bR X.prog X.w H s.heap a (.dK kvs) from I.hok a _ ea);obtain⟨o,es,ep,h1,h2,_⟩:=p;exact A1 PySem.W.kitx_dict I.kIn ⟨o,h1,h2.1⟩ e (fun z=>nomatch z) h
 | @dT a kvs ea =>
   cases (show u=Value.ref a from rx);obtain⟨_,_,xs,_,o,es,ep,h1,h2,_⟩:=(show bR X.prog X.w H s.heap a (.dT kvs) from I.hok a _ ea);exact A1 PySem.W.kitx_dict I.kIn ⟨o,h1,h2.1⟩ e (fun z=>nomatch z) h
 | @ins a C dx fs ea cl ha hn htk hm =>
   cases (show u=Value.ref a from rx);obtain⟨mA,O,_⟩:=jl I.hok ea;obtain⟨od,J,_⟩:=O.look;exact A1 (PySem.W.kitx_own (cl.get _) cl.hd ha hn htk hm) I.kIn J e (fun z=>nomatch z) h
end
structure cL (k:Nat)(A:Around):Prop where
 hd:A.handled=none
 dp:A.depth+3*k+5 < recursionLimit
 un:A.units+16*k+200 < cLine
theorem cL.mono {j k:Nat}{A:Around}(r:cL k A)(h:j≤k):cL j A:=⟨r.hd,by have:=r.dp;omega,by have:=r.un;omega⟩
theorem cL.deeper {k:Nat}{A:Around}(r:cL (k+1) A)(env:Env):cL k (A.deeper env) :=
 ⟨r.hd,by have:=r.dp;show A.depth+1+3*k+5 < _;omega,by have:=r.un;show A.units+3+16*k+200 < _;omega⟩
theorem pP {A:Around}{C:Addr}{us:List Value}{kw:List (Str×Value)}:(A.under (.builtin "type.__call__" ⟨.ref C::us,kw⟩)).depth=A.depth+1:=by
 first | rfl | simp[Around.under,Code.weight,Code.isCreation,Code.isGuard,Code.isCaller,Code.frames,Code.isFrame,guardIds]
theorem pE {A:Around}{C:Addr}{us:List Value}{kw:List (Str×Value)}:(A.under (.builtin "type.__call__" ⟨.ref C::us,kw⟩)).units=A.units+1:=by
 first | rfl | simp[Around.under,Code.cUnits,Code.frames,Code.isFrame]
theorem cL.make {k:Nat}{A:Around}(r:cL (k+1) A)(C:Addr)(us:List Value)(kw:List (Str×Value)):cL k (A.under (.builtin "type.__call__" ⟨.ref C::us,kw⟩)) :=
 ⟨r.hd,by have:=r.dp;rw[pP];omega,by have:=r.un;rw[pE];omega⟩
theorem cL.depth {k:Nat}{A:Around}(r:cL k A):A.depth < recursionLimit:=by have:=r.dp;omega
theorem cL.units {k:Nat}{A:Around}(r:cL k A):A.units+64 < cLine:=by have:=r.un;omega
def tS:TA:=fun _ H Q=>Q [] H
def fH (ta:TE)(tr:TA):TA:=fun σ H Q=>ta σ H fun x H1=>tr σ H1 fun xs H2=>Q (x::xs) H2
section
variable {X:Cx}{e:Expr}{es:List Expr}{te:TE}{t:TA}{pos:Pos}
theorem ae:PA X [] tS:=fun _ _ _ _ H Q I h=>Calls.spliced_nil ⟨[],H,I,.nil,h⟩
theorem aa (ha:PE X e te)(hr:PA X es t)(hs:starEach (e::es) X.env=(false,eval e X.env)::starEach es X.env:=by rfl):PA X (e::es) (fH te t):=by
 intro pins pos s σ H Q I h;rw[hs];show wpAny _ _ (spliced ((false,eval e X.env)::backTo pos (starEach es X.env))) _ _ s;refine Calls.spliced_cons (thn (ha s σ H _ I h) fun u s1 ⟨x,H1,I1,r1,q1⟩=>?_);exact thn (hr pos s1 σ H1 _ I1 q1) fun us s2 ⟨xs,H2,I2,r2,q2⟩=>⟨x::xs,H2,I2,.cons r1 r2,q2⟩
def vP (t:TA):TE:=fun σ H Q=>t σ H fun xs H1=>xs.length≤sizeLine∧∀ p,H1 p=none→Q (.ref p) (upd H1 p (.tup xs))
def yv (t:TA):TE:=fun σ H Q=>t σ H fun xs H1=>xs.length≤sizeLine∧∀ p,H1 p=none→Q (.ref p) (upd H1 p (.lst xs))
theorem bj {x1}(h:PA X es t):PE X (.Tuple es x1 pos) (vP t):=by
 intro pins s σ H Q I hq;refine wpAny_Tuple_spliced (thn (h pos s σ H _ I hq) fun us s1 ⟨xs,H1,I1,r,z,q⟩=>⟨by rw[←r.length];exact z,?_⟩);have hf:H1 s1.heap.objs.size=none:=I1.hok.fresh (z7 _);refine⟨.ref s1.heap.objs.size,upd H1 s1.heap.objs.size (.tup xs),I1.laid (t':=s1.toks) (fun b u e=>Heap.get?_push_of_some _ e) (z7 _) ?_,rfl,q _ hf⟩;exact⟨z,us,r,⟨_,Heap.get?_push_size _ rfl,rfl,_,rfl⟩⟩
theorem ba (h:PA X es t):PE X (.List es pos) (yv t):=by
 intro pins s σ H Q I hq;refine wpAny_List_spliced (thn (h pos s σ H _ I hq) fun us s1 ⟨xs,H1,I1,r,z,q⟩=>⟨by rw[←r.length];exact z,?_⟩);have hf:H1 s1.heap.objs.size=none:=I1.hok.fresh (z7 _);refine⟨.ref s1.heap.objs.size,upd H1 s1.heap.objs.size (.lst xs),I1.laid (t':=s1.toks) (fun b u e=>Heap.get?_push_of_some _ e) (z7 _) ?_,rfl,q _ hf⟩;exact⟨z,us,0,r,Heap.get?_push_size _ rfl⟩
end
abbrev Sp:=List V→Hp→VK→XK→Prop
abbrev CXT:=List Env→Hp→Shared→XK→Value→Shared→Prop
structure pJ (P:Program)(w:World)(K:PySem.W.Frag)(mg:Str→Option Value)(base:Heap)(A:Around)(outer:List Env)(s:Shared)(H:Hp):Prop where
 frames:A.frames=some outer
 mod:Mod K mg base
 bs:∀ b o,base.get? b=some o→s.heap.get? b=some o∧H b=none
 bsz:base.objs.size≤s.heap.objs.size
 funs:s.heap.FunFrames base outer
 frf:∀ b∈frs outer,H b=none
 hok:HOk P w H s.heap
 bare:AllBare s.gens
def CE (outer:List Env)(P:Program)(w:World)(H:Hp)(s:Shared)(Q:VK) (u:Value)(s':Shared):Prop :=
 ∃ v H',s'.os=s.os∧AllBare s'.gens∧Un (frs outer) [] H H' s.heap s'.heap∧HOk P w H' s'.heap∧bd v u∧Q v H'
def CR (CX:CXT)(outer:List Env)(P:Program)(w:World)(H:Hp)(s:Shared)(Q:VK)(E:XK)(r:Result)(s':Shared):Prop :=
 match r with
 | .ok (.ret u)=>CE outer P w H s Q u s'
 | .ok _=>False
 | .error e=>CX outer H s E e s'
structure aU (P:Program)(w:World)(K:PySem.W.Frag)(mg:Str→Option Value)(base:Heap)(CX:CXT) (k:Nat)(f:Addr)(fd:FuncData)(ps:List Str)(sp:Sp):Prop where
 len:∀ vs H Q E,sp vs H Q E→vs.length=ps.length
 run:∀ (A:Around)(outer:List Env)(s:Shared)(H:Hp)(args:Args)(us:List Value)(vs:List V)(Q:VK)(E:XK),cL k A→pJ P w K mg base A outer s H→BindsTo s fd args (ps.zip us)→Vals vs us→sp vs H Q E →
   codeAny (model P w) A (.call (.ref f) args) (CR CX outer P w H s Q E) s
theorem pJ.make {P:Program}{w:World}{K:PySem.W.Frag}{mg:Str→Option Value}{base:Heap}{A:Around}{outer:List Env}{s:Shared}{H:Hp}(e:pJ P w K mg base A outer s H)(C:Addr)(us:List Value)(kw:List (Str×Value)) :
 pJ P w K mg base (A.under (.builtin "type.__call__" ⟨.ref C::us,kw⟩)) outer s H:=⟨by first | exact e.frames | (simpa [Around.under,Code.envs,Code.isFrame,pushEnvs] using e.frames),e.mod,e.bs,e.bsz,e.funs,e.frf,e.hok,e.bare⟩
section
variable {X:Cx}{pins:List (Addr×Obj)}{σ:St}{H:Hp}{s s':Shared}
theorem Inv.env0 (I:Inv X pins σ H s):pJ X.prog X.w X.K X.mg X.base X.A X.stack s H :=
 ⟨I.ok.frames,I.ok.mod,I.bs,AO I.ok.bsz I.sz,I.stack,I.stkFree,I.hok,I.bare⟩
theorem Inv.after {Q:VK}{u:Value}(I:Inv X pins σ H s)(h:CE X.stack X.prog X.w H s Q u s'):EP X pins σ Q u s':=by
 obtain⟨v,H',os,bare,un,hok,r,q⟩:=h;obtain⟨hh,g,d,t,os'⟩:=s';obtain rfl:os'=s.os:=os;exact⟨v,H',I.call (h':=hh) (g':=g) (d':=d) (t':=t) (ch:=[]) un hok bare (fun b z=>absurd z (by simp)),r,q⟩
end
def rB (sp:Sp)(dvs:List V)(E:XK)(t:TA):TE:=fun σ H Q=>t σ H fun vs H1=>sp (vs++dvs) H1 Q E
def lh (C:Addr) (m:Str)(sp:Sp)(dvs:List V)(E:XK)(ta:TE)(t:TA):TE:=fun σ H Q=>ta σ H fun x H1=>∃ a dx fs,x=.ref a∧H1 a=some (.ins C dx fs)∧fs.lookup m=none ∧
 t σ H1 fun vs H2=>sp (x::(vs++dvs)) H2 Q E
def vm (C:Addr)(sp:Sp)(dvs:List V)(E:XK)(t:TA):TE:=fun σ H Q=>t σ H fun vs H1=>∀ x dx,H1 x=none→H1 dx=none→dx≠x →
 sp (.ref x::(vs++dvs)) (upd (upd H1 dx (.own x)) x (.ins C dx [])) (fun v H2=>v=.non∧Q (.ref x) H2) E
def eC (K:PySem.W.Frag)(fd:FuncData)(ps:List Str)(ds:List Value):Prop :=
 ∀ (s:Shared)(us:List Value),K.In s.heap→(us++ds).length=ps.length→BindsTo s fd ⟨us,[]⟩ (ps.zip (us++ds))
theorem eC.all {K:PySem.W.Frag}{fd:FuncData}{ps:List Str}(h:∀ us:List Value,us.length=ps.length→bindArgs fd ⟨us,[]⟩=pure (ps.zip us)):eC K fd ps []:=fun s us _ hl=>by
 rw[A2] at hl ⊢;exact .of_eq (h us hl)
def dz (CX:CXT)(X:Cx)(E:XK):Prop:=∀ (pins:List (Addr×Obj)) (σ:St)(H:Hp)(s:Shared) (e:Value)(s':Shared),Inv X pins σ H s→CX X.stack H s E e s'→X.xe e s'
section
variable {X:Cx}{CX:CXT}{k:Nat}{f C:Addr}{fd:FuncData}{ps:List Str}{sp:Sp}{dvs:List V}{ds:List Value}{E:XK}{x m:Str}{p pos apos:Pos}{e o:Expr}{es:List Expr}{ta:TE}{t:TA}
theorem qQ {pins:List (Addr×Obj)}{σ:St}{H:Hp}{s:Shared}{Q:VK}{us:List Value}{vs:List V}(F:aU X.prog X.w X.K X.mg X.base CX k f fd ps sp)(hr:cL k X.A)(hb:eC X.K fd ps ds)(hd:Vals dvs ds)(hx:dz CX X E)
   (I:Inv X pins σ H s)(r:Vals vs us)(h:sp (vs++dvs) H Q E):wpAny (model X.prog X.w) X.A (call (.ref f) us) (EP X pins σ Q) X.xe s:=by
 have r2:Vals (vs++dvs) (us++ds):=r.append hd
 have hl:(us++ds).length=ps.length:=by rw[←r2.length];exact F.len _ _ _ _ h
 refine wpAny_call (codeAny_mono (F.run X.A X.stack s H ⟨us,[]⟩ (us++ds) (vs++dvs) Q E hr I.env0 (hb s us I.kIn hl) r2 h) fun r s' hq=>?_)
 cases r with
 | error e=>exact hx pins σ H s e s' I hq
 | ok fl =>
   cases fl with
   | ret u=>exact I.after hq
   | next=>exact False.elim hq
   | brk=>exact False.elim hq
   | cont=>exact False.elim hq
theorem wC (F:aU X.prog X.w X.K X.mg X.base CX k f fd ps sp)(hr:cL k X.A)(hg:Gl X x)(hm:X.mg x=some (.ref f))(hk:Bq X.K (.ref f)=true)(hb:eC X.K fd ps ds)(hd:Vals dvs ds)(hx:dz CX X E)
   (ha:PA X (e::es) t)(hdb:(x==("__debug__":Str))=false:=by decide)(he:starEach (e::es) X.env=(false,eval e X.env)::starEach es X.env:=by rfl)(hpl:(backTo pos (starEach es X.env)).any (·.1)=false:=by rfl) :
   PE X (.Call (.Name x p) (e::es) [] pos) (rB sp dvs E t):=by
 intro pins s σ H Q I h;refine wpAny_Call_Name_kw (g0 I hg hm ?_ hdb);refine Cj (h₀:=X.base) I.ok.mod.kin hk (thn (ha pos s σ H _ I h) fun us s1 ⟨vs,H1,I1,r,q⟩=>⟨I1.kIn,?_⟩) he hpl;exact qQ F hr hb hd hx I1 r q
theorem ib {pl:Sem Bool}(he:PE X o ta)(c:Cls X.K C)(hm:Meth X.K C m f)(F:aU X.prog X.w X.K X.mg X.base CX k f fd ps sp)(hr:cL k X.A)(hb:eC X.K fd ps ds)(hd:Vals dvs ds)(hx:dz CX X E)(ha:PA X (e::es) t)
   (hst:starEach (e::es) X.env=(false,eval e X.env)::starEach es X.env:=by rfl)(hpl:(backTo pos (starEach es X.env)).any (·.1)=false:=by rfl)
   (ht:eval (.Call (.Attribute o m apos) (e::es) [] pos) X.env=(do
     let ov ←eval o X.env
     standAt apos.atName
     let (f,first) ←holding [ov] (getMethod ov m pl)
     callWith pos f first (backTo pos (starEach (e::es) X.env)) (backToKw pos (keywordEach [] X.env))):=by rfl) :
   PE X (.Call (.Attribute o m apos) (e::es) [] pos) (lh C m sp dvs E ta t):=by
 intro pins s σ H Q I h;refine B5 (pl:=pl) (thn (he s σ H _ I h) fun u s1 ⟨x,H1,I1,rx,a,dx,fs,ex,ea,l,q⟩=>?_) ht;subst ex;obtain rfl:u=Value.ref a:=rx;refine gJ I1 ea c hm l ?_;refine Cj (first:=[.ref a]) (h₀:=X.base) I.ok.mod.kin hm.kp (thn (ha pos s1 σ H1 _ I1 q) fun us s2 ⟨vs,H2,I2,r,q2⟩=>⟨I2.kIn,?_⟩) hst hpl;exact qQ (us:=.ref a::us) (vs:=.ref a::vs) F hr hb hd hx I2 (.cons rfl r) q2
theorem vF {pl:Sem Bool}(he:PE X o ta)(c:Cls X.K C)(hm:Meth X.K C m f)(F:aU X.prog X.w X.K X.mg X.base CX k f fd ps sp)(hr:cL k X.A)(hb:eC X.K fd ps ds)(hd:Vals dvs ds)(hx:dz CX X E)
   (ht:eval (.Call (.Attribute o m apos) [] [] pos) X.env=(do
     let ov ←eval o X.env
     standAt apos.atName
     let (f,first) ←holding [ov] (getMethod ov m pl)
     callWith pos f first (backTo pos (starEach [] X.env)) (backToKw pos (keywordEach [] X.env))):=by rfl) :
   PE X (.Call (.Attribute o m apos) [] [] pos) (lh C m sp dvs E ta tS):=by
 intro pins s σ H Q I h;refine B5 (pl:=pl) (thn (he s σ H _ I h) fun u s1 ⟨x,H1,I1,rx,a,dx,fs,ex,ea,l,q⟩=>?_) ht;subst ex;obtain rfl:u=Value.ref a:=rx;refine gJ I1 ea c hm l ?_;exact PySem.W.callWith_K0 (first:=[.ref a]) I1.kIn hm.kp (qQ (us:=[.ref a]) (vs:=[.ref a]) F hr hb hd hx I1 (.cons rfl .nil) q)
structure Mk (K:PySem.W.Frag)(C f:Addr):Prop where
 makes:Ca K C=true
 init:A6 K (.ref C) "__init__"=some (some (.ref f))
 fn:CQ K (.ref f)=true
 kp:Bq K (.ref C)=true
theorem vJ {pins:List (Addr×Obj)}{σ:St}{H:Hp}{s:Shared}{Q:VK}{us:List Value}{vs:List V}(M:Mk X.K C f)(F:aU X.prog X.w X.K X.mg X.base CX k f fd ps sp)(hr:cL (k+1) X.A)(hb:eC X.K fd ps ds)(hd:Vals dvs ds)
   (hx:dz CX X E)(I:Inv X pins σ H s)(r:Vals vs us)
   (h:∀ x dx,H x=none→H dx=none→dx≠x→sp (.ref x::(vs++dvs)) (upd (upd H dx (.own x)) x (.ins C dx [])) (fun v H2=>v=.non∧Q (.ref x) H2) E) :
   wpAny (model X.prog X.w) X.A (call (.ref C) us) (EP X pins σ Q) X.xe s:=by
 have hq:=h (s.heap.objs.size+1) s.heap.objs.size (I.hok.fresh (CJ _)) (I.hok.fresh (z7 _)) (Ak (BA _));have I2:=Inv.made (C:=C) I;have r2:Vals (V.ref (s.heap.objs.size+1)::(vs++dvs)) (Value.ref (s.heap.objs.size+1)::(us++ds)):=.cons rfl (r.append hd)
 have hl:(Value.ref (s.heap.objs.size+1)::us++ds).length=ps.length:=by
   have e:=r2.length;rw[F.len _ _ _ _ hq] at e;exact e.symm
 refine wpAny_call (v3 (f:=f) I.kIn M.makes M.init (beq_iff_eq.mp M.fn) (codeAny_mono (F.run _ X.stack _ _ ⟨Value.ref (s.heap.objs.size+1)::us,[]⟩ (Value.ref (s.heap.objs.size+1)::(us++ds)) _ _ E (hr.make C us [])
   (I2.env0.make C us []) (hb _ (Value.ref (s.heap.objs.size+1)::us) I2.kIn hl) r2 hq) fun r s' hq'=>?_))
 cases r with
 | error e=>exact hx pins σ _ _ e s' I2 hq'
 | ok fl =>
   cases fl with
   | ret u =>
     obtain⟨v,H',I3,rv,ev,q3⟩:=I2.after hq';subst ev;exact⟨rv,⟨V.ref (s.heap.objs.size+1),H',I3,rfl,q3⟩⟩
   | next=>exact False.elim hq'
   | brk=>exact False.elim hq'
   | cont=>exact False.elim hq'
theorem mr (M:Mk X.K C f)(F:aU X.prog X.w X.K X.mg X.base CX k f fd ps sp)(hr:cL (k+1) X.A)(hg:Gl X x)(hm:X.mg x=some (.ref C))(hb:eC X.K fd ps ds)(hd:Vals dvs ds)(hx:dz CX X E)
   (ha:PA X (e::es) t)(hdb:(x==("__debug__":Str))=false:=by decide)(he:starEach (e::es) X.env=(false,eval e X.env)::starEach es X.env:=by rfl)(hpl:(backTo pos (starEach es X.env)).any (·.1)=false:=by rfl) :
   PE X (.Call (.Name x p) (e::es) [] pos) (vm C sp dvs E t):=by
 intro pins s σ H Q I h;refine wpAny_Call_Name_kw (g0 I hg hm ?_ hdb);refine Cj (h₀:=X.base) I.ok.mod.kin M.kp (thn (ha pos s σ H _ I h) fun us s1 ⟨vs,H1,I1,r,q⟩=>⟨I1.kIn,?_⟩) he hpl;exact vJ M F hr hb hd hx I1 r q
end
section
variable {X:Cx}{CX:CXT}{k:Nat}{f C:Addr}{fd:FuncData}{ps ks:List Str}{sp:Sp}{E:XK}{x m:Str}{p pos apos kpos:Pos}{e o:Expr}{es:List Expr}{kws:List Keyword}{te ta:TE}{t tk:TA}{nm:Option Str}
variable {g:List Value→List Value→List Value}{gV:List V→List V→List V}
end
structure ax (N P:List Str)(sc:Scope):Prop where
 kind:sc.kind=.function
 co:sc.isCoroutine=false
 gen:sc.isGenerator=false
 nd:N.Nodup
 pre:N.take P.length=P
 par:∀ x∈P,sc.names.lookup x=some .local∨sc.names.lookup x=some .cell
 nofree:∀ y∈sc.names,y.2≠.free
theorem lG {kindOf:Str→Option NameKind}{x:Str}:∀ {binds:List (Str×Value)}{m:Str→Option Value},(∀ v,(x,v)∉binds)→bindL kindOf binds m x=m x
 | [],_,_=>rfl
 | (n,v)::r,m,h=>by
   unfold bindL;rw[lG fun w hw=>h w (Ai _ hw)]
   split
   . have:x≠n:=by rintro rfl;exact h v Ag
     simp[this]
   . rfl
theorem lf {kindOf:Str→Option NameKind}{x:Str}:∀ {binds:List (Str×Value)}{m:Str→Option Value},(∀ v,(x,v)∉binds)→bindC kindOf binds m x=m x
 | [],_,_=>rfl
 | (n,v)::r,m,h=>by
   unfold bindC;rw[lf fun w hw=>h w (Ai _ hw)]
   split
   . rfl
   . have:x≠n:=by rintro rfl;exact h v Ag
     simp[this]
theorem lm {kindOf:Str→Option NameKind}{x:Str}{v:Value}:∀ {P:List Str}{vs:List Value}{i:Nat}{m:Str→Option Value},P.Nodup→P[i]?=some x→vs[i]?=some v→kindOf x=some .local →
   bindL kindOf (P.zip vs) m x=some v
 | [],_,_,_,_,h,_,_=>by simp at h
 | _::_,[],_,_,_,_,h,_=>by simp at h
 | p::P,w::vs,0,m,nd,h1,h2,hk=>by
   simp at h1 h2;subst h1;subst h2;show bindL kindOf ((p,w)::P.zip vs) m p=_;unfold bindL;rw[lG fun v hv=>(List.nodup_cons.mp nd).1 (CF hv).1,if_pos hk];simp
 | p::P,w::vs,i+1,m,nd,h1,h2,hk=>by
   show bindL kindOf ((p,w)::P.zip vs) m x=_;unfold bindL;exact lm (i:=i) (List.nodup_cons.mp nd).2 (by simpa using h1) (by simpa using h2) hk
theorem lR {kindOf:Str→Option NameKind}{x:Str}{v:Value}:∀ {P:List Str}{vs:List Value}{i:Nat}{m:Str→Option Value},P.Nodup→P[i]?=some x→vs[i]?=some v→kindOf x≠some .local →
   bindC kindOf (P.zip vs) m x=some v
 | [],_,_,_,_,h,_,_=>by simp at h
 | _::_,[],_,_,_,_,h,_=>by simp at h
 | p::P,w::vs,0,m,nd,h1,h2,hk=>by
   simp at h1 h2;subst h1;subst h2;show bindC kindOf ((p,w)::P.zip vs) m p=_;unfold bindC;rw[lf fun v hv=>(List.nodup_cons.mp nd).1 (CF hv).1,if_neg hk];simp
 | p::P,w::vs,i+1,m,nd,h1,h2,hk=>by
   show bindC kindOf ((p,w)::P.zip vs) m x=_;unfold bindC;exact lR (i:=i) (List.nodup_cons.mp nd).2 (by simpa using h1) (by simpa using h2) hk
def start (N:List Str)(vs:List V):St:=vs.map some++Ae (N.length - vs.length) none
def eV (CX:CXT)(P:Program)(w:World)(K:PySem.W.Frag)(mg:Str→Option Value)(base:Heap)(N:List Str) (qual:Str)(scope:Scope)(f:Addr) (cd:Value)(A:Around)(outer:List Env)(s:Shared)(H:Hp)(E:XK):Cx where
 prog:=P
 w:=w
 K:=K
 mg:=mg
 base:=base
 A:=A.deeper (envOfC qual scope s.heap.objs.size f cd)
 N:=N
 s₀:=s
 H₀:=H
 env:=envOfC qual scope s.heap.objs.size f cd
 outer:=outer
 stack:=envOfC qual scope s.heap.objs.size f cd::outer
 ex:=[]
 calm:=true
 fn:=fun _=>true
 pn:=[]
 xe:=fun e s'=>wpAny (model P w) (A.deeper (envOfC qual scope s.heap.objs.size f cd)) (leaving (envOfC qual scope s.heap.objs.size f cd) e) (fun _ s''=>CX outer H s E e s'') (fun e' s''=>CX outer H s E e' s'') s'
theorem nX {sc:Scope}{n:Nat}{x:Str}(h:sc.names.lookup x=some .cell):∃ c,(cellsFrom n sc.names []).lookup x=some c:=by
 have q:=PySem.W.cellsFrom_some sc.names n [] (.inl h);exact Option.isSome_iff_exists.mp q
theorem tX {CX:CXT}{P:Program}{w:World}{K:PySem.W.Frag}{mg:Str→Option Value}{base:Heap}{N ps:List Str}{qual:Str}{scope:Scope}{f:Addr}{cd:Value}{A:Around}{outer:List Env}{s s1:Shared}{H:Hp}{E:XK}{us:List Value}{vs:List V}
   (S:ax N ps scope)(hd:A.handled=none)(e0:pJ P w K mg base A outer s H)(hl:vs.length=ps.length)(r:Vals vs us)
   (x:InCallC s s.heap.objs.size (bindL (envOfC qual scope s.heap.objs.size f cd).kindOf (ps.zip us) fun _=>none) (cellsFrom (s.heap.objs.size+1) scope.names []) (bindC (envOfC qual scope s.heap.objs.size f cd).kindOf (ps.zip us) fun _=>none) s1) :
   Inv (eV CX P w K mg base N qual scope f cd A outer s H E) [] (start N vs) H s1:=by
 have hpl:ps.length≤N.length:=by have:=congrArg Cr S.pre;rw[Ao] at this;omega
 obtain⟨h1,tk,rfl,hk⟩:=x.done;have noA:∀ b:Addr,b∉(eV CX P w K mg base N qual scope f cd A outer s H E).ex:=fun b z=>absurd (show b∈([]:List Addr) from z) (by simp)
 refine⟨⟨e0.mod,S.kind,rfl,rfl,z7 _,fun y z c h1 h2=>?_,fun y hy=>?_,fun y c _ h=>?_,fun _=>hd,Around.frames_deeper e0.frames,.inr ⟨rfl,rfl⟩,fun b z=>absurd z (noA b),e0.bs,e0.bsz,fun b _ _=>noA b,fun b z=>absurd z (noA b),e0.funs,e0.frf⟩,
   rfl,e0.bare,Un.kept hk,⟨_,x.toInCall.ns,fun i y v h1 h2 h3=>?_⟩,fun y c h=>⟨_,x.cell y c h⟩,e0.hok.fresh (z7 _),fun y c h=>?_,fun p hp=>absurd (show p∈([]:List (Addr×Obj)) from hp) (by simp),e0.hok.kept hk,?_⟩
 . exact name_of_addr x.apart (Bb h1) (Bb h2)
 . have hy:scope.names.lookup y=some .cell∨scope.names.lookup y=some .free:=hy
   rcases hy with hy | hy
   . exact nX hy
   . exact absurd rfl (S.nofree _ (Bb hy))
 . exact CA (x.above y c (Bb h))
 . have hi:i < vs.length:=by
     unfold start at h2;by_cases hi:i < vs.length
     . exact hi
     . rw[z9 (by simpa using hi)] at h2;rw[List.getElem?_replicate] at h2
       split at h2<;>cases h2
   have ha:vs[i]?=some v:=by
     unfold start at h2;rw[Af (by simpa using hi),zX] at h2
     cases e:vs[i]? with
     | none=>rw[e] at h2;cases h2
     | some a=>rw[e] at h2;cases h2;rfl
   obtain⟨u,hu,rv⟩:=r.get ha
   have hp:ps[i]?=some y:=by
     rw[←S.pre,List.getElem?_take_of_lt (by omega)];exact h1
   have ndP:ps.Nodup:=by rw[←S.pre];exact S.nd.sublist (BG _ _)
   refine⟨u,rv,?_⟩
   rcases S.par y (z6 hp) with k | k
   . exact .inl ⟨k,lm ndP hp hu k⟩
   . obtain⟨c,e⟩:=nX (n:=s.heap.objs.size+1) k;refine .inr ⟨.inl k,c,e,?_⟩;have q:=x.cell y c e;rw[lR ndP hp hu (by show scope.names.lookup y≠_;rw[k];decide)] at q;exact q
 . exact e0.hok.fresh (CA (x.above y c (Bb h)))
 . unfold start;show _=N.length;rw[zY,be,List.length_replicate];omega
theorem xA {CX:CXT}{P:Program}{w:World}{K:PySem.W.Frag}{mg:Str→Option Value}{base:Heap}{k:Nat}{f:Addr}{name qual:Str}{params:Arguments}{body:List Stmt}{scope:Scope}{dV kV doc pm cdv ct oc:Value}{an od:Option Addr}
   {osl:Array (Option Value)}{N ps:List Str}{sp:Sp}(lk:K.lookup f=some ⟨oc,od,.func (BD name qual params body scope dV kV doc pm an cdv ct),osl⟩)(hcd:CK K cdv qual=true)(S:ax N ps scope)
   (len:∀ vs H Q E,sp vs H Q E→vs.length=ps.length)
   (hbody:∀ (A:Around)(outer:List Env)(s:Shared)(H:Hp)(vs:List V)(Q:VK)(E:XK),cL k (A.deeper (envOfC qual scope s.heap.objs.size f cdv))→sp vs H Q E →
     ∃ t,PSs (eV CX P w K mg base N qual scope f cdv A outer s H E) body t∧t { nx:=fun _ H'=>Q .non H',rt:=Q } (start N vs) H) :
   aU P w K mg base CX (k+1) f (BD name qual params body scope dV kV doc pm an cdv ct) ps sp:=by
 refine⟨len,fun A outer s H args us vs Q E hr e0 hb r hsp=>?_⟩;have hl:=len _ _ _ _ hsp;have KX:K.In s.heap:=e0.mod.kin.keeps fun b o e=>(e0.bs b o e).1;have lim:s.heap.NoLimit:=e0.mod.nolimit.keeps fun b o e=>(e0.bs b o e).1
 have hkind:∀ y∈ps.zip us,scope.names.lookup y.1=some .local∨(scope.names.lookup y.1=some .cell∧((cellsFrom (s.heap.objs.size+1) scope.names []).lookup y.1).isSome=true):=fun⟨n,v⟩ hy=>by
   rcases S.par n (CF hy).1 with q | q
   . exact .inl q
   . exact .inr ⟨q,PySem.W.cellsFrom_some _ _ _ (.inl q)⟩
 refine codeAny_call_function hr.depth (KX _ _ lk) rfl S.co S.gen rfl (PySem.W.codeRec_of KX hcd) (hb _ _ _ _ ?_);refine wpAny_newFunctionEnv_cells S.kind hkind fun env he s1 x=>?_;subst he;refine⟨lim.keeps x.toInCall.keep,codeAny_func ?_⟩;obtain⟨t,ht,hq⟩:=hbody A outer s H vs Q E (hr.deeper _) hsp;have I:Inv (eV CX P w K mg base N qual scope f cdv A outer s H E) [] (start N vs) H s1:=tX S hr.hd e0 hl r x;refine wpAny_mono (ht s1 (start N vs) H _ I hq) (fun fl s' hs=>?_) fun e s' hs=>hs
 have fin:∀ {σ':St}{H':Hp}{v:V}{u:Value},Inv (eV CX P w K mg base N qual scope f cdv A outer s H E) [] σ' H' s'→bd v u→Q v H'→CE outer P w H s Q u s' :=
   fun {σ' H' v u} J rv q=>⟨v,H',J.os,J.bare,J.base,J.hok,rv,q⟩
 cases fl with
 | ret u =>
   obtain⟨v,σ',H',J,rv,q⟩:=hs;exact fin J rv q
 | next =>
   obtain⟨σ',H',J,q⟩:=hs;exact fin (v:=V.non) (u:=Value.none) J rfl q
 | brk =>
   obtain⟨_,_,_,q⟩:=hs;exact False.elim q
 | cont =>
   obtain⟨_,_,_,q⟩:=hs;exact False.elim q
section
variable {X:Cx}{x:Str}{p pos:Pos}{e:Expr}{es:List Expr}{t:TA}{id T:String}{r:List V→Hp→VK→Prop}
def tCB (r:List V→Hp→VK→Prop)(t:TA):TE:=fun σ H Q=>t σ H fun vs H1=>r vs H1 Q
theorem al (hc:cw X (.builtin id) r)(hg:Gl X x)(hm:X.mg x=none)(hv:bootBuiltins x=some (.builtin id))(ha:PA X (e::es) t)(hn:x≠"__name__":=by decide)(hdb:(x==("__debug__":Str))=false:=by decide)
   (he:starEach (e::es) X.env=(false,eval e X.env)::starEach es X.env:=by rfl)(hpl:(backTo pos (starEach es X.env)).any (·.1)=false:=by rfl):PE X (.Call (.Name x p) (e::es) [] pos) (tCB r t):=by
 intro pins s σ H Q I h;refine wpAny_Call_Name_kw (iH I hg hm hv ?_ hn hdb);exact PyProof.Rows.callWith_builtin1 (thn (ha pos s σ H _ I h) fun us s1 ⟨vs,H1,I1,r1,q1⟩=>hc pins s1 σ H1 vs us Q I1 r1 q1) he hpl
theorem cu (hc:cw X (.type T) r)(hg:Gl X x)(hm:X.mg x=none)(hv:bootBuiltins x=some (.type T))(ha:PA X (e::es) t)(hn:x≠"__name__":=by decide)(hdb:(x==("__debug__":Str))=false:=by decide)
   (he:starEach (e::es) X.env=(false,eval e X.env)::starEach es X.env:=by rfl)(hpl:(backTo pos (starEach es X.env)).any (·.1)=false:=by rfl):PE X (.Call (.Name x p) (e::es) [] pos) (tCB r t):=by
 intro pins s σ H Q I h;refine wpAny_Call_Name_kw (iH I hg hm hv ?_ hn hdb);exact Bo (thn (ha pos s σ H _ I h) fun us s1 ⟨vs,H1,I1,r1,q1⟩=>hc pins s1 σ H1 vs us Q I1 r1 q1) he hpl
end
end L2
namespace HT
open PySem PyProof.Rows
section
open PySem.SeqAt
open PySem.AutoSeq1 (wpAny_loadPart')
open PySem.MeetsSeq PySem.MeetsSeq2 PySem.MeetsSeq3
end
section
variable {prog:Program}{w:World}{A:Around}{E:Value→Shared→Prop}{s:Shared}
def sIx (n d:Nat):Option Int→Nat
 | none=>d
 | some v=>if v < 0 then(v+(n:Int)).toNat else min v.toNat n
theorem sIx_none (n d:Nat):sIx n d none=d:=rfl
theorem sIx_nat (n d k:Nat):sIx n d (some (k:Int))=min k n:=by
 show(if(k:Int) < 0 then((k:Int)+(n:Int)).toNat else min (k:Int).toNat n)=min k n;rw[if_neg (by omega),AG]
end
end HT
namespace L2
open PySem PySem.Spec PyProof.Rows
abbrev TO:=St→Hp→(Option Int→Hp→Prop)→Prop
def PO (X:Cx)(e:Option Expr)(t:TO):Prop :=
 ∀ ⦃pins:List (Addr×Obj)⦄ (s:Shared) (σ:St)(H:Hp)(Q:Option Int→Hp→Prop),Inv X pins σ H s→t σ H Q →
   wpAny (model X.prog X.w) X.A (evalPart e X.env) (fun u s'=>∃ o H',Inv X pins σ H' s'∧IsPart u o∧Q o H') X.xe s
def l9:TO:=fun _ H Q=>Q none H
def vD (t:TE):TO:=fun σ H Q=>t σ H fun x H1=>∃ i,x=.int i∧Q (some i) H1
section
variable {X:Cx}{e:Expr}{te:TE}{lo hi:Option Expr}{tl th:TO}{pos p2:Pos}
theorem gj:PO X none l9:=by
 intro pins s σ H Q I h;rw[evalPart_none];exact wpAny_pure ⟨none,H,I,.none,h⟩
theorem eG (h:PE X e te):PO X (some e) (vD te):=by
 intro pins s σ H Q I hw;rw[evalPart_some];refine thn (h s σ H _ I hw) fun u s1 ⟨x,H1,I1,r1,q1⟩=>?_;obtain⟨i,rfl,q⟩:=q1;obtain⟨t,rfl⟩:=r1;exact⟨some i,H1,I1,.int i t,q⟩
def SlR (X:Cx)(r:V→Option Int→Option Int→Hp→VK→Prop):Prop :=
 ∀ (pins:List (Addr×Obj))(s:Shared) (σ:St)(H:Hp) (x:V) (v vl vu:Value)(lo hi:Option Int)(sl:Addr)(Q:VK),Inv X pins σ H s→bd x v→s.heap.IsSliceOf sl vl vu .none→IsPart vl lo→IsPart vu hi→r x lo hi H Q →
   ∃ T id,typeLookup (.type T) "__getitem__"=pure (some (.builtin id))∧s.TypeIs v T∧wpAny (model X.prog X.w) X.A (getItem v (.ref sl)) (EP X pins σ Q) X.xe s
def tSl (r:V→Option Int→Option Int→Hp→VK→Prop)(te:TE)(tl th:TO):TE:=fun σ H Q=>te σ H fun x H1=>tl σ H1 fun l H2=>th σ H2 fun u H3=>r x l u H3 Q
theorem er {r:V→Option Int→Option Int→Hp→VK→Prop}(hr:SlR X r)(he:PE X e te)(hl:PO X lo tl)(hu:PO X hi th):PE X (.Subscript e (.Slice lo hi none p2) pos) (tSl r te tl th):=by
 intro pins s σ H Q I h;refine Subscript_ (thn (he s σ H _ I h) fun v s1 ⟨x,H1,I1,r1,q1⟩=>?_);refine wpAny_Slice (thn (hl s1 σ H1 _ I1 q1) fun vl s2 ⟨l,H2,I2,pl,q2⟩=>thn (hu s2 σ H2 _ I2 q2) fun vu s3 ⟨u,H3,I3,pu,q3⟩=>?_);rw[evalPart_none];refine wpAny_pure ?_;have I4:Inv X pins σ H3 { s3 with heap:=s3.heap.push { cls:=.type "slice",data:=.fields #[vl,vu,.none] } }:=I3.kept (t':=s3.toks) fun b ob q=>Heap.get?_push_of_some _ q;obtain⟨T,id,hT,ht,hg⟩:=hr pins { s3 with heap:=s3.heap.push { cls:=.type "slice",data:=.fields #[vl,vu,.none] } } σ H3 x v vl vu l u s3.heap.objs.size Q I4 r1 (Heap.IsSliceOf.new ..) pl pu q3;show wpAny (model X.prog X.w) X.A (subscriptTail e (.Slice lo hi none p2) v (.ref s3.heap.objs.size)) (EP X pins σ Q) X.xe { s3 with heap:=s3.heap.push { cls:=.type "slice",data:=.fields #[vl,vu,.none] } };exact tail_any (ops:=[.ref s3.heap.objs.size,v]) ht hT hg (by with_unfolding_all rfl)
def gA (xs:List V)(lo hi:Option Int):List V:=(xs.drop (HT.sIx xs.length 0 lo)).take (HT.sIx xs.length xs.length hi - HT.sIx xs.length 0 lo)
theorem nZ (xs:List V)(lo hi:Option Int):(gA xs lo hi).length≤xs.length:=by
 unfold gA;rw[Ao,A3];omega
end
def ixN (n:Nat) (i:Int):Option Nat:=if 0≤i then(if i < n then some i.toNat else none) else if -(n:Int)≤i then some (i+n).toNat else none
def atI {α:Type}(xs:List α) (i:Int):Option α:=(ixN xs.length i).bind fun j=>xs[j]?
theorem rQ {n:Nat}{i:Int}{j:Nat}(h:ixN n i=some j):seqIndex? i n=some j∧j < n∧-(n:Int)≤i∧i < n:=by
 unfold ixN at h;by_cases h0:0≤i
 . rw[if_pos h0] at h;by_cases h1:i < n
   . rw[if_pos h1] at h;have e:i.toNat=j:=Option.some.inj h;exact⟨by rw[seqIndex_of h0 h1,e],by omega,by omega,h1⟩
   . rw[if_neg h1] at h;cases h
 . rw[if_neg h0] at h;by_cases h1:-(n:Int)≤i
   . rw[if_pos h1] at h;have e:(i+n).toNat=j:=Option.some.inj h;exact⟨by rw[seqIndex_neg (by omega) h1,e],by omega,h1,by omega⟩
   . rw[if_neg h1] at h;cases h
theorem lZ {α:Type}{xs:List α}{i:Int}{v:α}(h:atI xs i=some v):∃ j,seqIndex? i xs.length=some j∧xs[j]?=some v∧j < xs.length∧-(xs.length:Int)≤i∧i < xs.length:=by
 unfold atI at h
 cases e:ixN xs.length i with
 | none=>rw[e] at h;cases h
 | some j =>
   rw[e] at h;obtain⟨h1,h2,h3,h4⟩:=rQ e;exact⟨j,h1,h,h2,h3,h4⟩
theorem bS {α:Type}{xs:List α}{j:Nat}{v:α}(h:xs[j]?=some v):atI xs (j:Int)=some v:=by
 have hj:j < xs.length:=(List.getElem?_eq_some_iff.mp h).1
 have e:ixN xs.length (j:Int)=some j:=by
   unfold ixN;rw[if_pos (by omega),if_pos (by omega)];simp
 unfold atI;rw[e];exact h
theorem eQ {α:Type}(xs:List α)(v:α):atI (xs++[v]) (-1)=some v:=by
 have hl:(xs++[v]).length=xs.length+1:=by simp
 have e:ixN (xs++[v]).length (-1)=some xs.length:=by
   unfold ixN;rw[hl,if_neg (by decide),if_pos (by omega)]
   congr 1
   omega
 unfold atI;rw[e];show(xs++[v])[xs.length]?=some v;simp
def rf (b:Expr):Prop:=∀ o i,subscripted b false o i=operate [o,i] (getItem o i)
def IxR (X:Cx)(r:R2):Prop :=
 ∀ (value slice:Expr)(pins:List (Addr×Obj))(s:Shared) (σ:St)(H:Hp) (x y:V) (v u:Value)(Q:VK),Inv X pins σ H s→bd x v→bd y u→r x y H Q →
   subscripted slice false v u=operate [v,u] (getItem v u)→wpAny (model X.prog X.w) X.A (subscriptTail value slice v u) (EP X pins σ Q) X.xe s
def MtR (X:Cx)(id:String)(r:V→List V→Hp→VK→Prop):Prop :=
 ∀ (pins:List (Addr×Obj))(s:Shared) (σ:St)(H:Hp) (x:V)(xs:List V) (v:Value)(us:List Value)(Q:VK),Inv X pins σ H s→bd x v→Vals xs us→r x xs H Q →
   wpAny (model X.prog X.w) X.A (call (.builtin id) (v::us)) (EP X pins σ Q) X.xe s
section
variable {X:Cx}{a b:Expr}{ta tb:TE}{pos:Pos}
theorem IxR.or {r r':R2}(h:IxR X r)(h':IxR X r'):IxR X (fun x y H Q=>r x y H Q∨r' x y H Q):=by
 intro value slice pins s σ H x y v u Q I rx ry q hs
 rcases q with q | q
 . exact h value slice pins s σ H x y v u Q I rx ry q hs
 . exact h' value slice pins s σ H x y v u Q I rx ry q hs
theorem zJ {r:R2}(hr:IxR X r)(ha:PE X a ta)(hb:PE X b tb)(hs:rf b):PE X (.Subscript a b pos) (tOp r ta tb):=by
 intro pins s σ H Q I h;exact Subscript_ (ym ha hb I h fun v u s2 x y H2 I2 rx ry q=>hr a b pins s2 σ H2 x y v u Q I2 rx ry q (hs _ _))
def gQ (K:PySem.W.Frag):R2:=fun x y H Q=>oB x fun p=>∃ xs,isInt y fun i=>∃ v,SqL K H p xs∧atI xs i=some v∧Q v H
def qA (K:PySem.W.Frag):R2:=fun x y H Q=>oB x fun p=>∃ xs,isInt y fun i=>∃ v,SqT K H p xs∧atI xs i=some v∧Q v H
def xh:R2:=fun x y H Q=>∃ z i c,x=.str z∧y=.int i∧z.length≤sizeLine∧atI z.cps.toList i=some c∧Q (.str ⟨#[c]⟩) H
theorem ak:IxR X (gQ X.K):=by
 intro value slice pins s σ H x y v u Q I rx ry h hs;rw[gQ,jC] at h;obtain⟨p,rfl,xs,h⟩:=h;rw[da] at h;obtain⟨i,rfl,z,hq,he,q⟩:=h;cases rx;obtain⟨t,rfl⟩:=ry;obtain⟨its,r,pl,hz⟩:=I.list hq;obtain⟨j,h1,h2,h3,h4,h5⟩:=lZ he;obtain⟨w,ew,rw'⟩:=r.get h2;have hl:=r.length;have hn:=iT;have fin:EP X pins σ Q w s:=⟨z,H,I,rw',q⟩;by_cases h0:0≤i
 . have hj:i.toNat=j:=by
     rw[seqIndex_of h0 h5] at h1;exact Option.some.inj h1
   exact item_listR pl.isList h0 (by omega) (by rw[hj];simpa using ew) fin hs
 . have hj:(i+(its.toArray.size:Int)).toNat=j:=by
     rw[seqIndex_neg (by omega) h4] at h1;rw[Ah,←hl];exact Option.some.inj h1
   exact subscriptTail_builtinR (x:=w) pl.isList.typeIs slot_list_getitem.lookup
     (wpAny_getItem_list_neg (Q:=fun r s'=>r=w∧EP X pins σ Q r s') pl.isList (by omega) (by rw[Ah]<;>omega) (by omega) (by rw[hj];simpa using ew) ⟨rfl,fin⟩) hs
theorem aI:IxR X (qA X.K):=by
 intro value slice pins s σ H x y v u Q I rx ry h hs;rw[qA,jC] at h;obtain⟨p,rfl,xs,h⟩:=h;rw[da] at h;obtain⟨i,rfl,z,hq,he,q⟩:=h;cases rx;obtain⟨t,rfl⟩:=ry;obtain⟨its,r,pl,hz⟩:=I.tuple hq;obtain⟨j,h1,h2,h3,h4,h5⟩:=lZ he;obtain⟨w,ew,rw'⟩:=r.get h2;have hl:=r.length;have hn:=iT;have fin:EP X pins σ Q w s:=⟨z,H,I,rw',q⟩
 exact subscriptTail_builtinR (x:=w) pl.typeIs slot_tuple_getitem.lookup
   (getItem_tuple (j:=j) (Q:=fun r s'=>r=w∧EP X pins σ Q r s') pl (by omega) (by omega) (by rw[Ah,←hl];exact h1) (by simpa using ew) ⟨rfl,fin⟩) hs
theorem nq:IxR X xh:=by
 intro value slice pins s σ H x y v u Q I rx ry h hs;obtain⟨z,i,c,rfl,rfl,hz,he,q⟩:=h;obtain⟨t,rfl⟩:=rx;obtain⟨t',rfl⟩:=ry;obtain⟨j,h1,h2,h3,h4,h5⟩:=lZ he
 have hl:z.cps.toList.length=z.length:=by simp[Str.length]
 rw[hl] at h1 h4 h5;have hn:=iT
 exact tail_any (typeIs_str s z t) slot_str_getitem.lookup (getItem_str (c:=c) (by
   have e1:decide (i < -(2 ^ 63:Int))=false:=decide_eq_false (by omega);have e2:decide (i≥2 ^ 63)=false:=decide_eq_false (by omega)
   rw[e1,e2,Bool.or_false]) (by rw[h1];simpa using h2) ⟨.str ⟨#[c]⟩,H,I.tok _,⟨_,rfl⟩,q⟩) hs
def rIx (K:PySem.W.Frag):R2:=fun x y H Q=>gQ K x y H Q∨qA K x y H Q∨xh x y H Q
theorem vO:IxR X (rIx X.K):=ak.or (aI.or nq)
theorem qI (its:List Value) (n j:Nat) (u:Value):Obj.mapSeq (·.setIfInBounds j u) { cls:=.type "list",data:=.seq its.toArray n }={ cls:=.type "list",data:=.seq (its.set j u).toArray n }:=by
 simp[Obj.mapSeq]
theorem Inv.lst {pins:List (Addr×Obj)}{σ:St}{H:Hp}{s:Shared}{p:Addr}{xs:List V}(I:Inv X pins σ H s)(h:H p=some (.lst xs)) :
   ∃ (its:List Value) (n:Nat),Vals xs its∧s.heap.get? p=some { cls:=.type "list",data:=.seq its.toArray n }∧xs.length≤sizeLine:=by
 obtain⟨z,its,n,r,e⟩:=I.hok p _ h;exact⟨its,n,r,e,z⟩
theorem Inv.lstUpd {pins:List (Addr×Obj)}{σ:St}{H:Hp}{s:Shared}{p:Addr}{xs ys:List V}{its its':List Value}{n n':Nat}{f:Obj→Obj}(I:Inv X pins σ H s)(h:H p=some (.lst xs))
   (ho:s.heap.get? p=some { cls:=.type "list",data:=.seq its.toArray n })(hf:f { cls:=.type "list",data:=.seq its.toArray n }={ cls:=.type "list",data:=.seq its'.toArray n' })(r:Vals ys its')(hz:ys.length≤sizeLine) (t:Nat) :
   Inv X pins σ (upd H p (.lst ys)) { s with heap:=s.heap.update p f,toks:=t }:=by
 have e:(s.heap.update p f).get? p=some { cls:=.type "list",data:=.seq its'.toArray n' }:=by
   rw[Heap.get?_update_self f ho (by rw[hf]<;>rfl),hf]
 refine I.write (x:=p) (e:=p) (by rw[h];trivial) (.inl rfl) (fun b u hb q=>(Heap.get?_update_other _ _ (Ne.symm hb)).trans q) ⟨_,e⟩ ?_;exact⟨hz,its',n',r,e⟩
def uB:V→V→V→Hp→(Hp→Prop)→Prop:=fun o i v H Q=>∃ p xs k j,o=.ref p∧i=.int k∧H p=some (.lst xs)∧ixN xs.length k=some j∧Q (upd H p (.lst (xs.set j v)))
theorem ku:zn X uB:=by
 intro pins s σ H o i v ov iv u Q I ro ri rv h;obtain⟨p,xs,k,j,rfl,rfl,hp,hj,q⟩:=h;cases ro;obtain⟨t,rfl⟩:=ri;obtain⟨its,n,r,ho,hz⟩:=I.lst hp;obtain⟨h1,h2,h3,h4⟩:=rQ hj;have hl:=r.length;have hn:=iT
 have I':Inv X pins σ (upd H p (.lst (xs.set j v))) { s with heap:=s.heap.update p (Obj.mapSeq (·.setIfInBounds j u)) } :=
   I.lstUpd hp ho (qI its n j u) (r.set rv j) (by rw[CG];exact hz) s.toks
 by_cases h0:0≤k
 . have hk:k.toNat=j:=by
     rw[seqIndex_of h0 h4] at h1;exact Option.some.inj h1
   exact PySem.W.ki_setAt ho h0 (by omega) (by rw[Ah,←hl];exact h4) (by rw[hk];exact⟨_,I',q⟩)
 . have hk:(k+(its.toArray.size:Int)).toNat=j:=by
     rw[seqIndex_neg (by omega) h3] at h1;rw[Ah,←hl];exact Option.some.inj h1
   exact PySem.W.ki_setBack ho (by omega) (by rw[Ah,←hl];exact h3) (by omega) (by rw[hk];exact⟨_,I',q⟩)
theorem nv (lo hi:Option Int) (n:Nat):(sliceBounds lo hi none n).1=((HT.sIx n 0 lo:Nat):Int)∧(sliceBounds lo hi none n).2.1=((HT.sIx n n hi:Nat):Int)∧(sliceBounds lo hi none n).2.2=1:=by
 refine⟨?_,?_,rfl⟩
 . cases lo with
   | none=>simp[sliceBounds,HT.sIx]
   | some i =>
     simp only[sliceBounds,HT.sIx,Cw,show(1:Int) > 0 by decide,if_true];by_cases h:i < 0
     . simp only[h,if_true]<;>omega
     . simp only[h,if_false]<;>omega
 . cases hi with
   | none=>simp[sliceBounds,HT.sIx]
   | some i =>
     simp only[sliceBounds,HT.sIx,Cw,show(1:Int) > 0 by decide,if_true];by_cases h:i < 0
     . simp only[h,if_true]<;>omega
     . simp only[h,if_false]<;>omega
theorem kR (its:List Value)(lo hi:Option Int):slicePick its.toArray lo hi none=((its.drop (HT.sIx its.length 0 lo)).take (HT.sIx its.length its.length hi - HT.sIx its.length 0 lo)).toArray:=by
 obtain⟨h1,h2,h3⟩:=nv lo hi its.toArray.size;unfold slicePick;rw[h1,h2,h3];simp only[sliceRange_one,pick_run,Ah]<;>rfl
def xP (K:PySem.W.Frag):V→Option Int→Option Int→Hp→VK→Prop:=fun x lo hi H Q=>∃ a xs,x=.ref a∧SqL K H a xs∧∀ p,H p=none→Q (.ref p) (upd H p (.lst (gA xs lo hi)))
theorem gk:SlR X (xP X.K):=by
 intro pins s σ H x v vl vu lo hi sl Q I rx hs pl pu h;obtain⟨a,xs,rfl,hx,q⟩:=h;cases rx;obtain⟨its,r,ht,hz⟩:=I.list hx;have hlen:=r.length;refine⟨"list",_,slot_list_getitem.lookup,ht.isList.typeIs,?_⟩;refine wpAny_getItem_list_slice ht.isList hs pl pu .none (by simp) ?_ (by rw[Ah]<;>omega);rw[kR,←hlen];refine⟨.ref s.heap.objs.size,_,I.laid (t':=s.toks) (o:=.lst (gA xs lo hi)) (fun b ob q=>Heap.get?_push_of_some _ q) (z7 _) ?_,rfl,q _ (I.hok.fresh (z7 _))⟩;exact⟨AO (nZ xs lo hi) hz,_,0,(r.drop (HT.sIx xs.length 0 lo)).take (HT.sIx xs.length xs.length hi - HT.sIx xs.length 0 lo),Heap.get?_push_size _ rfl⟩
def dG:V→Bool
 | .non=>true
 | .bl _=>true
 | .int _=>true
 | .str _=>true
 | _=>false
def eqV:V→V→Bool
 | .non,.non=>true
 | .bl a,.bl b=>a==b
 | .bl a,.int b=>(if a then 1 else 0)==b
 | .int a,.bl b=>a==(if b then 1 else 0)
 | .int a,.int b=>a==b
 | .str a,.str b=>a==b
 | _,_=>false
theorem vT {A:Around}{s:Shared}{y x:V}{u v:Value}(ry:bd y u)(rx:bd x v)(fy:dG y=true)(fx:dG x=true):SeqAt.EqAt A s u v (eqV y x):=by
 cases y with
 | non =>
   cases ry
   cases x with
   | non=>cases rx;exact SeqAt.EqAt.same _
   | bl b=>cases rx;exact SeqAt.EqAt.none_bool b
   | int b=>obtain⟨t,rfl⟩:=rx;exact SeqAt.EqAt.none_int b t
   | str b=>obtain⟨t,rfl⟩:=rx;exact SeqAt.EqAt.none_str b t
   | _=>exact absurd (show false=true from fx) Bool.false_ne_true
 | bl a =>
   cases ry
   cases x with
   | non=>cases rx;exact SeqAt.EqAt.bool_none a
   | bl b=>cases rx;exact SeqAt.EqAt.bool_bool a b
   | int b=>obtain⟨t,rfl⟩:=rx;exact SeqAt.EqAt.bool_int a b t
   | str b=>obtain⟨t,rfl⟩:=rx;exact SeqAt.EqAt.bool_str a b t
   | _=>exact absurd (show false=true from fx) Bool.false_ne_true
 | int a =>
   obtain⟨t',rfl⟩:=ry
   cases x with
   | non=>cases rx;exact SeqAt.EqAt.int_none a t'
   | bl b=>cases rx;exact SeqAt.EqAt.int_bool a t' b
   | int b=>obtain⟨t,rfl⟩:=rx;exact SeqAt.EqAt.int_int a t' b t
   | str b=>obtain⟨t,rfl⟩:=rx;exact SeqAt.EqAt.int_str a t' b t
   | _=>exact absurd (show false=true from fx) Bool.false_ne_true
 | str a =>
   obtain⟨t',rfl⟩:=ry
   cases x with
   | non=>cases rx;exact SeqAt.EqAt.str_none a t'
   | bl b=>cases rx;exact SeqAt.EqAt.str_bool a t' b
   | int b=>obtain⟨t,rfl⟩:=rx;exact SeqAt.EqAt.str_int a t' b t
   | str b=>obtain⟨t,rfl⟩:=rx;exact SeqAt.EqAt.str_str a t' b t
   | _=>exact absurd (show false=true from fx) Bool.false_ne_true
 | _=>exact absurd (show false=true from fy) Bool.false_ne_true
def eqU (x:V) (u:Value):Bool:=match u with
 | .none=>eqV .non x
 | .bool b=>eqV (.bl b) x
 | .int i _=>eqV (.int i) x
 | .str z _=>eqV (.str z) x
 | _=>false
theorem uo {x y:V}{u:Value}(r:bd y u)(f:dG y=true):eqU x u=eqV y x:=by
 cases y with
 | non=>cases r;rfl
 | bl b=>cases r;rfl
 | int i=>obtain⟨t,rfl⟩:=r;rfl
 | str z=>obtain⟨t,rfl⟩:=r;rfl
 | _=>exact absurd (show false=true from f) Bool.false_ne_true
theorem gN {x:V}:∀ {xs:List V}{us:List Value},Vals xs us→xs.all dG=true→us.any (eqU x)=xs.any fun y=>eqV y x
 | _,_,.nil,_=>rfl
 | y::xs,u::us,.cons r t,f=>by
   rw[Cv,Bool.and_eq_true] at f;rw[Bz,Bz,uo r f.1,gN t f.2]
theorem fK {A:Around}{s:Shared}{x:V}{v:Value}(rx:bd x v)(fx:dG x=true):∀ {xs:List V}{us:List Value},Vals xs us→xs.all dG=true→∀ u∈us,SeqAt.EqAt A s u v (eqU x u)
 | _,_,.nil,_=>fun u hu=>by cases hu
 | y::xs,u::us,.cons r t,f=>fun u' hu=>by
   rw[Cv,Bool.and_eq_true] at f
   rcases List.mem_cons.mp hu with rfl | hu
   . rw[uo r f.1];exact vT r rx f.1 fx
   . exact fK rx fx t f.2 u' hu
def inV (x:V)(xs:List V):Bool:=xs.any fun y=>eqV y x
def rIn (K:PySem.W.Frag)(neg:Bool):R2:=fun x y H Q=>∃ p xs,y=.ref p∧(SqL K H p xs∨SqT K H p xs)∧dG x=true∧xs.all dG=true∧Q (.bl (if neg then !inV x xs else inV x xs)) H
theorem lA:OpR X (compareOp .In) (rIn X.K false):=by
 intro pins s σ H x y v u Q I rx ry h;obtain⟨p,xs,rfl,hq,fx,fs,q⟩:=h;cases ry
 rcases hq with hq | hq
 . obtain⟨its,r,pl,hz⟩:=I.list hq;refine SeqAt.in_listAt (eqU x) pl.isList (fun w hw=>fK rx fx r fs w (by simpa using hw)) ⟨.bl _,H,I,rfl,?_⟩;rw[show its.toArray.any (eqU x)=its.any (eqU x) by simp,gN r fs];exact q
 . obtain⟨its,r,pl,hz⟩:=I.tuple hq;refine SeqAt.in_tupleAt (eqU x) pl (fun w hw=>fK rx fx r fs w (by simpa using hw)) ⟨.bl _,H,I,rfl,?_⟩;rw[show its.toArray.any (eqU x)=its.any (eqU x) by simp,gN r fs];exact q
theorem cC:OpR X (compareOp .NotIn) (rIn X.K true):=by
 intro pins s σ H x y v u Q I rx ry h;obtain⟨p,xs,rfl,hq,fx,fs,q⟩:=h;cases ry
 rcases hq with hq | hq
 . obtain⟨its,r,pl,hz⟩:=I.list hq;refine SeqAt.notIn_listAt (eqU x) pl.isList (fun w hw=>fK rx fx r fs w (by simpa using hw)) ⟨.bl _,H,I,rfl,?_⟩;rw[show its.toArray.any (eqU x)=its.any (eqU x) by simp,gN r fs];exact q
 . obtain⟨its,r,pl,hz⟩:=I.tuple hq;refine SeqAt.notIn_tupleAt (eqU x) pl (fun w hw=>fK rx fx r fs w (by simpa using hw)) ⟨.bl _,H,I,rfl,?_⟩;rw[show its.toArray.any (eqU x)=its.any (eqU x) by simp,gN r fs];exact q
theorem mj:OpR X (compareOp .NotIn) (fun x y H Q=>∃ i j,x=.str i∧y=.str j∧Q (.bl (!(!(Builtin.Str.occurrences j i 0 j.length 1).isEmpty))) H):=by
 intro pins s σ H x y v u Q I rx ry h;obtain⟨i,j,rfl,rfl,q⟩:=h;obtain⟨t,rfl⟩:=rx;obtain⟨t',rfl⟩:=ry;exact notIn_str ⟨.bl _,H,I,rfl,q⟩
theorem au:cw X (.builtin "len") (fun xs H Q=>∃ p ys,xs=[.ref p]∧(SqL X.K H p ys∨SqT X.K H p ys)∧Q (.int ys.length) H):=by
 intro pins s σ H xs us Q I r h;obtain⟨p,ys,rfl,hq,q⟩:=h;obtain⟨u,rfl,rx⟩:=eA r;cases rx;have hn:=iT
 rcases hq with hq | hq
 . obtain⟨its,r',pl,hz⟩:=I.list hq;have hlen:=r'.length;exact Calls.call_len_list pl.isList (by simp only[Ah]<;>omega) ⟨.int ys.length,H,I.tok _,⟨s.toks+1,by rw[Ah,hlen]⟩,q⟩
 . obtain⟨its,r',pl,hz⟩:=I.tuple hq;have hlen:=r'.length;exact len_tuple pl (by simp only[Ah]<;>omega) ⟨.int ys.length,H,I.tok _,⟨s.toks+1,by rw[Ah,hlen]⟩,q⟩
theorem dY:cw X (.builtin "len") (fun xs H Q=>∃ z,xs=[.str z]∧z.length≤sizeLine∧Q (.int z.length) H):=by
 intro pins s σ H xs us Q I r h;obtain⟨z,rfl,hz,q⟩:=h;obtain⟨u,rfl,t,rfl⟩:=eA r;have hn:=iT;exact len_str (by omega) ⟨.int z.length,H,I.tok _,⟨_,rfl⟩,q⟩
theorem dW:cw X (.type "list") (fun xs H Q=>∃ p ys,xs=[.ref p]∧(SqL X.K H p ys∨SqT X.K H p ys)∧∀ l,H l=none→Q (.ref l) (upd H l (.lst ys))):=by
 intro pins s σ H xs us Q I r h;obtain⟨p,ys,rfl,hq,q⟩:=h;obtain⟨u,rfl,rx⟩:=eA r;cases rx
 have fin:∀ (its:List Value),Vals ys its→ys.length≤sizeLine→∀ (h':Heap) (c':Nat),(∀ b o',s.heap.get? b=some o'→h'.get? b=some o') →
     h'.get? s.heap.objs.size=some { cls:=.type "list",dict:=none,data:=.seq its.toArray c',slots:=#[] }→EP X pins σ Q (.ref s.heap.objs.size) { s with heap:=h' }:=fun its r' hz h' c' kp e =>
   ⟨.ref s.heap.objs.size,_,I.laid (t':=s.toks) kp (z7 _) (show bR X.prog X.w _ h' _ (.lst ys) from⟨hz,its,c',r',e⟩),rfl,q _ (I.hok.fresh (z7 _))⟩
 rcases hq with hq | hq
 . obtain⟨its,r',pl,hz⟩:=I.list hq;have hlen:=r'.length;obtain⟨o,ho,hc,n,hd⟩:=pl.isList;exact call_list_seq p (.inl rfl) ho hc hd (fun h' c' kp e=>fin its r' hz h' c' kp e) (by simp only[Ah]<;>omega)
 . obtain⟨its,r',pl,hz⟩:=I.tuple hq;have hlen:=r'.length;obtain⟨o,ho,hc,n,hd⟩:=pl;exact call_list_seq p (.inr rfl) ho hc hd (fun h' c' kp e=>fin its r' hz h' c' kp e) (by simp only[Ah]<;>omega)
theorem gu:cw X (.type "tuple") (fun xs H Q=>∃ p ys,xs=[.ref p]∧((SqL X.K H p ys∧∀ l,H l=none→Q (.ref l) (upd H l (.tup ys)))∨(SqT X.K H p ys∧Q (.ref p) H))):=by
 intro pins s σ H xs us Q I r h;obtain⟨p,ys,rfl,h⟩:=h;obtain⟨u,rfl,rx⟩:=eA r;cases rx
 rcases h with ⟨hq,q⟩ | ⟨hq,q⟩
 . obtain⟨its,r',pl,hz⟩:=I.list hq;have hlen:=r'.length;refine call_tuple_list pl.isList (fun h' kp=>?_) (by simp only[Ah]<;>omega);have I1:Inv X pins σ H { s with heap:=h' }:=I.kept (t':=s.toks) kp
   have I2:Inv X pins σ (upd H h'.objs.size (.tup ys)) { s with heap:=h'.push { cls:=.type "tuple",data:=.seq its.toArray } } :=
     I1.laid (t':=s.toks) (fun b o e=>Heap.get?_push_of_some _ e) (z7 _) (show bR X.prog X.w _ _ _ (.tup ys) from⟨hz,its,r',IsTup.new _ _⟩)
   exact⟨.ref h'.objs.size,_,I2,rfl,q _ (I1.hok.fresh (z7 _))⟩
 . obtain⟨its,r',pl,hz⟩:=I.tuple hq;exact call_tuple_same pl ⟨.ref p,H,I,rfl,q⟩
def tyV (K:PySem.W.Frag)(T:String) (x:V)(H:Hp):Prop:=match x with
 | .str _=>T="str"
 | .int _=>T="int"
 | .ref p=>(T="list"∧∃ xs,SqL K H p xs)∨(T="tuple"∧∃ o,K.lookup p=some o∧o.cls=.type "tuple"∧o.dict=none) ∨
     (T="dict"∧((∃ kvs,H p=some (.dK kvs))∨∃ kvs,H p=some (.dT kvs)))∨(T="set"∧∃ S n,H p=some (.set S n))
 | _=>False
theorem vM {pins:List (Addr×Obj)}{σ:St}{H:Hp}{s:Shared}{T:String}{x:V}{v:Value}(I:Inv X pins σ H s)(r:bd x v)(ty:tyV X.K T x H) :
   s.TypeIs v T∧∀ a,v=.ref a→∃ ob,s.heap.get? a=some ob∧ob.dict=none:=by
 cases x with
 | str z =>
   obtain⟨t,rfl⟩:=r;cases (show T="str" from ty);exact⟨typeIs_str s z t,fun _ e=>nomatch e⟩
 | int i =>
   obtain⟨t,rfl⟩:=r;cases (show T="int" from ty);exact⟨typeIs_int s i t,fun _ e=>nomatch e⟩
 | ref p =>
   cases r
   rcases ty with ⟨rfl,xs,hq⟩ | ⟨rfl,o,hk,hc,hd⟩ | ⟨rfl,hk⟩ | ⟨rfl,S,n,hk⟩
   . obtain⟨its,_,pl,_⟩:=I.list hq;refine⟨pl.isList.typeIs,fun a e=>?_⟩;cases e;obtain⟨o,n,e,c,hd,_⟩:=pl;exact⟨o,e,hd⟩
   . refine⟨⟨o,I.kIn p o hk,hc⟩,fun a e=>?_⟩;cases e;exact⟨o,I.kIn _ o hk,hd⟩
   . have z:∃ o,s.heap.get? p=some o∧o.ExactDict:=by
       rcases hk with ⟨kvs,hk⟩ | ⟨kvs,hk⟩
       . obtain⟨_,_,_,_,o,_,_,e,ex,_⟩:=I.hok p _ hk;exact⟨o,e,ex⟩
       . obtain⟨_,_,_,_,o,_,_,e,ex,_⟩:=I.hok p _ hk;exact⟨o,e,ex⟩
     obtain⟨o,e,ex⟩:=z;refine⟨⟨o,e,ex.1⟩,fun a e2=>?_⟩;cases e2;exact⟨o,e,ex.2.1⟩
   . obtain⟨o,_,_,_,e,ex,_⟩:=I.hok p _ hk;refine⟨⟨o,e,ex.1⟩,fun a e2=>?_⟩;cases e2;exact⟨o,e,ex.2.1⟩
 | _=>exact False.elim ty
def ye (K:PySem.W.Frag)(T:String)(r:V→List V→Hp→VK→Prop)(to:TE):TE:=fun σ H Q=>to σ H fun x H1=>tyV K T x H1∧r x [] H1 Q
def tBM (K:PySem.W.Frag)(T:String)(r:V→List V→Hp→VK→Prop)(to:TE)(t:TA):TE:=fun σ H Q=>to σ H fun x H1=>tyV K T x H1∧t σ H1 fun xs H2=>r x xs H2 Q
variable {o e:Expr}{es:List Expr}{to:TE}{t:TA}{name:Str}{apos cpos:Pos}{T id:String}{r:V→List V→Hp→VK→Prop}
theorem yh (pa:PlainAttrs T)(slot:Slot T name id)(hty:typeOf (.builtin id)=pure (.type "method_descriptor"))(hm:MtR X id r)(ho:PE X o to)
   (hbase:attributeBase o name X.env (eval o X.env)=eval o X.env:=by rfl)(hline:(apos.endLine==cpos.line)=true:=by rfl):PE X (.Call (.Attribute o name apos) [] [] cpos) (ye X.K T r to):=by
 intro pins s σ H Q I h;refine wpAny_Call_method0_late hbase hline (thn (ho s σ H _ I h) fun v s1 ⟨x,H1,I1,r1,ty,q1⟩=>?_);obtain⟨h1,h2⟩:=vM I1 r1 ty;exact⟨T,id,pa,slot,hty,h1,h2,Calls.callWith_builtin rfl (PySem.evalArgs_none (hm pins s1 σ H1 x [] v [] Q I1 r1 .nil q1))⟩
theorem eI (pa:PlainAttrs T)(slot:Slot T name id)(hty:typeOf (.builtin id)=pure (.type "method_descriptor"))(hm:MtR X id r)(ho:PE X o to)(ha:PA X (e::es) t)
   (hbase:attributeBase o name X.env (eval o X.env)=eval o X.env:=by rfl)
   (hfew:((backTo cpos (starEach (e::es) X.env)).all (fun x=>!x.1)&&(backToKw cpos (keywordEach [] X.env)).all (fun x=>x.1.isSome)
     && decide ((e::es).length+([]:List Keyword).length+(if([]:List Keyword).isEmpty then 0 else 1) < 30))=true:=by rfl)
   (hline:(apos.endLine==cpos.line)=true:=by rfl)(hs:starEach (e::es) X.env=(false,eval e X.env)::starEach es X.env:=by rfl)(hplain:(backTo cpos (starEach es X.env)).any (·.1)=false:=by rfl) :
   PE X (.Call (.Attribute o name apos) (e::es) [] cpos) (tBM X.K T r to t):=by
 intro pins s σ H Q I h;refine wpAny_Call_method_late hbase hfew hline rfl (thn (ho s σ H _ I h) fun v s1 ⟨x,H1,I1,r1,ty,q1⟩=>?_);obtain⟨h1,h2⟩:=vM I1 r1 ty;refine⟨T,id,pa,slot,hty,h1,h2,?_⟩;have hA:=ha cpos s1 σ H1 _ I1 q1;rw[hs] at hA ⊢;refine Calls.callWith_builtin (by show(false||(backTo cpos (starEach es X.env)).any (·.1))=false;rw[hplain]<;>rfl) (Calls.evalArgs_plain ?_);exact thn hA fun us s2 ⟨vs,H2,I2,r2,q2⟩=>hm pins s2 σ H2 x vs v us Q I2 r1 r2 q2
end
def MtM (X:Cx)(id:String)(r:V→List V→Hp→VK→Prop):Prop :=
 ∀ (pins:List (Addr×Obj))(s:Shared) (σ:St)(H:Hp) (x:V)(xs:List V) (v:Value)(us:List Value)(Q:VK),Inv X pins σ H s→bd x v→Vals xs us→r x xs H Q →
   wpAny (model X.prog X.w) X.A (call (.builtin id) (v::us)) (EP X pins σ Q) X.xe s
theorem Vals.one:∀ {x:V}{us:List Value},Vals [x] us→∃ u,us=[u]∧bd x u
 | _,_,.cons r .nil=>⟨_,rfl,r⟩
theorem Vals.two:∀ {x y:V}{us:List Value},Vals [x,y] us→∃ u v,us=[u,v]∧bd x u∧bd y v
 | _,_,_,.cons r (.cons q .nil)=>⟨_,_,rfl,r,q⟩
theorem Vals.zero:∀ {us:List Value},Vals [] us→us=[]
 | _,.nil=>rfl
theorem Vals.dropLast {xs:List V}{us:List Value}(h:Vals xs us):Vals xs.dropLast us.dropLast:=by
 induction h with
 | nil=>exact .nil
 | cons r t ih =>
   cases t with
   | nil=>exact .nil
   | cons q t'=>exact .cons r ih
theorem Vals.eraseIdx:∀ {xs:List V}{us:List Value} (i:Nat),Vals xs us→Vals (xs.eraseIdx i) (us.eraseIdx i)
 | _,_,_,.nil=>.nil
 | _,_,0,.cons _ t=>t
 | _,_,i+1,.cons r t=>.cons r (Vals.eraseIdx i t)
theorem Vals.rep {xs:List V}{us:List Value}(h:Vals xs us):∀ k:Nat,Vals (Ae k xs).flatten (Ae k us).flatten
 | 0=>.nil
 | k+1=>by
   rw[Bc,Bc,BH,BH];exact Vals.append h (Vals.rep h k)
theorem pi {α:Type}(l:List α):l.eraseIdx (l.length - 1)=l.dropLast:=by
 induction l with
 | nil=>rfl
 | cons a r ih =>
   cases r with
   | nil=>rfl
   | cons b r =>
     have e:(a::b::r).length - 1=((b::r).length - 1)+1:=by
       have h1:(a::b::r).length=r.length+2:=rfl;have h2:(b::r).length=r.length+1:=rfl;omega
     rw[e,List.eraseIdx_cons_succ,ih]
     all_goals rfl
theorem k8 {α:Type}:∀ (l:List α) (i:Nat),(l.eraseIdx i).length≤l.length
 | [],_=>z7 _
 | _::_,0=>CJ _
 | _::r,i+1=>Nat.succ_le_succ (k8 r i)
theorem lx (its:List Value):∀ (k:Nat)(acc:List Value),
   CW (fun x1 x2=>x1++x2) acc.toArray (Ae k its.toArray)=(acc++(Ae k its).flatten).toArray
 | 0,acc=>by simp
 | k+1,acc=>by
   have e:acc.toArray++its.toArray=(acc++its).toArray:=by simp
   have e2:(acc++its)++(Ae k its).flatten=acc++(Ae (k+1) its).flatten:=by
     rw[Bc,BH,Bv]
   rw[←e2,←lx its k (acc++its),←e,Bc,BQ]
section
variable {X:Cx}{pins:List (Addr×Obj)}{σ:St}{H:Hp}{s:Shared}{l b:Addr}{xs ys zs:List V}
theorem Inv.lset {its its':List Value}{n:Nat}{f:Array Value→Array Value}{t':Nat}(I:Inv X pins σ H s)(hH:H l=some (.lst xs))
   (e:s.heap.get? l=some { cls:=.type "list",data:=.seq its.toArray n })(hf:f its.toArray=its'.toArray)(hv:Vals ys its')(hz:ys.length≤sizeLine) :
   Inv X pins σ (upd H l (.lst ys)) { s with heap:=s.heap.update l (Obj.mapSeq f),toks:=t' }:=by
 have q:=PySem.IsL.update e f;rw[hf] at q;refine I.write (x:=l) (e:=l) (by rw[hH];exact trivial) (.inl rfl) (fun b' u hb hu=>(Heap.get?_update_other s.heap (Obj.mapSeq f) (Ne.symm hb)).trans hu) ⟨_,q⟩ ?_;exact⟨hz,its',_,hv,q⟩
theorem Inv.lnew {its:List Value}{t':Nat}(I:Inv X pins σ H s)(hv:Vals ys its)(hz:ys.length≤sizeLine) :
   Inv X pins σ (upd H s.heap.objs.size (.lst ys)) { s with heap:=s.heap.push { cls:=.type "list",data:=.seq its.toArray },toks:=t' } :=
 I.laid (fun _ _ q=>Heap.get?_push_of_some _ q) (z7 _) ⟨hz,its,0,hv,Heap.get?_push_size _ rfl⟩
theorem Inv.fresh (I:Inv X pins σ H s):H s.heap.objs.size=none:=I.hok.fresh (z7 _)
theorem Inv.lstM (I:Inv X pins σ H s)(hH:H l=some (.lst xs)):xs.length≤sizeLine∧∃ (its:List Value) (n:Nat),Vals xs its∧xs.length=its.length∧s.heap.get? l=some { cls:=.type "list",data:=.seq its.toArray n }:=by
 obtain⟨z,its,n,r,e⟩:=I.hok l _ hH;exact⟨z,its,n,r,r.length,e⟩
theorem nF {n:Nat}(h:n≤sizeLine):Builtin.List.listTooLong n=false:=by
 unfold Builtin.List.listTooLong;exact decide_eq_false (by omega)
end
section
variable {X:Cx}
def nh:V→List V→Hp→VK→Prop:=fun x vs H Q=>∃ l xs y,x=.ref l∧vs=[y]∧H l=some (.lst xs)∧xs.length < sizeLine∧Q .non (upd H l (.lst (xs++[y])))
theorem bN:MtM X "list.append" nh:=by
 intro pins s σ H x vs v us Q I rx rv h;obtain⟨l,xs,y,rfl,rfl,hH,hz,q⟩:=h;cases rx;obtain⟨u,rfl,ru⟩:=rv.one;obtain⟨z,its,n,r,hl,e⟩:=I.lstM hH;refine call_meets F.slot_list_append ⟨_,e,rfl⟩ F.entry_list_append (F.args_list_append_2 _ _) (PySem.list_append l its.toArray n u (by rw[Ah];omega)) ⟨e,?_⟩;refine⟨.non,_,I.lset (its':=its++[u]) hH e (by simp) (r.append (.cons ru .nil)) ?_,rfl,q⟩;rw[zY,Aa];omega
def mD:V→List V→Hp→VK→Prop:=fun x vs H Q=>∃ l b xs zs,x=.ref l∧vs=[.ref b]∧H l=some (.lst xs)∧H b=some (.lst zs)∧xs.length+zs.length≤sizeLine∧Q .non (upd H l (.lst (xs++zs)))
theorem yU:MtM X "list.extend" mD:=by
 intro pins s σ H x vs v us Q I rx rv h;obtain⟨l,b,xs,zs,rfl,rfl,hH,hB,hz,q⟩:=h;cases rx;obtain⟨u,rfl,ru⟩:=rv.one;cases ru;obtain⟨z,its,n,r,hl,e⟩:=I.lstM hH;obtain⟨z2,its2,n2,r2,hl2,e2⟩:=I.lstM hB
 have hsz:its.toArray.size+its2.toArray.size≤sizeLine:=by rw[Ah,Ah];omega
 have hlong:¬(!its.toArray.isEmpty&&Builtin.List.listTooLong (its.toArray.size+its2.toArray.size))=true:=by
   rw[nF hsz,Bool.and_false];exact Bool.false_ne_true
 refine call_meets F.slot_list_extend ⟨_,e,rfl⟩ F.entry_list_extend (F.args_list_extend_2 _ _)
   (AutoSeq1.list_extend_list_list_0 l its.toArray n b its2.toArray n2 hlong (by rw[Ah];omega) (by omega)) ⟨e,e2,?_⟩
 refine⟨.non,_,I.lset (its':=its++its2) hH e (by simp) (r.append r2) ?_,rfl,q⟩;rw[zY];omega
def zN:V→List V→Hp→VK→Prop:=fun x vs H Q=>∃ l xs y,x=.ref l∧vs=[]∧H l=some (.lst xs)∧xs[xs.length - 1]?=some y∧Q y (upd H l (.lst xs.dropLast))
theorem yL:MtM X "list.pop" zN:=by
 intro pins s σ H x vs v us Q I rx rv h;obtain⟨l,xs,y,rfl,rfl,hH,hy,q⟩:=h;cases rx;have hus:=rv.zero;subst hus;obtain⟨z,its,n,r,hl,e⟩:=I.lstM hH;obtain⟨u,hu,ru⟩:=r.get hy
 have hy':its.toArray[its.toArray.size - 1]?=some u:=by
   show its.toArray[its.length - 1]?=some u;rw[←Be,←hl];exact hu
 refine call_meets F.slot_list_pop ⟨_,e,rfl⟩ F.entry_list_pop (F.args_list_pop_1 _) (MeetsSeq.list_pop_last l its.toArray n u hy' (by rw[Ah];omega)) ⟨e,?_⟩;refine⟨y,_,I.lset (its':=its.dropLast) hH e ?_ r.dropLast ?_,ru,q⟩
 . show its.toArray.eraseIdxIfInBounds (its.toArray.size - 1)=its.dropLast.toArray;rw[Ah,List.eraseIdxIfInBounds_toArray,pi]
 . rw[AZ];omega
def qa:V→List V→Hp→VK→Prop:=fun x vs H Q=>∃ l xs i k y,x=.ref l∧vs=[.int i]∧H l=some (.lst xs)∧-(2 ^ 63)≤i∧i < 2 ^ 63∧seqIndex? i xs.length=some k∧xs[k]?=some y∧Q y (upd H l (.lst (xs.eraseIdx k)))
theorem ul:MtM X "list.pop" qa:=by
 intro pins s σ H x vs v us Q I rx rv h;obtain⟨l,xs,i,k,y,rfl,rfl,hH,h1,h2,hk,hy,q⟩:=h;cases rx;obtain⟨u,rfl,ru⟩:=rv.one;obtain⟨t,rfl⟩:=ru;obtain⟨z,its,n,r,hl,e⟩:=I.lstM hH;obtain⟨w,hw,rw'⟩:=r.get hy
 refine call_meets F.slot_list_pop ⟨_,e,rfl⟩ F.entry_list_pop (F.args_list_pop_2 _ _)
   (MeetsSeq.list_pop_at l its.toArray n i t k w (fitsIndex_both h1 h2) (by rw[Ah,←hl];exact hk) (by rw[←Be];exact hw) (by rw[Ah];omega)) ⟨e,?_⟩
 refine⟨y,_,I.lset (its':=its.eraseIdx k) hH e ?_ (r.eraseIdx k) ?_,rw',q⟩
 . show its.toArray.eraseIdxIfInBounds k=(its.eraseIdx k).toArray;rw[List.eraseIdxIfInBounds_toArray]
 . have:=k8 xs k;omega
def zE:R2:=fun x y H Q=>∃ l b xs zs,x=.ref l∧y=.ref b∧H l=some (.lst xs)∧H b=some (.lst zs)∧xs.length+zs.length≤sizeLine∧∀ p,H p=none→Q (.ref p) (upd H p (.lst (xs++zs)))
theorem fb:OpR X (binaryOp .Add) zE:=by
 intro pins s σ H x y v u Q I rx ry h;obtain⟨l,b,xs,zs,rfl,rfl,hH,hB,hz,q⟩:=h;cases rx;cases ry;obtain⟨z,its,n,r,hl,e⟩:=I.lstM hH;obtain⟨z2,its2,n2,r2,hl2,e2⟩:=I.lstM hB;refine PySem.P.add_list e e2 ?_ (by rw[Ah,Ah];omega)
 have ea:its.toArray++its2.toArray=(its++its2).toArray:=by simp
 rw[ea];exact⟨.ref _,_,I.lnew (t':=s.toks) (r.append r2) (by rw[zY];omega),rfl,q _ I.fresh⟩
def xZ:R2:=fun x y H Q=>∃ l k xs,x=.ref l∧y=.int k∧H l=some (.lst xs)∧-(2 ^ 63)≤k∧k < 2 ^ 63∧xs.length*k.toNat≤sizeLine ∧
 ∀ p,H p=none→Q (.ref p) (upd H p (.lst (Ae k.toNat xs).flatten))
theorem mG {α:Type}(xs:List α) (k:Nat):(Ae k xs).flatten.length=k*xs.length:=by
 induction k with
 | zero=>simp
 | succ k ih=>rw[Bc,BH,zY,ih,Nat.succ_mul,Nat.add_comm]
theorem pA:OpR X (binaryOp .Mult) xZ:=by
 intro pins s σ H x y v u Q I rx ry h;obtain⟨l,k,xs,rfl,rfl,hH,h1,h2,hz,q⟩:=h;cases rx;obtain⟨t,rfl⟩:=ry;obtain⟨z,its,n,r,hl,e⟩:=I.lstM hH
 have hlen:its.toArray.size*k.toNat≤sizeLine:=by rw[Ah,←hl];exact hz
 have hcap:¬its.toArray.size*k.toNat > (2 ^ 63 - 1) / 8:=by
   have:(sizeLine:Nat)≤(2 ^ 63 - 1) / 8:=by decide
   omega
 have hfit:¬(!Builtin.List.listFitsIndex k)=true:=by
   rw[fitsIndex_both h1 h2];exact Bool.false_ne_true
 have hlong:¬Builtin.List.listTooLong (its.toArray.size*k.toNat)=true:=by
   rw[nF hlen];exact Bool.false_ne_true
 have hnew:CW (fun x1 x2=>x1++x2) #[] (Ae (if its.toArray.isEmpty=true then 0 else k.toNat) its.toArray)=(Ae k.toNat its).flatten.toArray:=by
   have f0:∀ m:Nat,CW (fun x1 x2=>x1++x2) #[] (Ae m its.toArray)=(Ae m its).flatten.toArray:=fun m=>by
     have:=lx its m [];rw[List.nil_append] at this;exact this
   rw[f0]
   cases its with
   | nil=>simp
   | cons a r'=>rw[if_neg (by simp)]
 refine wpAny_binaryOp_repeat_ref (T:="list") (U:="int") (by decide) ⟨_,e,rfl⟩ (fun s'=>typeIs_int s' k t) noFill_list_mul F.fills_int_mul F.slot_int_rmul repeat_list F.slot_int_index.lookup
   (call_meets F.slot_int_rmul (typeIs_int s k t) F.entry_int_rmul (F.args_int_rmul_2 _ _) (int___rmul___int_list k t l its.toArray n)
     ⟨e,rfl,⟨_,e,rfl⟩,call_meets F.slot_list_mul ⟨_,e,rfl⟩ F.entry_list_mul (F.args_list_mul_2 _ _) (AutoListH.list___mul___list_int_3 l its.toArray n k t hfit hcap hlong) ⟨e,?_⟩⟩)
 rw[hnew];exact⟨.ref _,_,I.lnew (t':=s.toks) (r.rep k.toNat) (by rw[mG,Nat.mul_comm];exact hz),rfl,q _ I.fresh⟩
end
section
variable {prog:Program}{w:World}{A:Around}{E:Value→Shared→Prop}{s:Shared}
set_option maxRecDepth 100000 in
end
section
variable {X:Cx}
end
section
variable {κ:Type} [DecidableEq κ]
def bG (kvs:List (κ×V))(k:κ):Option V:=(kvs.find? fun kv=>decide (kv.1=k)).map (·.2)
def dj (kvs:List (κ×V))(k:κ) (v:V):List (κ×V) :=
 if(kvs.any fun kv=>decide (kv.1=k))=true then kvs.map (fun kv=>if kv.1=k then(kv.1,v) else kv) else kvs++[(k,v)]
theorem cq {p:κ×V}{r:List (κ×V)}{k:κ}(e:p.1=k):bG (p::r) k=some p.2:=by simp[bG,Bn,e]
theorem cj {p:κ×V}{r:List (κ×V)}{k:κ}(e:¬p.1=k):bG (p::r) k=bG r k:=by simp[bG,Bn,e]
theorem d8 (k:κ):∀ kvs:List (κ×V),(kvs.any fun kv=>decide (kv.1=k))=(bG kvs k).isSome
 | []=>rfl
 | p::r=>by
   rw[Bz];by_cases e:p.1=k
   . simp only[cq e,decide_eq_true e,Bool.true_or,Option.isSome_some]
   . rw[cj e,decide_eq_false e,Bool.false_or];exact d8 k r
theorem nw (k j:κ) (y:V):∀ kvs:List (κ×V),bG (kvs.map fun kv=>if kv.1=k then(kv.1,y) else kv) j=(bG kvs j).map fun x=>if j=k then y else x
 | []=>rfl
 | p::r=>by
   have ih:=nw k j y r;rw[An];by_cases h:p.1=k
   . rw[if_pos h];by_cases e:p.1=j
     . rw[cq (p:=(p.1,y)) e,cq e,BR,if_pos (e.symm.trans h)]
     . rw[cj (p:=(p.1,y)) e,cj e,ih]
   . rw[if_neg h];by_cases e:p.1=j
     . rw[cq (p:=p) e,cq e,BR,if_neg (fun z=>h (e.trans z))]
     . rw[cj (p:=p) e,cj e,ih]
theorem im (k j:κ) (y:V):∀ kvs:List (κ×V),bG kvs k=none→bG (kvs++[(k,y)]) j=if j=k then some y else bG kvs j
 | [],_=>by
   by_cases e:k=j
   . rw[if_pos e.symm];exact cq (p:=(k,y)) e
   . rw[if_neg (fun z=>e z.symm)];exact cj (p:=(k,y)) e
 | p::r,hn=>by
   rw[List.cons_append]
   have hk:¬p.1=k:=fun z=>by rw[cq z] at hn;cases hn
   rw[cj hk] at hn;have ih:=im k j y r hn;by_cases e:p.1=j
   . rw[cq e,cq e,if_neg (fun z=>hk (e.trans z))]
   . rw[cj e,cj e,ih]
theorem jx (kvs:List (κ×V))(k j:κ) (y:V):bG (dj kvs k y) j=if j=k then some y else bG kvs j:=by
 unfold dj;by_cases a:(kvs.any fun kv=>decide (kv.1=k))=true
 . rw[if_pos a,nw];rw[d8] at a;by_cases e:j=k
   . obtain⟨x,hx⟩:=Option.isSome_iff_exists.mp a;rw[if_pos e,e,hx,BR,if_pos rfl]
   . rw[if_neg e]
     cases bG kvs j with
     | none=>rfl
     | some x=>rw[BR,if_neg e]
 . rw[if_neg a];refine im k j y kvs ?_;rw[d8] at a
   cases q:bG kvs k with
   | none=>rfl
   | some x=>rw[q] at a;exact(a rfl).elim
theorem fN (kvs:List (κ×V))(k:κ) (v:V):(dj kvs k v).length≤kvs.length+1:=by
 unfold dj
 split
 . rw[be];omega
 . rw[zY,AK,Cb];omega
theorem cU {kvs:List (κ×V)}{k:κ} (v:V)(h:bG kvs k=none):dj kvs k v=kvs++[(k,v)]:=by
 unfold dj;rw[d8,h];exact if_neg (by decide)
theorem gm.isSome_eq {o:Option V}{u:Option Value}(r:gm o u):o.isSome=u.isSome:=by
 cases o with
 | none=>cases u with
   | none=>rfl
   | some _=>exact(show False from r).elim
 | some _=>cases u with
   | none=>exact(show False from r).elim
   | some _=>rfl
theorem KV.val {kvs:List (κ×V)}{vs:List (κ×Value)}(r:KV kvs vs)(k:κ):gm (bG kvs k) (valueAt vs k):=by
 unfold KV at r
 induction r with
 | nil=>exact True.intro
 | @cons p q ps qs h t ih =>
   obtain⟨h1,h2⟩:=h;by_cases e:p.1=k
   . have e':q.1=k:=h1.symm.trans e
     have b:valueAt (q::qs) k=some q.2:=by simp[valueAt,Bn,e']
     rw[cq e,b];exact h2
   . have e':¬q.1=k:=fun z=>e (h1.trans z)
     have b:valueAt (q::qs) k=valueAt qs k:=by simp[valueAt,Bn,e']
     rw[cj e,b];exact ih
theorem KV.any {kvs:List (κ×V)}{vs:List (κ×Value)}(r:KV kvs vs)(k:κ):(kvs.any fun kv=>decide (kv.1=k))=vs.any fun kv=>decide (kv.1=k):=by
 unfold KV at r
 induction r with
 | nil=>rfl
 | cons h t ih=>rw[Bz,Bz,ih,h.1]
theorem KV.repl {kvs:List (κ×V)}{vs:List (κ×Value)}(r:KV kvs vs)(k:κ){y:V}{u:Value}(ry:bd y u) :
   KV (kvs.map fun kv=>if kv.1=k then(kv.1,y) else kv) (vs.map fun kv=>if kv.1=k then(kv.1,u) else kv):=by
 unfold KV at r ⊢
 induction r with
 | nil=>exact .nil
 | @cons p q ps qs h t ih =>
   rw[An,An];refine .cons ?_ ih;obtain⟨h1,h2⟩:=h;by_cases e:p.1=k
   . rw[if_pos e,if_pos (h1.symm.trans e)];exact⟨h1,ry⟩
   . rw[if_neg e,if_neg (fun z=>e (h1.trans z))];exact⟨h1,h2⟩
theorem KV.put {kvs:List (κ×V)}{vs:List (κ×Value)}(r:KV kvs vs)(k:κ){y:V}{u:Value}(ry:bd y u):KV (dj kvs k y) (stored vs k u):=by
 unfold dj stored;rw[r.any k];by_cases e:(vs.any fun kv=>decide (kv.1=k))=true
 . rw[if_pos e,if_pos e];exact r.repl k ry
 . rw[if_neg e,if_neg e];exact Paired.snoc r ⟨rfl,ry⟩
theorem KV.keys {kvs:List (κ×V)}{vs:List (κ×Value)}(r:KV kvs vs):kvs.map (·.1)=vs.map (·.1):=by
 unfold KV at r
 induction r with
 | nil=>rfl
 | cons h t ih=>rw[An,An,ih,h.1]
theorem KV.length {kvs:List (κ×V)}{vs:List (κ×Value)}(r:KV kvs vs):kvs.length=vs.length:=Paired.length r
end
theorem lz {P:Program}{w:World}{k:Key}{u:Value}(r:bd (kV k) u):(bJ P w).is k u=true:=by
 cases k with
 | inl i=>obtain⟨t,e⟩:=(show ∃ t,u=Value.int i t from r);subst e;exact oK P w i t
 | inr x=>obtain⟨t,e⟩:=(show ∃ t,u=Value.str x t from r);subst e;exact i9 P w x t
theorem lJ {P:Program}{w:World}:∀ {ks:List Key}{us:List Value},Vals (ks.map kV) us→ItemsAre (bJ P w) ks us
 | [],_,r=>by rw[Bw] at r;cases r;exact .nil
 | k::ks,_,r=>by
   rw[An] at r
   cases r with
   | cons h t=>exact .cons (lz h) (lJ t)
abbrev KT (H:Hp):List (List Key×V)→List (List Key×Addr×Value)→Prop:=Paired fun p q=>p.1=q.1∧H q.2.1=some (.tup (p.1.map kV))∧bd p.2 q.2.2
theorem KT.val {H:Hp}{kvs:List (List Key×V)}{xs:List (List Key×Addr×Value)}(r:KT H kvs xs)(k:List Key):gm (bG kvs k) ((atKey xs k).map (·.2)):=by
 induction r with
 | nil=>exact True.intro
 | @cons p q ps qs h t ih =>
   obtain⟨h1,_,h2⟩:=h;by_cases e:p.1=k
   . have e':q.1=k:=h1.symm.trans e
     have b:atKey (q::qs) k=some q.2:=by simp[atKey,Bn,e']
     rw[cq e,b];exact h2
   . have e':¬q.1=k:=fun z=>e (h1.trans z)
     have b:atKey (q::qs) k=atKey qs k:=by simp[atKey,Bn,e']
     rw[cj e,b];exact ih
theorem KT.repl {H:Hp}{kvs:List (List Key×V)}{xs:List (List Key×Addr×Value)}(r:KT H kvs xs)(k:List Key){y:V}{u:Value}(ry:bd y u) :
   KT H (kvs.map fun kv=>if kv.1=k then(kv.1,y) else kv) (xs.map (putAt k u)):=by
 induction r with
 | nil=>exact .nil
 | @cons p q ps qs h t ih =>
   rw[An,An];refine .cons ?_ ih;obtain⟨h1,h2,h3⟩:=h;unfold putAt;by_cases e:p.1=k
   . rw[if_pos e,if_pos (h1.symm.trans e)];exact⟨h1,h2,ry⟩
   . rw[if_neg e,if_neg (fun z=>e (h1.trans z))];exact⟨h1,h2,h3⟩
theorem KT.put {H:Hp}{kvs:List (List Key×V)}{xs:List (List Key×Addr×Value)}(r:KT H kvs xs)(k:List Key){b:Addr}{y:V}{u:Value}(hb:H b=some (.tup (k.map kV)))(ry:bd y u) :
   KT H (dj kvs k y) (storedH xs k b u):=by
 have e:(kvs.any fun kv=>decide (kv.1=k))=(atKey xs k).isSome:=by
   rw[d8,(r.val k).isSome_eq,Cs]
 unfold dj storedH;rw[e];by_cases q:(atKey xs k).isSome=true
 . rw[if_pos q,if_pos q];exact r.repl k ry
 . rw[if_neg q,if_neg q];exact Paired.snoc r ⟨rfl,hb,ry⟩
theorem KT.keeps {H H':Hp}{kvs:List (List Key×V)}{xs:List (List Key×Addr×Value)}(r:KT H kvs xs)(ht:∀ b ys,H b=some (.tup ys)→H' b=some (.tup ys)):KT H' kvs xs :=
 Paired.mapP r fun _ _ z=>⟨z.1,ht _ _ z.2.1,z.2.2⟩
section
variable {P:Program}{w:World}{H:Hp}{h:Heap}{a:Addr}
theorem xD {u:HO}(ok:HOk P w H h)(e:Rd H a u):bR P w H h a u:=e.ok ok
theorem i7 {kvs:List (Key×V)}(ok:HOk P w H h)(e:Rd H a (.dK kvs)):kvs.length≤sizeLine∧(a==sysModules)=false∧∃ vs,KV kvs vs∧h.DictOf (bJ P w) a vs :=
 show bR P w H h a (.dK kvs) from xD ok e
theorem xF {kvs:List (Key×V)}(ok:HOk P w H h)(e:H a=some (.dK kvs)):kvs.length≤sizeLine∧(a==sysModules)=false∧∃ vs,KV kvs vs∧h.DictOf (bJ P w) a vs:=i7 ok (.inl e)
theorem kh {ks:List Key}(ok:HOk P w H h)(e:H a=some (.tup (ks.map kV))):(tupleKind (bJ P w)).is h ks a:=by
 obtain⟨_,its,r,o,h1,h2,n,h3⟩:=(show bR P w H h a (.tup (ks.map kV)) from ok a _ e);exact⟨o,its.toArray,n,h1,h2,h3,by simpa using lJ r⟩
theorem nU {kvs:List (List Key×V)}(ok:HOk P w H h)(e:Rd H a (.dT kvs)):kvs.length≤sizeLine∧(a==sysModules)=false ∧
   ∃ xs,KT H kvs xs∧h.DictOfH (tupleKind (bJ P w)) a xs:=by
 obtain⟨z,y,xs,r,o,es,ep,h1,h2,h3,h4,h5⟩:=(show bR P w H h a (.dT kvs) from xD ok e);refine⟨z,y,xs,r,o,es,ep,h1,h2,h3,h4,fun x hx=>?_,h5⟩
 have all:∀ {l:List (List Key×V)}{m:List (List Key×Addr×Value)},KT H l m→∀ x∈m,(tupleKind (bJ P w)).is h x.1 x.2.1:=by
   intro l m q
   induction q with
   | nil=>intro x hx;exact nomatch hx
   | @cons p q ps qs hq t ih =>
     intro x hx
     rcases List.mem_cons.mp hx with e | hx
     . subst e;exact kh ok (by rw[←hq.1];exact hq.2.1)
     . exact ih x hx
 exact all r x hx
theorem zj {kvs:List (List Key×V)}(ok:HOk P w H h)(e:H a=some (.dT kvs)):kvs.length≤sizeLine∧(a==sysModules)=false ∧
 ∃ xs,KT H kvs xs∧h.DictOfH (tupleKind (bJ P w)) a xs:=nU ok (.inl e)
end
def kT (H:Hp)(a:Addr) (y:V)(r:Option V):Prop :=
 (∃ kvs k,Rd H a (.dK kvs)∧y=kV k∧r=bG kvs k)∨∃ kvs k b,Rd H a (.dT kvs)∧y=.ref b∧H b=some (.tup (k.map kV))∧r=bG kvs k
def zp (H:Hp)(a:Addr) (y v:V)(H':Hp):Prop :=
 (∃ kvs k,H a=some (.dK kvs)∧y=kV k∧kvs.length < sizeLine∧H'=upd H a (.dK (dj kvs k v))) ∨
 ∃ kvs k b,H a=some (.dT kvs)∧y=.ref b∧H b=some (.tup (k.map kV))∧kvs.length < sizeLine∧H'=upd H a (.dT (dj kvs k v))
section
variable {X:Cx}{pins:List (Addr×Obj)}{σ:St}{H:Hp}{s:Shared}{a:Addr}{y v:V}{u r:Value}{o:Option V}{A:Around}{E:Value→Shared→Prop}
theorem Inv.big (I:Inv X pins σ H s):sysModules < s.heap.objs.size:=by
 have h:mainGlobals < s.heap.objs.size:=(I.mod.glob.keeps I.bk).lt;exact Nat.lt_trans (by decide) h
theorem sK {Q:Value→Shared→Prop}(hu:A.units+1 < cLine)(I:Inv X pins σ H s)(g:kT H a y (some v))(ry:bd y u)(h:∀ w' s',Inv X pins σ H s'→bd v w'→Q w' s') :
   wpAny (model X.prog X.w) A (getItem (.ref a) u) Q E s:=by
 rcases g with ⟨kvs,k,e,ey,l⟩ | ⟨kvs,k,b,e,ey,eb,l⟩
 . subst ey;obtain⟨z,hd,vs,rel,dd⟩:=i7 I.hok e;obtain⟨w',hw,rw'⟩:=gm.some_of (v:=v) (o:=valueAt vs k) (by rw[l];exact rel.val k);exact wpAny_getItem_of (lz ry) dd.mapOf hw (h w' _ (I.tok _) rw')
 . subst ey;cases (show u=Value.ref b from ry);obtain⟨z,hd,xs,rel,dd⟩:=nU I.hok e;obtain⟨w',hw,rw'⟩:=gm.some_of (v:=v) (o:=(atKey xs k).map (·.2)) (by rw[l];exact rel.val k);obtain⟨p,hp,hp2⟩:=Option.map_eq_some_iff.mp hw;refine wpAny_getItem_heap (tupleKind_room_in1 hu) (kh I.hok eb) dd hp ?_;rw[hp2];exact h w' _ (I.tok _) rw'
theorem zO {Q:Value→Shared→Prop}(hu:A.units+1 < cLine)(I:Inv X pins σ H s)(g:kT H a y o)(ry:bd y u)(h:∀ s',Inv X pins σ H s'→Q (.bool o.isSome) s') :
   wpAny (model X.prog X.w) A (compareOp .In u (.ref a)) Q E s:=by
 rcases g with ⟨kvs,k,e,ey,l⟩ | ⟨kvs,k,b,e,ey,eb,l⟩
 . subst ey;obtain⟨z,hd,vs,rel,dd⟩:=i7 I.hok e;refine wpAny_in_of (lz ry) hd dd.mapOf ?_;rw[←(rel.val k).isSome_eq,←l];exact h _ (I.tok _)
 . subst ey;cases (show u=Value.ref b from ry);obtain⟨z,hd,xs,rel,dd⟩:=nU I.hok e;refine wpAny_in_heap (tupleKind_room_in1 hu) (kh I.hok eb) hd dd ?_;have q:=(rel.val k).isSome_eq;rw[Cs] at q;rw[←q,←l];exact h _ (I.tok _)
theorem xk {Q:Value→Shared→Prop}(hu:A.units+1 < cLine)(I:Inv X pins σ H s)(g:kT H a y o)(ry:bd y u)(h:∀ s',Inv X pins σ H s'→Q (.bool (!o.isSome)) s') :
   wpAny (model X.prog X.w) A (compareOp .NotIn u (.ref a)) Q E s:=by
 rcases g with ⟨kvs,k,e,ey,l⟩ | ⟨kvs,k,b,e,ey,eb,l⟩
 . subst ey;obtain⟨z,hd,vs,rel,dd⟩:=i7 I.hok e;refine wpAny_notIn_of (lz ry) hd dd.mapOf ?_;rw[←(rel.val k).isSome_eq,←l];exact h _ (I.tok _)
 . subst ey;cases (show u=Value.ref b from ry);obtain⟨z,hd,xs,rel,dd⟩:=nU I.hok e;refine wpAny_notIn_heap (tupleKind_room_in1 hu) (kh I.hok eb) hd dd ?_;have q:=(rel.val k).isSome_eq;rw[Cs] at q;rw[←q,←l];exact h _ (I.tok _)
theorem nb {h':Heap}{t':Nat}{ob:HO}(I:Inv X pins σ H s)(mu:Mut (H a))(hs:Heap.SameBut a s.heap h')(he:∃ q,h'.get? a=some q)(new:bR X.prog X.w (upd H a ob) h' a ob) :
   Inv X pins σ (upd H a ob) { s with heap:=h',toks:=t' } :=
 I.write (x:=a) (e:=a) mu (.inl rfl) (fun b q hb z=>(hs.2 b hb).trans z) he new
theorem mH {P:Program}{w:World}{H':Hp}{h':Heap}{kvs:List (Key×V)}{vs:List (Key×Value)}(z:kvs.length≤sizeLine)(hd:(a==sysModules)=false)(rel:KV kvs vs)(dd:h'.DictOf (bJ P w) a vs) :
 bR P w H' h' a (.dK kvs):=⟨z,hd,vs,rel,dd⟩
theorem sJ {H':Hp}{Q:Unit→Shared→Prop}(hu:A.units+1 < cLine)(I:Inv X pins σ H s)(g:zp H a y v H')(ry:bd y u)(rv:bd v r)(h:∀ s',Inv X pins σ H' s'→Q () s') :
   wpAny (model X.prog X.w) A (setItem (.ref a) u r) Q E s:=by
 rcases g with ⟨kvs,k,e,ey,l,eH⟩ | ⟨kvs,k,b,e,ey,eb,l,eH⟩
 . subst ey eH;obtain⟨z,hd,vs,rel,dd⟩:=xF I.hok e
   have hz:vs.length≤sizeLine:=by rw[←rel.length];exact z
   have hl:(dj kvs k v).length≤sizeLine:=by have:=fN kvs k v;omega
   refine wpAny_setItem_pairs (hsz:=hz) (lz ry) dd fun h' dd' hs=>h _ ?_
   have he:∃ q,h'.get? a=some q:=let ⟨q,_,_,hq,_⟩:=dd';⟨q,hq⟩
   exact nb I (by rw[e];exact True.intro) hs he (mH hl hd (rel.put k rv) dd')
 . subst ey eH;cases (show u=Value.ref b from ry);obtain⟨z,hd,xs,rel,dd⟩:=zj I.hok e
   have hz:xs.length≤sizeLine:=by rw[←Paired.length rel];exact z
   have hl:(dj kvs k v).length≤sizeLine:=by have:=fN kvs k v;omega
   refine wpAny_setItem_heap (hsz:=hz) (tupleKind_room_in1 hu) (kh I.hok eb) dd fun h' dd' hs=>h _ ?_;obtain⟨q,es,ep,hq,h2,h3,h4,_,h5⟩:=dd';refine nb I (by rw[e];exact True.intro) hs ⟨q,hq⟩ ⟨hl,hd,_,(rel.put k eb rv).keeps fun c ys ec=>?_,q,es,ep,hq,h2,h3,h4,h5⟩;rw[ai (ze ec e (fun z=>nomatch z))];exact ec
end
section
variable {X:Cx}{pins:List (Addr×Obj)}{σ:St}{H:Hp}{s:Shared}{a:Addr}{kvs:List (Key×V)}{k:Key}{u:Value}{A:Around}{E:Value→Shared→Prop}
theorem y7 {Q:Value→Shared→Prop}(I:Inv X pins σ H s)(e:Rd H a (.dK kvs))(h:∀ t s',Inv X pins σ H s'→Q (.int kvs.length t) s'):wpAny (model X.prog X.w) A (call (.builtin "len") [.ref a]) Q E s:=by
 obtain⟨z,hd,vs,rel,dd⟩:=i7 I.hok e;refine call_len_dict hd dd (by rw[←rel.length];rw[sizeLine_eq] at z;omega) ?_;rw[←rel.length];exact h _ _ (I.tok _)
end
def yW (i:Expr):Prop:=∀ ov iv,subscripted i false ov iv=operate [ov,iv] (getItem ov iv)
theorem wI {prog:Program}{w:World}{A:Around}{E:Value→Shared→Prop}{s:Shared}{env:Env}{value slice:Expr}{pos:Pos}{T id:String}{Q:Value→Shared→Prop}
   (hl:typeLookup (.type T) "__getitem__"=pure (some (.builtin id)))(hs:yW slice)
   (h:wpAny (model prog w) A (eval value env) (fun o s₁=>wpAny (model prog w) A (eval slice env) (fun i s₂=>s₂.TypeIs o T∧wpAny (model prog w) A (getItem o i) Q E s₂) E s₁) E s) :
   wpAny (model prog w) A (eval (.Subscript value slice pos) env) Q E s:=by
 refine Subscript_ (wpAny_mono h (fun o s₁ h₁=>wpAny_mono h₁ (fun i s₂ h₂=>?_) fun _ _ x=>x) fun _ _ x=>x);obtain⟨hT,h₂⟩:=h₂;unfold subscriptTail;refine wpAny_bind ?_;rw[getitemInPython_of_ne hT.not_modules];refine wpAny_bind (wpAny_specialOf hT hl ?_)
 have fin:wpAny (model prog w) A (subscripted slice false o i) (fun r s₃=>wpAny (model prog w) A (letTemporaryGo value o r >>= fun _=>pure r) Q E s₃) E s₂:=by
   rw[hs o i];exact wpAny_operating (wpAny_mono h₂ (fun r s₃ h₃=>wpAny_bind (wpAny_letTemporaryGo (wpAny_pure h₃))) fun _ _ x=>x)
 first
   | exact wpAny_pure (wpAny_bind fin)
   | exact wpAny_bind (wpAny_pure (wpAny_bind fin))
   | exact wpAny_bind fin
theorem oU {X:Cx}{pins:List (Addr×Obj)}{σ:St}{H:Hp}{s:Shared}{a:Addr}{y:V}{o:Option V}(I:Inv X pins σ H s)(g:kT H a y o):s.TypeIs (.ref a) "dict":=by
 rcases g with ⟨kvs,k,e,_,_⟩ | ⟨kvs,k,b,e,_,_,_⟩
 . obtain⟨_,_,vs,_,dd⟩:=i7 I.hok e;exact dd.typeIs
 . obtain⟨_,_,xs,_,dd⟩:=nU I.hok e;exact dd.typeIs
def uL (td ty:TE):TE:=fun σ H Q=>td σ H fun x H1=>ty σ H1 fun y H2=>∃ a v,x=.ref a∧kT H2 a y (some v)∧Q v H2
def xJ (ty td:TE):TE:=fun σ H Q=>ty σ H fun y H1=>td σ H1 fun x H2=>∃ a o,x=.ref a∧kT H2 a y o∧Q (.bl o.isSome) H2
def nu (ty td:TE):TE:=fun σ H Q=>ty σ H fun y H1=>td σ H1 fun x H2=>∃ a o,x=.ref a∧kT H2 a y o∧Q (.bl (!o.isSome)) H2
def uy (td ty tv:TE):TS:=fun D σ H=>tv σ H fun v H1=>td σ H1 fun x H2=>ty σ H2 fun y H3=>∃ a H4,x=.ref a∧zp H3 a y v H4∧D.nx σ H4
section
variable {X:Cx}{o i e value:Expr}{pos pos' tpos:Pos}{td ty tv:TE}
theorem cx (hu:X.A.units+1 < cLine)(ho:PE X o td)(hi:PE X i ty)(hs:yW i):PE X (.Subscript o i pos) (uL td ty):=by
 intro pins s σ H Q I h;refine wI PySem.F.slot_dict_getitem.lookup hs (thn (ho s σ H _ I h) fun u s1 ⟨x,H1,I1,rx,q1⟩=>thn (hi s1 σ H1 _ I1 q1) fun iv s2 ⟨y,H2,I2,ry,a,v,ex,g,q2⟩=>?_);subst ex;obtain rfl:u=Value.ref a:=rx;exact⟨oU I2 g,sK hu I2 g ry fun w' s3 I3 rw'=>⟨v,H2,I3,rw',q2⟩⟩
theorem uw (hu:X.A.units+1 < cLine)(hi:PE X i ty)(ho:PE X o td):PC X .In i o (xJ ty td):=by
 intro pins s σ H Q I h;refine thn (hi s σ H _ I h) fun iv s1 ⟨y,H1,I1,ry,q1⟩=>thn (ho s1 σ H1 _ I1 q1) fun u s2 ⟨x,H2,I2,rx,a,ov,ex,g,q2⟩=>?_;subst ex;obtain rfl:u=Value.ref a:=rx;exact zO hu I2 g ry fun s3 I3=>⟨.bl ov.isSome,H2,I3,rfl,q2⟩
theorem dw (hu:X.A.units+1 < cLine)(hi:PE X i ty)(ho:PE X o td):PC X .NotIn i o (nu ty td):=by
 intro pins s σ H Q I h;refine thn (hi s σ H _ I h) fun iv s1 ⟨y,H1,I1,ry,q1⟩=>thn (ho s1 σ H1 _ I1 q1) fun u s2 ⟨x,H2,I2,rx,a,ov,ex,g,q2⟩=>?_;subst ex;obtain rfl:u=Value.ref a:=rx;exact xk hu I2 g ry fun s3 I3=>⟨.bl (!ov.isSome),H2,I3,rfl,q2⟩
theorem dF (hu:X.A.units+1 < cLine)(ho:PE X o td)(hi:PE X i ty)(hv:PE X value tv)(hs:swapsWith value (some (.Subscript o i pos')) pos.line X.env=pure false) :
   PS X (.Assign [.Subscript o i pos'] value pos) (uy td ty tv):=by
 intro pins s σ H D I h;refine wpAny_Assign_Subscript (thn (hv s σ H _ I h) fun r s1 ⟨v,H1,I1,rv,q1⟩=>thn (ho s1 σ H1 _ I1 q1) fun u s2 ⟨x,H2,I2,rx,q2⟩=>thn (hi s2 σ H2 _ I2 q2) fun iv s3 ⟨y,H3,I3,ry,a,H4,ex,g,q3⟩=>?_) hs;subst ex;obtain rfl:u=Value.ref a:=rx;exact sJ hu I3 g ry rv fun s4 I4=>⟨σ,H4,I4,q3⟩
end
theorem oH {P:Program}{w:World}{H:Hp}(h:Heap)(hb:sysModules < h.objs.size):bR P w H (h.push { cls:=.type "dict",data:=.dict #[] }) h.objs.size (.dK []) :=
 ⟨AN _,beq_eq_false_iff_ne.mpr (Ne.symm (Ak hb)),[],.nil,Heap.DictOf.new h⟩
def pG:TE:=fun _ H Q=>∀ p,H p=none→Q (.ref p) (upd H p (.dK []))
def ui:TE:=fun _ H Q=>∀ p,H p=none→Q (.ref p) (upd H p (.dT []))
section
variable {X:Cx}{pos:Pos}
theorem ee:PE X (.Dict [] [] pos) pG:=fun pins s σ H Q I h =>
 wpAny_Dict_empty ⟨.ref s.heap.objs.size,_,I.laid (a:=s.heap.objs.size) (o:=.dK []) (t':=s.toks) (fun _ _ q=>Heap.get?_push_of_some _ q) (z7 _) (oH s.heap I.big),rfl,h _ (I.hok.fresh (z7 _))⟩
end
def kL:List (TE×TE)→St→Hp→(List (V×V)→Hp→Prop)→Prop
 | [],_,H,Q=>Q [] H
 | (tk,tv)::r,σ,H,Q=>tk σ H fun x H1=>tv σ H1 fun y H2=>kL r σ H2 fun ps H3=>Q ((x,y)::ps) H3
abbrev VV:List (V×V)→List (Value×Value)→Prop:=Paired fun p q=>bd p.1 q.1∧bd p.2 q.2
def PPs (X:Cx)(pos:Pos)(keys:List (Option Expr))(values:List Expr)(trs:List (TE×TE)):Prop :=
 ∀ (pins:List (Addr×Obj))(s:Shared) (σ:St)(H:Hp)(Q:List (V×V)→Hp→Prop),Inv X pins σ H s→kL trs σ H Q →
   wpAny (model X.prog X.w) X.A (evalPairs (pairTrees keys values X.env pos)) (fun vs s'=>∃ ps H',Inv X pins σ H' s'∧VV ps vs∧Q ps H') X.xe s
theorem xj {X:Cx}{pos:Pos}:PPs X pos [] [] []:=fun pins s σ H Q I h=>pairTrees_nil_walk ⟨[],H,I,.nil,h⟩
theorem wn {X:Cx}{pos:Pos}{k v:Expr}{ks:List (Option Expr)}{vs:List Expr}{tk tv:TE}{trs:List (TE×TE)}(hk:PE X k tk)(hv:PE X v tv)(hr:PPs X pos ks vs trs) :
   PPs X pos (some k::ks) (v::vs) ((tk,tv)::trs):=fun pins s σ H Q I h =>
 pairTrees_cons_walk (thn (hk s σ H _ I h) fun u s1 ⟨x,H1,I1,rx,q1⟩=>thn (hv s1 σ H1 _ I1 q1) fun w2 s2 ⟨y,H2,I2,ry,q2⟩ =>
   thn (hr pins s2 σ H2 _ I2 q2) fun ws s3 ⟨ps,H3,I3,rel,q3⟩=>⟨(x,y)::ps,H3,I3,.cons ⟨rx,ry⟩ rel,q3⟩)
def cP (kvs more:List (Key×V)):List (Key×V):=more.foldl (fun acc kv=>dj acc kv.1 kv.2) kvs
theorem KV.merge:∀ {more:List (Key×V)}{rs:List (Key×Value)}{kvs:List (Key×V)}{vs:List (Key×Value)},KV more rs→KV kvs vs→KV (cP kvs more) (merged vs rs):=by
 intro more rs kvs vs r;unfold KV at r
 induction r generalizing kvs vs with
 | nil=>intro q;exact q
 | @cons p q ps qs h t ih =>
   intro r0
   have e:KV (dj kvs p.1 p.2) (stored vs q.1 q.2):=by
     have:=r0.put p.1 h.2;rw[←h.1];exact this
   exact ih e
theorem eK:∀ (more kvs:List (Key×V)),(cP kvs more).length≤kvs.length+more.length
 | [],kvs=>by show kvs.length≤kvs.length+0;omega
 | p::r,kvs=>by
   have h1:=eK r (dj kvs p.1 p.2);have h2:=fN kvs p.1 p.2;show(cP (dj kvs p.1 p.2) r).length≤_;rw[AK];omega
theorem ko {P:Program}{w:World}:∀ {kvs:List (Key×V)}{ws:List (Value×Value)},VV (kvs.map fun kv=>(kV kv.1,kv.2)) ws→∃ rs,Carries (bJ P w) ws rs∧KV kvs rs
 | [],_,r=>by rw[Bw] at r;cases r;exact⟨[],True.intro,.nil⟩
 | p::kvs,_,r=>by
   rw[An] at r
   cases r with
   | @cons a b as bs h t =>
     obtain⟨rs,c,q⟩:=ko (P:=P) (w:=w) t;obtain⟨b1,b2⟩:=b;exact⟨(p.1,b2)::rs,⟨lz h.1,rfl,c⟩,.cons ⟨rfl,h.2⟩ q⟩
def ue (trs:List (TE×TE)):TE:=fun σ H Q=>∀ p,H p=none→kL trs σ (upd H p (.dK [])) fun ps H2=>H2 p=some (.dK [])∧∃ kvs:List (Key×V),ps=kvs.map (fun kv=>(kV kv.1,kv.2))∧kvs.length≤15∧Q (.ref p) (upd H2 p (.dK (cP [] kvs)))
theorem wH {X:Cx}{pos:Pos}{keys:List (Option Expr)}{values:List Expr}{trs:List (TE×TE)}(h:PPs X pos keys values trs)(hall:keys.all (·.isSome)=true)(hl:keys.length=values.length)(h0:keys≠[])
   (h15:keys.length≤15):PE X (.Dict keys values pos) (ue trs):=by
 intro pins s σ H Q I q;have hn:=I.hok.fresh (z7 s.heap.objs.size);have I1:=I.laid (a:=s.heap.objs.size) (o:=.dK []) (h':=s.heap.push { cls:=.type "dict",data:=.dict #[] }) (t':=s.toks) (fun _ _ q=>Heap.get?_push_of_some _ q) (z7 _) (oH s.heap I.big);refine wpAny_Dict_walk (knd:=bJ X.prog X.w) hall hl h0 h15 (thn (h pins _ σ _ _ I1 (q _ hn)) fun ws s2 ⟨ps,H2,I2,rel,e,kvs,ep,lk,q2⟩=>?_);subst ep;obtain⟨rs,c,rk⟩:=ko (P:=X.prog) (w:=X.w) rel;obtain⟨z,hd,vs0,r0,dd⟩:=xF I2.hok e;cases r0;refine⟨rs,c,dd,fun h' dd' hs=>⟨.ref s.heap.objs.size,_,?_,rfl,q2⟩⟩
 have hz:(cP [] kvs).length≤sizeLine:=by
   have h1:=eK kvs [];rw[Cb] at h1;rw[sizeLine_eq];omega
 have he:∃ q,h'.get? s.heap.objs.size=some q:=let ⟨q,_,_,hq,_⟩:=dd';⟨q,hq⟩
 exact nb I2 (by rw[e];exact True.intro) hs he (mH hz hd (rk.merge .nil) dd')
section
variable {X:Cx}{pins:List (Addr×Obj)}{σ:St}{H:Hp}{s:Shared}{a:Addr}{y d:V}{u r:Value}{o:Option V}{A:Around}{E:Value→Shared→Prop}
end
section
variable {X:Cx}{o e f:Expr}{apos cpos:Pos}{td ty tx:TE}
end
section
variable {X:Cx}{pins:List (Addr×Obj)}{σ:St}{H:Hp}{s:Shared}{a:Addr}{kvs:List (Key×V)}{A:Around}{E:Value→Shared→Prop}
theorem vA {Q:Value→Shared→Prop}(I:Inv X pins σ H s)(e:Rd H a (.dK kvs))(h:∀ p s',H p=none→Inv X pins σ (upd H p (.dK kvs)) s'→Q (.ref p) s'):wpAny (model X.prog X.w) A (call (.type "dict") [.ref a]) Q E s:=by
 obtain⟨z,hd,vs,rel,dd⟩:=i7 I.hok e;refine kt_call_dict hd dd (by rw[←rel.length];exact z) fun h' dd' hs=>?_;refine h _ _ (I.hok.fresh (z7 _)) (I.laid (a:=s.heap.objs.size) (o:=.dK kvs) (t':=s.toks) (fun b q hq=>?_) (z7 _) (mH z (beq_eq_false_iff_ne.mpr (Ne.symm (Ak I.big))) rel dd'));exact(hs.2 b (Ak (Heap.lt_size hq))).trans (Heap.get?_push_of_some _ hq)
end
section
variable {X:Cx}{pins:List (Addr×Obj)}{σ:St}{H:Hp}{s:Shared}{a:Addr}{y:V}{u:Value}{A:Around}{E:Value→Shared→Prop}
end
end L2
namespace Att
open PySem PySem.W PySem.Calls PyProof.Rows
theorem jg {P:Params}{h:Heap}:∀ (ns:List Int)(vs:List Value),WellAll P h vs (ns.map WData.int)→IntsAre vs ns:=by
 intro ns
 induction ns with
 | nil =>
   intro vs w;rw[Bw] at w;cases w;exact .nil
 | cons n ns ih =>
   intro vs w;rw[An] at w
   cases w with
   | cons a b =>
     cases a;exact .cons _ _ (ih _ b)
theorem tH {l:OpenLaw}{n:Nat}(hn:l.most=some n){P:Params}{h:Heap}{args:List WData}{vals:List Value}
   (hpre:l.row.toRowW.claim.pre args=true)(hwl:WellAll P h vals args) :
   ∃ a vs ns,vals=[Value.ref a]∧args=[WData.list (ns.map WData.int)]∧h.get? a=some { cls:=.type "list",data:=.seq vs.toArray }∧IntsAre vs ns∧ns.length≤n:=by
 have hsh:WShape.hasAll [] args [.list .int]=true:=(pre_splitW hpre).1;have hc:l.pre.holds [] { args:=args }=true:=(pre_splitW hpre).2;obtain⟨d,r,rfl,h1,h2⟩:=hasAllW_cons hsh;obtain rfl:=hasAllW_nil h2;obtain⟨xs,rfl,h3⟩:=hasW_list h1;obtain⟨ns,rfl⟩:=items_int h3
 have hlen:ns.length≤n:=by
   unfold OpenLaw.pre at hc
   have h4:(WTm.not (.lt (.lit (.int (n:Int))) (.len (.arg 0)))).holds [] { args:=[.list (ns.map .int)] }=true:=by
     have h4:=(holds_andW hc).1;rw[hn] at h4;exact h4
   have h5:=condW_of h4 (w_not (w_lt w_lit (w_len_list (w_arg rfl))));rw[be] at h5;refine Cy fun q=>?_
   have q':(n:Int) < ((ns.length:Nat):Int):=by omega
   first
     | (rw[decide_eq_true q'] at h5;exact absurd h5 (by decide))
     | (simp at h5;omega)
 cases hwl with
 | cons w1 w2 =>
   cases w2
   cases w1 with
   | list ho hall=>exact⟨_,_,ns,rfl,rfl,ho,jg ns _ hall,hlen⟩
theorem sY (l:OpenLaw)(args:List WData):l.row.toRowW.claim.post args (.bool true) args=true :=
 postW_of (r:=l.row.toRowW) (X:=(true==true))
   (show WShape.has [] (.bool true) .bool=true by first | rfl | decide | simp[WShape.has,WShape.arms,WShape.armsAll])
   (show(WTm.eq .res (.lit (.bool true))).value [] { args:=args,res:=some (.bool true),after:=args }=some (.bool (true==true)) from w_eq_bool (w_res rfl) w_lit) rfl
theorem attach_call {l:OpenLaw}{n:Nat}{q:Program}{loose:List Str}{XP:(Str→Option Value)→Heap→Prop}{YP:World→Heap→Prop}{d:DefRec}
   (hn:l.most=some n)(hdf:d.params.defaults=[])
   (call:∀ (w:World)(s₀ s₁:Shared)(mg mb:Str→Option Value)(fa:Addr)(o:Obj) (pm cd doc:Value)(a:Addr)(vs:List Value)(ns:List Int),
     Ground q loose [] XP w s₀ mg mb s₁.heap→YP w s₁.heap →
     s₁.heap.get? fa=some o→o.data=.func (docDef d.name d.params d.body d.scope pm cd doc)→s₁.heap.CodeRec cd d.name→mg d.name=some (.ref fa) →
     s₁.heap.get? a=some { cls:=.type "list",data:=.seq vs.toArray }→IntsAre vs ns→ns.length≤n→s₁.gens=#[] →
     codeAny (model l.prog w) callerA (.call (.ref fa) ⟨[.ref a],[]⟩) (fun r s'=>r=.ok (.ret (.bool true))∧OldK s₁.heap s'.heap∧s'.os=s₁.os∧AllBare s'.gens) s₁) :
   WalkO q loose XP YP l.row.toRowW d [] (fun f vs=>CY f vs):=by
 intro w s₀ s₁ mg mb G Y fa o pm cd doc dV kV ho hd hcd hD hmg hg args vals as hpre hlay hrd hwl hlo;obtain rfl:dV=.none:=Dflts.none hD hdf;obtain rfl:kV=.none:=Dflts.noKw hD;obtain⟨a,vs,ns,rfl,rfl,hobj,hints,hlen⟩:=tH hn hpre hwl;refine enter_call (codeAny_mono (call w s₀ s₁ mg mb fa o pm cd doc a vs ns G Y ho (fd_plain hd) hcd hmg hobj hints hlen hg) fun r s' hq=>?_);obtain⟨rfl,h2,h3,h4⟩:=hq;exact⟨.inl ⟨.bool true,.bool true,[],rfl,fun _=>rfl,.bool true,sY l _,fun _=>⟨List.Pairwise.nil,fun _ hm=>(nomatch hm)⟩⟩,h2,h3,h4⟩
section
variable {prog:Program}{w:World}{A:Around}{E:Value→Shared→Prop}{s:Shared}{K:Frag}
def ledger (h:Heap)(L d:Addr):List (Addr×Obj):=(Ab h.objs.size).filterMap fun a=>if a=L∨a=d then none else(h.get? a).map fun o=>(a,o)
end
end Att
namespace L2
open PySem PySem.Spec PyProof.Rows
theorem iR:∀ {vs:List Value}{ns:List Int},IntsAre vs ns→Vals (ns.map V.int) vs
 | _,_,.nil=>.nil
 | _,_,.cons n t h=>.cons ⟨t,rfl⟩ (iR h)
def xM (H:Hp):Prop:=∀ b,H b=none∨∃ o xs,H b=some (.frz o (.lst xs))
theorem uR {P:Program}{w:World}{K:PySem.W.Frag}{mg mb:Str→Option Value}{CX:CXT}{k:Nat}{fa a:Addr}{fd:FuncData}{x:Str}{sp:Sp}{s₁:Shared}{vs:List Value}{ns:List Int}
   (KX:K.In s₁.heap)(hns:s₁.heap.Ns mainGlobals mg)(hb:s₁.heap.Ns builtinsNs mb)(hbb:∀ x:Str,x≠"__name__"→mb x=bootBuiltins x)(hlim:s₁.heap.NoLimit)(hg:s₁.gens=#[])
   (ha:s₁.heap.get? a=some { cls:=.type "list",data:=.seq vs.toArray })(hi:IntsAre vs ns)(hl:ns.length≤sizeLine)(hr:cL k callerA)
   (F:∀ base:Heap,K.In base→base.Ns mainGlobals mg→aU P w K mg base CX k fa fd [x] sp)(hbind:∀ (s:Shared) (u:Value),BindsTo s fd ⟨[u],[]⟩ [(x,u)])
   (hsp:∀ H:Hp,xM H→SqL K H a (ns.map V.int)→sp [.ref a] H (fun v _=>v=.bl true) fun _ _ _=>False)
   (hCX:∀ H e s',CX [] H s₁ (fun _ _ _=>False) e s'→False) :
   codeAny (model P w) callerA (.call (.ref fa) ⟨[.ref a],[]⟩) (fun r s'=>r=.ok (.ret (.bool true))∧OldK s₁.heap s'.heap∧s'.os=s₁.os∧AllBare s'.gens) s₁:=by
 have rv:=iR hi;have lenV:=hi.length
 have core:∀ H:Hp,xM H→SqL K H a (ns.map V.int)→HOk P w H s₁.heap→(∀ b,H b≠none→b=a)→(H a≠none→K.lookup a=none) →
     codeAny (model P w) callerA (.call (.ref fa) ⟨[.ref a],[]⟩) (fun r s'=>r=.ok (.ret (.bool true))∧OldK s₁.heap s'.heap∧s'.os=s₁.os∧AllBare s'.gens) s₁:=by
   intro H hO hS hok hA hK;have base_of:∀ {b:Addr}{o:Obj},s₁.heap.get? b=some o→H b=none→(mE s₁.heap H).get? b=some o:=fun e n=>vW e n
   have noA:∀ {b:Addr}{o:Obj}{es:Array DictEntry}{ep:Nat},s₁.heap.get? b=some o→o.data=.dict es ep→H b=none:=fun {b o es ep} e d=>by
     cases q:H b with
     | none=>rfl
     | some u =>
       have e':b=a:=hA b (by rw[q];simp);subst e';rw[ha] at e;cases e;have d':Data.seq vs.toArray _=Data.dict es ep:=d;cases d'
   have nsK:∀ {b:Addr}{m:Str→Option Value},s₁.heap.Ns b m→(mE s₁.heap H).Ns b m:=fun {b m} ⟨o,es,ep,e,d,r⟩=>⟨o,es,ep,base_of e (noA e d),d,r⟩
   have hKb:K.In (mE s₁.heap H):=fun b o e=>base_of (KX b o e) (by
     cases q:H b with
     | none=>rfl
     | some u =>
       have e':b=a:=hA b (by rw[q];simp);subst e'
       rw[hK (by rw[q];simp)] at e;cases e)
   have hM:Mod K mg (mE s₁.heap H):=⟨hKb,nsK hns,⟨mb,nsK hb,hbb⟩,let ⟨mc,h1,h2⟩:=hlim;⟨mc,nsK h1,h2⟩⟩;have e0:pJ P w K mg (mE s₁.heap H) callerA [] s₁ H:=⟨rfl,hM,fun b o e=>wo e,CS (tN _ _),trivial,fun b hb=>absurd (show b∈([]:List Addr) from hb) (by simp),hok,.of_eq hg⟩;refine codeAny_mono ((F _ hKb (nsK hns)).run callerA [] s₁ H ⟨[.ref a],[]⟩ [.ref a] [.ref a] _ _ hr e0 (hbind s₁ (.ref a)) (.cons rfl .nil) (hsp H hO hS)) fun r s' h=>?_
   cases r with
   | error e=>exact(hCX H e s' h).elim
   | ok fl =>
     cases fl with
     | next=>exact False.elim h
     | brk=>exact False.elim h
     | cont=>exact False.elim h
     | ret u =>
       obtain⟨v,H',os,bare,un,hok',r',q⟩:=h;have q':v=.bl true:=q;subst q';obtain rfl:u=Value.bool true:=r';refine⟨rfl,OldK.of_keep fun b o e=>?_,os,bare⟩
       cases q:H b with
       | none=>exact un.keep b o e q (by intro z;exact absurd (show b∈([]:List Addr) from z) (by simp)) (by simp)
       | some u =>
         rcases hO b with z | ⟨ob,xs,z⟩
         . rw[q] at z;cases z
         . have z2:=un.frzs b ob _ z;obtain⟨e1,_⟩:=hok b _ z;obtain⟨e2,_⟩:=hok' b _ z2;rw[e] at e1;cases e1;exact e2
 cases hk:K.lookup a with
 | some o =>
   have e:=KX a o hk;rw[ha] at e;cases e;refine core (fun _=>none) (fun _=>.inl rfl) (.inr ⟨_,vs.toArray,_,hk,rfl,rfl,rfl,by rw[Ah,lenV];exact hl,by simpa using rv⟩) (fun b u z=>by have z':(none:Option HO)=some u:=z;cases z') (fun b z=>absurd rfl z) fun z=>absurd rfl z
 | none =>
   refine core (fun b=>if b=a then some (.frz { cls:=.type "list",data:=.seq vs.toArray } (.lst (ns.map V.int))) else none) (fun b=>?_) (.inl (.inr ⟨{ cls:=.type "list",data:=.seq vs.toArray },if_pos rfl⟩)) (fun b u z=>?_) (fun b z=>?_) fun _=>hk
   . by_cases hb:b=a
     . exact .inr ⟨_,_,if_pos hb⟩
     . exact .inl (if_neg hb)
   . by_cases hb:b=a
     . have z':=(if_pos hb).symm.trans z;cases z';subst hb;exact⟨ha,by rw[be];exact hl,vs,_,rv,ha⟩
     . have z':=(if_neg hb).symm.trans z;cases z'
   . by_cases hb:b=a
     . exact hb
     . exact absurd (if_neg hb) z
theorem walk_of {l:PySem.W.OpenLaw}{n k:Nat}{q:Program}{loose:List Str}{XP:(Str→Option Value)→Heap→Prop}{YP:World→Heap→Prop}{d:DefRec}{K:Params→PySem.W.Frag}{CX:World→CXT}{sp:World→Sp}{x:Str}
   (hn:l.most=some n)(hn2:n≤sizeLine)(hdf:d.params.defaults=[])(hr:cL k callerA)
   (hY:∀ (w:World)(h:Heap),YP w h→(K w.params).In h)
   (F:∀ (w:World)(mg:Str→Option Value)(fa:Addr)(h:Heap),(K w.params).In h→h.Ns mainGlobals mg→mg d.name=some (.ref fa) →
     ∃ fd:FuncData,(∀ (s:Shared) (u:Value),BindsTo s fd ⟨[u],[]⟩ [(x,u)]) ∧
       ∀ base:Heap,(K w.params).In base→base.Ns mainGlobals mg→aU l.prog w (K w.params) mg base (CX w) k fa fd [x] (sp w))
   (hsp:∀ (w:World)(H:Hp)(a:Addr)(ns:List Int),ns.length≤n→xM H→SqL (K w.params) H a (ns.map V.int)→sp w [.ref a] H (fun v _=>v=.bl true) fun _ _ _=>False)
   (hCX:∀ (w:World)(H:Hp)(s:Shared) (e:Value)(s':Shared),CX w [] H s (fun _ _ _=>False) e s'→False) :
   PySem.W.WalkO q loose XP YP l.row.toRowW d [] (fun f vs=>CY f vs):=by
 refine Att.attach_call hn hdf fun w s₀ s₁ mg mb fa o pm cd doc a vs ns G Y ho hd hcd hmg hobj hints hlen hg=>?_;have KX:=hY w _ Y;obtain⟨fd,hb,hF⟩:=F w mg fa _ KX G.T.g hmg;exact uR KX G.T.g G.T.b G.T.builtins G.T.nolimit hg hobj hints (AO hlen hn2) hr hF hb (fun H hO hS=>hsp w H a ns hlen hO hS) fun H e s'=>hCX w H s₁ e s'
def bA (s:Stmt) (j:Nat):Stmt:=match s with
 | .ClassDef _ _ _ body _ _ _ _ _ _ _=>body.getD j (.Pass ⟨0,0,0,0⟩)
 | _=>.Pass ⟨0,0,0,0⟩
def gh (s:Stmt):Arguments:=match s with
 | .FunctionDef _ a _ _ _ _ _ _ _ _=>a
 | _=>{ posonlyargs:=[],args:=[],vararg:=none,kwonlyargs:=[],kw_defaults:=[],kwarg:=none,defaults:=[] }
def dC (s:Stmt):List Stmt:=match s with
 | .FunctionDef _ _ b _ _ _ _ _ _ _=>b
 | _=>[]
def ao (s:Stmt):Scope:=match s with
 | .FunctionDef _ _ _ _ _ _ sc _ _ _=>sc
 | _=>{ kind:=.function,names:=[],isGenerator:=false,isCoroutine:=false }
abbrev CX0:CXT:=fun _ _ _ _ _ _=>False
abbrev E0:XK:=fun _ _ _=>False
theorem az {X:Cx}:dz CX0 X E0:=fun _ _ _ _ _ _ _ h=>h.elim
structure Fun (K:PySem.W.Frag) (x qual:Str)(st:Stmt)(f:Addr)(fd:FuncData):Prop where
 ex:∃ (oc:Value)(od:Option Addr) (kV doc pm:Value)(an:Option Addr) (cdv ct:Value)(osl:Array (Option Value)),
   fd=BD x qual (gh st) (dC st) (ao st) .none kV doc pm an cdv ct∧K.lookup f=some ⟨oc,od,.func fd,osl⟩∧CK K cdv qual=true
 kp:Bq K (.ref f)=true
section
variable {P:Program}{w:World}{K:PySem.W.Frag}{mg:Str→Option Value}{base:Heap}
theorem Fun.ok {x qual:Str}{st:Stmt}{f:Addr}{fd:FuncData}{N ps:List Str}{k:Nat}{sp:Sp}(F:Fun K x qual st f fd)(S:ax N ps (ao st))(len:∀ vs H Q E,sp vs H Q E→vs.length=ps.length)
   (hbody:∀ (cdv:Value)(A:Around)(outer:List Env)(s:Shared)(H:Hp)(vs:List V)(Q:VK)(E:XK),cL k (A.deeper (envOfC qual (ao st) s.heap.objs.size f cdv))→sp vs H Q E →
     ∃ t,PSs (eV CX0 P w K mg base N qual (ao st) f cdv A outer s H E).nox (dC st) t∧t { nx:=fun _ H'=>Q .non H',rt:=Q } (start N vs) H):aU P w K mg base CX0 (k+1) f fd ps sp:=by
 obtain⟨oc,od,kV,doc,pm,an,cdv,ct,osl,rfl,lk,hcd⟩:=F.ex;refine xA lk hcd S len fun A outer s H vs Q E hr hsp=>?_;obtain⟨t,h,q⟩:=hbody cdv A outer s H vs Q E hr hsp;exact⟨t,h.nox,q⟩
theorem Fun.binds {x qual:Str}{st:Stmt}{f:Addr}{fd:FuncData}{ps:List Str}(F:Fun K x qual st f fd)
   (h:∀ (kV doc pm:Value)(an:Option Addr) (cdv ct:Value)(us:List Value),us.length=ps.length→bindArgs (BD x qual (gh st) (dC st) (ao st) .none kV doc pm an cdv ct) ⟨us,[]⟩=pure (ps.zip us)):eC K fd ps []:=by
 obtain⟨oc,od,kV,doc,pm,an,cdv,ct,osl,rfl,lk,hcd⟩:=F.ex;exact .all (h kV doc pm an cdv ct)
theorem fun_mk {x qual:Str}{st:Stmt}{f:Addr}{oc:Value}{od an:Option Addr}{osl:Array (Option Value)}{kV doc pm cdv ct:Value}(l:K.lookup f=some ⟨oc,od,.func (BD x qual (gh st) (dC st) (ao st) .none kV doc pm an cdv ct),osl⟩)
 (c:CK K cdv qual=true)(k:Bq K (.ref f)=true):Fun K x qual st f (BD x qual (gh st) (dC st) (ao st) .none kV doc pm an cdv ct):=⟨⟨oc,od,kV,doc,pm,an,cdv,ct,osl,rfl,l,c⟩,k⟩
end
section
variable {X:Cx}
theorem pv (i:Nat){x:Str}{pos:Pos}(hN:X.N[i]?=some x:=by rfl)(hv:Vis X.env.scope x:=by first | exact Or.inl rfl | exact Or.inr (Or.inl rfl) | exact Or.inr (Or.inr rfl))(hd:(x==("__debug__":Str))=false:=by decide)
 (hcd:(x==("__classdict__":Str))=false:=by decide):PE X (.Name x pos) (k4 i):=xQ hN hv hd hcd
theorem tL:cw X (.builtin "len") (fun xs H Q=>∃ a kvs,xs=[V.ref a]∧H a=some (.dK kvs)∧Q (.int kvs.length) H):=by
 intro pins s σ H xs us Q I r h;obtain⟨a,kvs,rfl,ha,q⟩:=h;obtain⟨u,rfl,ru⟩:=eA r;cases ru;exact y7 I (.inl ha) fun t s' I'=>⟨.int kvs.length,H,I',⟨t,rfl⟩,q⟩
end
theorem aB {c A B:Prop} [Decidable c](h1:c→A)(h2:¬c→B):if c then A else B:=by
 by_cases h:c
 . rw[if_pos h];exact h1 h
 . rw[if_neg h];exact h2 h
def af (H H':Hp):Prop:=∀ b o,H b=some o→H' b=some o
theorem af.refl (H:Hp):af H H:=fun _ _ h=>h
theorem af.trans {H H1 H2:Hp}(a:af H H1)(b:af H1 H2):af H H2:=fun c o h=>b c o (a c o h)
theorem af.free {H H':Hp}(e:af H H'){l:Addr}(h:H' l=Option.none):H l=Option.none:=by
 cases q:H l with
 | none=>rfl
 | some o =>
   rw[e l o q] at h;cases h
theorem af.seq {K:PySem.W.Frag}{H H':Hp}{a:Addr}{xs:List V}(e:af H H')(h:SqL K H a xs):SqL K H' a xs:=by
 rcases h with (h | ⟨o,h⟩) | h
 . exact .inl (.inl (e _ _ h))
 . exact .inl (.inr ⟨o,e _ _ h⟩)
 . exact .inr h
section
variable {κ:Type} [DecidableEq κ]
theorem gY:∀ {l:List κ}{k:κ},l.Nodup→¬k∈l→(l++[k]).Nodup
 | [],k,_,_=>by simp
 | a::r,k,h,hk=>by
   obtain⟨h1,h2⟩:=List.nodup_cons.mp h;show(a::(r++[k])).Nodup;refine List.nodup_cons.mpr ⟨fun m=>?_,gY h2 fun m=>hk (List.mem_cons.mpr (Or.inr m))⟩
   rcases List.mem_append.mp m with q | q
   . exact h1 q
   . exact hk (List.mem_cons.mpr (Or.inl (List.mem_singleton.mp q).symm))
end
end L2
set_option maxHeartbeats 8000000
namespace L2
open PySem PySem.Spec PyProof.Rows
def ji (cells:List (Str×Addr)):List (Str×NameKind)→List (Str×Addr)→List (Str×Addr)
 | [],acc=>acc
 | (n,k)::r,acc=>ji cells r (if(k==.free)=true then(n,(cells.lookup n).getD 0)::acc else acc)
def jj (scope:Scope)(env:Env):List (Str×Addr):=ji env.cells scope.names []
theorem gE {env:Env}:∀ (names:List (Str×NameKind))(acc:List (Str×Addr)),(∀ y∈names,y.2=.free→∃ c,env.cells.lookup y.1=some c) →
   (forIn names acc (fun(x:Str×NameKind)(r:List (Str×Addr))=>if(x.2==.free)=true then(do let c ←cellOf env x.1;pure (ForInStep.yield ((x.1,c)::r))) else pure (ForInStep.yield r)):Sem (List (Str×Addr)))=pure (ji env.cells names acc)
 | [],acc,_=>by simp[ji]
 | (n,k)::r,acc,h=>by
   have hr:∀ y∈r,y.2=.free→∃ c,env.cells.lookup y.1=some c:=fun y hy=>h y (Ai _ hy);by_cases hk:(k==NameKind.free)=true
   . obtain⟨c,hc⟩:=h (n,k) Ag (by simpa using hk)
     have e:cellOf env n=pure c:=by unfold cellOf;rw[show env.cells.lookup n=some c from hc]
     simp only[Cd,hk,if_true,e,pure_bind,ji,hc,BM];exact gE r _ hr
   . simp only[Cd,hk,Bool.false_eq_true,if_false,pure_bind,ji];exact gE r _ hr
theorem fo {env:Env}{scope:Scope}(h:∀ y∈scope.names,y.2=.free→∃ c,env.cells.lookup y.1=some c):closureFor scope env=pure (jj scope env):=by
 unfold closureFor jj;have:=gE scope.names [] h
 simpa using this
theorem jG {cells:List (Str×Addr)}{n:Str}{c:Addr}:∀ (names:List (Str×NameKind))(acc:List (Str×Addr)),(n,c)∈ji cells names acc→(n,c)∈acc∨((n,NameKind.free)∈names∧c=(cells.lookup n).getD 0)
 | [],acc,h=>.inl h
 | (y,k)::r,acc,h=>by
   have h':(n,c)∈ji cells r (if(k==.free)=true then(y,(cells.lookup y).getD 0)::acc else acc):=h
   rcases jG r _ h' with q | ⟨q1,q2⟩
   . by_cases hk:(k==NameKind.free)=true
     . rw[if_pos hk] at q
       rcases List.mem_cons.mp q with e | q
       . injection e with e1 e2
         subst e1
         have hk':k=.free:=by simpa using hk
         subst hk';exact .inr ⟨Ag,e2⟩
       . exact .inl q
     . rw[if_neg hk] at q;exact .inl q
   . exact .inr ⟨Ai _ q1,q2⟩
theorem lC {cells:List (Str×Addr)}{p:Str×Addr}:∀ (names:List (Str×NameKind))(acc:List (Str×Addr)),p∈acc→p∈ji cells names acc
 | [],acc,h=>h
 | (y,k)::r,acc,h=>by
   show p∈ji cells r (if(k==.free)=true then(y,(cells.lookup y).getD 0)::acc else acc);refine lC r _ ?_
   split
   . exact Ai _ h
   . exact h
theorem oQ {cells:List (Str×Addr)}{n:Str}:∀ (names:List (Str×NameKind))(acc:List (Str×Addr)),(n,NameKind.free)∈names→(n,(cells.lookup n).getD 0)∈ji cells names acc
 | (y,k)::r,acc,h=>by
   show _∈ji cells r (if(k==.free)=true then(y,(cells.lookup y).getD 0)::acc else acc)
   rcases List.mem_cons.mp h with e | h
   . injection e with e1 e2
     subst e1 e2;exact lC r _ (by rw[if_pos (by rfl)];exact Ag)
   . exact oQ r _ h
theorem eD {n:Str}{c:Addr}:∀ {l:List (Str×Addr)},(n,c)∈l→(∀ d,(n,d)∈l→d=c)→l.lookup n=some c
 | (y,d)::r,h,ha=>by
   by_cases e:n=y
   . subst e;have hd:d=c:=ha d Ag;simp[Ax,hd]
   . have e':(n==y)=false:=by simpa using e
     rw[Ax,e'];refine eD ?_ fun d hd=>ha d (Ai _ hd)
     rcases List.mem_cons.mp h with z | z
     . injection z with z1 _
       exact absurd z1 e
     . exact z
theorem jf {env:Env}{scope:Scope}{n:Str}{c:Addr}(h:(n,NameKind.free)∈scope.names)(hc:env.cells.lookup n=some c):(jj scope env).lookup n=some c:=by
 unfold jj;have h1:=oQ (cells:=env.cells) scope.names [] h;rw[hc] at h1;refine eD h1 fun d hd=>?_
 rcases jG _ _ hd with q | ⟨_,q⟩
 . cases q
 . rw[hc] at q;exact q
theorem xn {env:Env}{scope:Scope}{n:Str}{c:Addr}(hf:∀ y∈scope.names,y.2=.free→∃ c,env.cells.lookup y.1=some c)(h:(jj scope env).lookup n=some c):(n,NameKind.free)∈scope.names∧env.cells.lookup n=some c:=by
 have hm:=Bb h;unfold jj at hm
 rcases jG _ _ hm with q | ⟨q1,q2⟩
 . cases q
 . obtain⟨d,hd⟩:=hf _ q1 rfl;have hd:env.cells.lookup n=some d:=hd;rw[hd] at q2;have e:c=d:=q2;subst e;exact⟨q1,hd⟩
def cxB (X:Cx)(N:List Str)(scope:Scope)(s:Shared)(H:Hp)(ex:List Addr):Cx where
 prog:=X.prog
 w:=X.w
 K:=X.K
 mg:=X.mg
 base:=X.base
 A:=X.A
 N:=N
 s₀:=s
 H₀:=H
 env:=compEnvC scope (jj scope X.env) s.heap.objs.size X.env
 outer:=X.stack
 stack:=X.stack
 ex:=ex
 calm:=X.calm
 fn:=fun _=>false
 pn:=[]
 xe:=fun _ _=>False
def fF (pk:List (Option Nat)) (σ:St):St:=pk.map fun o=>o.bind fun j=>(σ[j]?).bind id
structure bW (N:List Str)(env:Env)(scope:Scope)(N':List Str)(pk:List (Option Nat)):Prop where
 kind:scope.kind=.function
 nocell:∀ y∈scope.names,y.2≠.cell
 names:∀ y∈scope.names,y.2=.local→scope.names.lookup y.1=some .local
 free:∀ y∈scope.names,y.2=.free→(env.scope.names.lookup y.1=some .cell∨env.scope.names.lookup y.1=some .free)
 len:pk.length=N'.length
 cap:∀ (i:Nat) (x:Str),N'[i]?=some x→∀ (j:Nat),pk[i]?=some (some j)→N[j]?=some x∧scope.names.lookup x=some .free
theorem iB {env:Env}{x:Str}{k:NameKind}:∀ {names:List (Str×NameKind)},(names.map fun(n,k)=>if(k==NameKind.free&&env.scope.kind==.function&&env.kindOf n==some .cell) then(n,NameKind.cell) else(n,k)).lookup x=some k→k=.cell∨k=.free →
   (∀ y∈names,y.2≠.cell)→(x,NameKind.free)∈names
 | [],h,_,_=>by simp at h
 | (n,k')::r,h,hk,hc=>by
   have hc':∀ y∈r,y.2≠.cell:=fun y hy=>hc y (Ai _ hy);have h':Au x ((if(k'==NameKind.free&&env.scope.kind==.function&&env.kindOf n==some .cell)=true then(n,NameKind.cell) else(n,k'))::(r.map fun(n,k)=>if(k==NameKind.free&&env.scope.kind==.function&&env.kindOf n==some .cell) then(n,NameKind.cell) else(n,k)))=some k:=h;by_cases e:x=n
   . subst e;by_cases hq:(k'==NameKind.free&&env.scope.kind==.function&&env.kindOf x==some .cell)=true
     . have:k'=.free:=by
         rw[Bool.and_eq_true,Bool.and_eq_true] at hq
         simpa using hq.1.1
       rw[←this];exact Ag
     . rw[if_neg hq] at h';simp[Ax] at h';subst h'
       rcases hk with hk | hk
       . exact absurd hk (hc _ Ag)
       . rw[←hk];exact Ag
   . have e':(x==n)=false:=by simpa using e
     have h2:Au x (r.map fun(n,k)=>if(k==NameKind.free&&env.scope.kind==.function&&env.kindOf n==some .cell) then(n,NameKind.cell) else(n,k))=some k:=by
       split at h'<;>(rw[Ax,e'] at h';exact h')
     exact Ai _ (iB h2 hk hc')
theorem kM {env:Env}{x:Str}:∀ {names:List (Str×NameKind)},names.lookup x=some .free →
   (names.map fun(n,k)=>if(k==NameKind.free&&env.scope.kind==.function&&env.kindOf n==some .cell) then(n,NameKind.cell) else(n,k)).lookup x=some .cell ∨
   (names.map fun(n,k)=>if(k==NameKind.free&&env.scope.kind==.function&&env.kindOf n==some .cell) then(n,NameKind.cell) else(n,k)).lookup x=some .free
 | [],h=>by simp at h
 | (n,k')::r,h=>by
   show Au x ((if(k'==NameKind.free&&env.scope.kind==.function&&env.kindOf n==some .cell)=true then(n,NameKind.cell) else(n,k'))::(r.map fun(n,k)=>if(k==NameKind.free&&env.scope.kind==.function&&env.kindOf n==some .cell) then(n,NameKind.cell) else(n,k)))=_ ∨
     Au x ((if(k'==NameKind.free&&env.scope.kind==.function&&env.kindOf n==some .cell)=true then(n,NameKind.cell) else(n,k'))::(r.map fun(n,k)=>if(k==NameKind.free&&env.scope.kind==.function&&env.kindOf n==some .cell) then(n,NameKind.cell) else(n,k)))=_
   by_cases e:x=n
   . subst e
     have hk:k'=.free:=by simpa [Ax] using h
     subst hk
     split
     . left;simp[Ax]
     . right;simp[Ax]
   . have e':(x==n)=false:=by simpa using e
     rw[Ax,e'] at h;have ih:=kM (env:=env) (x:=x) (names:=r) h
     split<;>(simp only[Ax,e'];exact ih)
section
variable {X:Cx}{pins:List (Addr×Obj)}{σ:St}{H:Hp}{s:Shared}{scope:Scope}{N':List Str}{pk:List (Option Nat)}{fp:List Addr}
theorem hU (I:Inv X pins σ H s)(B:bW X.N X.env scope N' pk):∀ y∈scope.names,y.2=.free→∃ c,X.env.cells.lookup y.1=some c:=fun y hy hf=>I.ok.has y.1 (B.free y hy hf)
theorem rH {h₁:Heap}{t:Nat}(I:Inv X pins σ H s)(B:bW X.N X.env scope N' pk)(hf:∀ b∈fp,ff X pins H b)(ho:∀ b∈fp,∃ o,s.heap.get? b=some o)
   (hn:h₁.Ns s.heap.objs.size (fun _=>none))(hs:∀ b o,s.heap.get? b=some o→h₁.get? b=some o) :
   Inv (cxB X N' scope s H fp) [] (fF pk σ) H { s with heap:=h₁,toks:=t }:=by
 have bh:=hU I B;have clx:∀ x c,(jj scope X.env).lookup x=some c→(x,NameKind.free)∈scope.names∧X.env.cells.lookup x=some c:=fun x c h=>xn bh h
 refine⟨⟨I.ok.mod,?_,I.ok.glob,I.ok.blt,z7 _,fun x y c h1 h2=>?_,fun x hx=>?_,fun x c h _=>?_,I.ok.hd,I.ok.frames,.inl rfl,fun b hb=>⟨?_,fun x c h=>?_⟩,I.bs,AO I.ok.bsz I.sz,fun b o e hb=>?_,fun b hb hfs=>?_,I.stack,I.stkFree⟩,
   rfl,I.bare,Un.kept hs,⟨_,hn,fun i x v h1 h2 h3=>?_⟩,fun x c h=>?_,I.hok.fresh (z7 _),fun x c h=>?_,fun p hp=>absurd (show p∈([]:List (Addr×Obj)) from hp) (by simp),I.hok.kept hs,?_⟩
 . exact B.kind
 . exact I.ok.inj x y c (clx x c h1).2 (clx y c h2).2
 . have hx':(relabel scope X.env).names.lookup x=some .cell∨(relabel scope X.env).names.lookup x=some .free:=hx
   have hm:(x,NameKind.free)∈scope.names:=by
     rcases hx' with z | z
     . exact iB z (.inl rfl) B.nocell
     . exact iB z (.inr rfl) B.nocell
   obtain⟨c,hc⟩:=bh _ hm rfl;exact⟨c,jf hm hc⟩
 . exact absurd (show false=true from h) Bool.false_ne_true
 . obtain⟨o,e⟩:=ho b hb;exact Ak (Heap.lt_size e)
 . exact(hf b hb).2.2.2.2.1 x c (clx x c h).2
 . have:=(hf b hb);obtain⟨_,_,_,h4,_⟩:=this
   rcases h4 with q | q
   . exact I.ok.noex b o e q
   . exact absurd (Am (Heap.lt_size e) (AO I.ok.bsz q)) (Bp _)
 . obtain⟨_,h2,h3,_⟩:=hf b hb
   rcases List.mem_cons.mp (I.stkSub b hfs) with q | q
   . exact h2 q
   . exact h3 q
 ·
   have h2':(pk.map fun o=>o.bind fun j=>(σ[j]?).bind id)[i]?=some (some v):=h2;rw[zX] at h2'
   cases ep:pk[i]? with
   | none=>rw[ep] at h2';cases h2'
   | some o =>
     rw[ep] at h2';have h2':o.bind (fun j=>(σ[j]?).bind id)=some v:=Option.some.inj h2'
     cases o with
     | none=>cases h2'
     | some j =>
       have h2':(σ[j]?).bind id=some v:=h2'
       have hj:σ[j]?=some (some v):=by
         cases q:σ[j]? with
         | none=>rw[q] at h2';cases h2'
         | some w=>rw[q] at h2';exact congrArg some h2'
       obtain⟨hN,hlk⟩:=B.cap i x h1 j ep;have hm:=Bb hlk;obtain⟨m,_,hl⟩:=I.loc
       have hv:Vis X.env.scope x:=by
         rcases B.free _ hm rfl with z | z
         . exact .inr (.inl z)
         . exact .inr (.inr z)
       obtain⟨u,r,l⟩:=hl j x v hN hj hv;refine⟨u,r,?_⟩
       rcases l with ⟨k,_⟩ | ⟨k,c,hc,hcell⟩
       . have k':X.env.scope.names.lookup x=some .local:=k
         rcases B.free _ hm rfl with z | z
         . rw[show X.env.scope.names.lookup x=some .cell from z] at k';cases k'
         . rw[show X.env.scope.names.lookup x=some .free from z] at k';cases k'
       . refine .inr ⟨?_,c,jf hm hc,?_⟩
         . rcases h3 with z | z
           . have z':(relabel scope X.env).names.lookup x=some .local:=z
             rcases kM (env:=X.env) hlk with y | y
             . have y':(relabel scope X.env).names.lookup x=some .cell:=y;rw[y'] at z';cases z'
             . have y':(relabel scope X.env).names.lookup x=some .free:=y;rw[y'] at z';cases z'
           . exact z
         . obtain⟨o,ho,hd⟩:=hcell;exact⟨o,hs _ _ ho,hd⟩
 . obtain⟨v,o,ho,hd⟩:=I.cell x c (clx x c h).2;exact⟨v,o,hs _ _ ho,hd⟩
 . exact I.freeC x c (clx x c h).2
 . show(fF pk σ).length=N'.length;unfold fF;rw[be];exact B.len
end
theorem l5 {prog:Program}{w:World}{A:Around}{R:Result→Shared→Prop}{s:Shared}{elt target iter:Expr}{scope:Scope}{pos:Pos}{it acc:Value}{env:Env}(I:Nat→Shared→Prop)
   (turn:∀ n s,I n s→∀ E:Value→Shared→Prop,wpAny (model prog w) A (pyNext it) (fun r s₁=>match r with
     | none=>R (.ok .next) s₁
     | some v=>wpAny (model prog w) A (letOwnedTupleGo target it v) (fun _ s₁'=>wpAny (model prog w) A (assign target env v) (fun _ s₂=>wpAny (model prog w) A (eval elt env) (fun x s₃ =>
         wpAny (model prog w) A (call (.builtin "list.append") [acc,x]) (fun _ s₄=>∃ m,m < n∧I m s₄) E s₃) E s₂) E s₁') E s₁) E s)
   (n:Nat)(h:I n s) :
   codeAny (model prog w) A (.compLoop (.ListComp elt [⟨target,iter,[],0⟩] scope pos) 0 it acc env) R s:=by
 refine codeAny_loop rfl I (fun n s hI=>?_) n h;show wpAny _ _ ((compTurn (.ListComp elt [⟨target,iter,[],0⟩] scope pos) 0 it acc env).onRaise (fun x=>do noteFrame x env;theTreesLotGoes x)) _ _ s;refine wpAny_noted ?_;rw[compTurn_list1];refine wpAny_bind (wpAny_standAt (wpAny_bind (wpAny_mono (turn n s hI _) (fun r s₁ h₁=>?_) fun _ _ h'=>h')))
 cases r with
 | none=>exact wpAny_pure h₁
 | some v =>
   refine wpAny_bind (wpAny_mono h₁ (fun _ s₁' h₁=>?_) fun _ _ h'=>h')
   exact wpAny_bind (wpAny_mono h₁ (fun _ s₂ h₂=>wpAny_bind (wpAny_bind (wpAny_mono h₂ (fun x s₃ h₃=>wpAny_bind (wpAny_mono h₃
     (fun _ s₄ h₄=>wpAny_pure (wpAny_pure ⟨rfl,h₄⟩)) fun _ _ h'=>h')) fun _ _ h'=>h'))) fun _ _ h'=>h')
def ou (J:It)(g:TG)(te:TE)(D:Addr)(Q:Hp→Prop) (σ:St)(H:Hp):Prop :=
 ∃ W:Nat→Nat→St→Hp→Prop,(∃ m,W 0 m σ H)∧∀ i m σ' H',W i m σ' H' →
   (J.stop i H'∧Q H')∨(J.go i H'∧∃ N:St→Hp→Prop,(∀ σ'' H'',N σ'' H''→∃ m',m' < m∧W (i+1) m' σ'' H'') ∧
     ∀ x H2,J.yld i H' x H2→g x σ' H2 fun σ2 H3=>te σ2 H3 fun v H4=>∃ xs,H4 D=some (.lst xs)∧xs.length < sizeLine∧N σ2 (upd H4 D (.lst (xs++[v]))))
section
variable {X:Cx}{pins:List (Addr×Obj)}{σ:St}{H:Hp}{s:Shared}{scope:Scope}{N':List Str}{pk:List (Option Nat)}{fp:List Addr}
theorem n6 {elt tg iter:Expr}{g:TG}{te:TE}{J:It}{it:Addr}{tn:Nat→Heap→Prop}{pos:Pos}{QD:Addr→Hp→Prop}{E:Value→Shared→Prop}{RR:Value→Addr→Result→Shared→Prop}
   (I:Inv X pins σ H s)(B:bW X.N X.env scope N' pk)(hc:X.calm=true)(T:oj X.prog X.w X.K tg J fp it tn)(st:tn 0 s.heap)(hf:∀ b∈fp,ff X pins H b)
   (hg:∀ s H ex,PG (cxB X N' scope s H ex) tg g)(he:∀ s H ex,PE (cxB X N' scope s H ex) elt te)
   (hW:∀ D,H D=none→ou J g te D (QD D) (fF pk σ) (upd H D (.lst [])))
   (fin:∀ D C s' H' m,Inv X pins σ H' s'→ff X pins H' C→s'.heap.Ns C m→QD D H'→RR (.ref D) C (.ok .next) s') :
   wpAny (model X.prog X.w) X.A (newList []) (fun acc s₃=>wpAny (model X.prog X.w) X.A (newFunctionEnv scope X.env.globals (jj scope X.env) [] X.env.qual none .none (some X.env)) (fun cenv s₄ =>
     codeAny (model X.prog X.w) X.A (.compStart (.ListComp elt [⟨tg,iter,[],0⟩] scope pos) 0 (.ref it) acc { cenv with scope:=relabel scope X.env }) (RR acc cenv.locals) s₄) E s₃) E s:=by
 have hD0:H s.heap.objs.size=none:=I.hok.fresh (z7 _);refine wpAny_newObj_type (wpAny_newFunctionEnv B.nocell (by intro y hy;simp at hy) (fun h₁ hns₁ hsb₁=>?_) B.kind);dsimp only at hns₁ hsb₁ ⊢;have I3:Inv X pins σ (upd H s.heap.objs.size (.lst [])) { s with heap:=s.heap.push { cls:=.type "list",dict:=none,data:=.seq ([]:List Value).toArray } }:=I.lnew (t':=s.toks) .nil (AN _);obtain⟨W,⟨m0,w0⟩,turn⟩:=hW _ hD0;generalize hs3:({ s with heap:=s.heap.push { cls:=.type "list",dict:=none,data:=.seq ([]:List Value).toArray } }:Shared)=s3 at I3
 have eh:s.heap.push { cls:=.type "list",dict:=none,data:=.seq ([]:List Value).toArray }=s3.heap:=by rw[←hs3]
 have hold:∀ b o,s.heap.get? b=some o→s3.heap.get? b=some o:=fun b o e=>by rw[←eh];exact Heap.get?_push_of_some _ e
 rw[eh] at hns₁ hsb₁;have hs:∀ b o,s3.heap.get? b=some o→h₁.get? b=some o:=fun b o e=>hsb₁.extBut b o (Ak (Heap.lt_size e)) (Heap.get?_push_of_some _ e)
 have hf3:∀ b∈fp,ff X pins (upd H s.heap.objs.size (.lst [])) b:=fun b hb=>by
   refine⟨?_,(hf b hb).2⟩;obtain⟨o,e,_⟩:=T.obj 0 _ st b hb;rw[ai (Ak (Heap.lt_size e))];exact(hf b hb).1
 have ho3:∀ b∈fp,∃ o,s3.heap.get? b=some o:=fun b hb=>by
   obtain⟨o,e,_⟩:=T.obj 0 _ st b hb;exact⟨o,hold _ _ e⟩
 have st1:tn 0 h₁:=T.keep 0 _ _ st fun b hb o e=>hs b o (hold b o e)
 have esh:∀ t,({ s with heap:=h₁,toks:=t }:Shared)={ s3 with heap:=h₁,toks:=t }:=fun t=>by rw[←hs3]
 have loop:∀ t,codeAny (model X.prog X.w) X.A (.compLoop (.ListComp elt [⟨tg,iter,[],0⟩] scope pos) 0 (.ref it) (.ref s.heap.objs.size) (compEnvC scope (jj scope X.env) s3.heap.objs.size X.env))
     (RR (.ref s.heap.objs.size) s3.heap.objs.size) { s with heap:=h₁,toks:=t }:=fun t=>by
   rw[esh t];have IB:Inv (cxB X N' scope s3 (upd H s.heap.objs.size (.lst [])) fp) [] (fF pk σ) (upd H s.heap.objs.size (.lst [])) { s3 with heap:=h₁,toks:=t }:=rH I3 B hf3 ho3 hns₁ hs
   have f2:∀ b∈fp,ff (cxB X N' scope s3 (upd H s.heap.objs.size (.lst [])) fp) [] (upd H s.heap.objs.size (.lst [])) b:=fun b hb =>
     ⟨(hf3 b hb).1,(IB.ok.exf b hb).1,IB.ok.exfs b hb,.inl hb,(IB.ok.exf b hb).2,fun p hp=>absurd (show p∈([]:List (Addr×Obj)) from hp) (by simp)⟩
   have stat:∀ {H':Hp},(∀ b∈fp,H' b=none)→∀ b∈fp,ff (cxB X N' scope s3 (upd H s.heap.objs.size (.lst [])) fp) [] H' b:=fun hn b hb=>⟨hn b hb,(f2 b hb).2⟩;refine l5 (fun n s'=>∃ i σ' H',Inv (cxB X N' scope s3 (upd H s.heap.objs.size (.lst [])) fp) [] σ' H' s'∧tn i s'.heap∧(∀ b∈fp,H' b=none)∧W i n σ' H') ?_ m0 ⟨0,_,_,IB,st1,fun b hb=>(f2 b hb).1,w0⟩;rintro n s4 ⟨i,σ4,H4,I4,st4,fr4,w4⟩ E'
   rcases turn i n σ4 H4 w4 with ⟨stop,qn⟩ | ⟨go,N,hN,step⟩
   . refine thn (T.done (cxB X N' scope s3 (upd H s.heap.objs.size (.lst [])) fp) rfl rfl rfl hc i [] s4 σ4 H4 E' I4 (stat fr4) st4 stop) fun r s5 ⟨hr,I5⟩=>?_;subst hr;obtain⟨m5,hn5,_⟩:=I5.loc;have IX:Inv X pins σ H4 s5:=I3.call' (ch:=fp) I5.os I5.base I5.hok I5.bare fun b hb=>⟨(hf3 b hb).2.2.2.1,(hf3 b hb).2.1,(hf3 b hb).2.2.2.2.1,(hf3 b hb).2.2.2.2.2⟩;exact fin _ _ s5 H4 m5 IX (I3.fpOk (z7 _) I5.free) hn5 qn
   . refine thn (T.item (cxB X N' scope s3 (upd H s.heap.objs.size (.lst [])) fp) rfl rfl rfl hc i [] s4 σ4 H4 E' I4 (stat fr4) st4 go) fun r s5 ⟨u,hr,h5⟩=>?_;subst hr;refine thn h5 fun _ s6 ⟨x,H6,I6,r6,y6,st6,fr6⟩=>?_;have I6':=I6.pinned (stat fr6) (T.obj _ _ st6);refine wpAny_mono (hg _ _ _ s6 σ4 H6 x u _ I6' r6 (step x H6 y6)) (fun _ s7 ⟨σ7,H7,I7,q7⟩=>?_) fun _ _ z=>False.elim z;refine wpAny_mono (he _ _ _ s7 σ7 H7 _ I7 q7) (fun w s8 ⟨v,H8,I8,r8,xs,hx8,hl8,n8⟩=>?_) fun _ _ z=>False.elim z;refine wpAny_mono (bN (X:=cxB X N' scope s3 (upd H s.heap.objs.size (.lst [])) fp) _ s8 σ7 H8 (.ref s.heap.objs.size) [v] (.ref s.heap.objs.size) [w] (fun _ H9=>N σ7 H9) I8 rfl (.cons r8 .nil) ⟨_,xs,v,rfl,rfl,hx8,hl8,n8⟩) (fun _ s9 ⟨_,H9,I9,_,n9⟩=>?_) fun _ _ z=>False.elim z;obtain⟨m',hm,w9⟩:=hN σ7 H9 n9;refine⟨m',hm,i+1,σ7,H9,I9.unpinned,T.keep _ _ _ st6 fun b hb o e=>(I9.pin (b,o) (Aq _ (Aq _ (dt hb e)))).1,fun b hb=>?_,w9⟩;obtain⟨o,e,d⟩:=T.obj _ _ st6 b hb;exact(I9.pin (b,o) (Aq _ (Aq _ (dt hb e)))).2.1
 rw[←eh] at loop;exact codeAny_compStart_list (loop _) (T.self _ _ _ _ _ st1 (loop _))
theorem Inv.gone {h':Heap}{C:Addr}(I:Inv X pins σ H s)(f:ff X pins H C)(hs:Heap.SameBut C s.heap h'):Inv X pins σ H { s with heap:=h' } :=
 I.turned (t':=s.toks) (it:=C) (fun b o hb e=>hs.extBut b o hb e) f.1 f.2.1 f.2.2.2.1 f.2.2.2.2.1 f.2.2.2.2.2
def su (pk:List (Option Nat))(wi:TI)(g:TG)(te:TE):TE:=fun σ H Q=>wi σ H fun J H1=>∀ D,H1 D=none→ou J g te D (fun H'=>Q (.ref D) H') (fF pk σ) (upd H1 D (.lst []))
theorem fe {elt tg iter:Expr}{wi:TI}{g:TG}{te:TE}{pos:Pos}(hc:X.calm=true)(B:bW X.N X.env scope N' pk)(hi:PI X tg iter wi)
   (hg:∀ s H ex,PG (cxB X N' scope s H ex) tg g)(he:∀ s H ex,PE (cxB X N' scope s H ex) elt te)(hs:∀ x,foldedSetIterable iter X.env x=pure x:=by intro _;rfl) :
   PE X (.ListComp elt [⟨tg,iter,[],0⟩] scope pos) (su pk wi g te):=by
 intro pins s σ H Q I h;rw[eval_ListComp];have hclos:=fo (hU I B);refine wpAny_comprehension_free (use:=none) rfl hs hclos B.kind B.names (thn (hi s σ H _ I h) fun v s1 h1=>thn h1 fun itv s2 h2=>?_);obtain⟨it,fp,tn,J,H2,e,I2,T,st2,f2,hW⟩:=h2;subst e;refine n6 (QD:=fun D H'=>Q (.ref D) H') (RR:=fun acc C=>compPost (model X.prog X.w) X.A X.xe none (EP X pins σ Q) acc C) I2 B hc T st2 f2 hg he hW fun D C s' H' m I' f' hn q=>?_;exact⟨m,hn,fun h' hs'=>⟨.ref D,H',I'.gone f' hs',rfl,q⟩⟩
theorem jm {i:Nat}{y:Str}{elt tg iter:Expr}{wi:TI}{g:TG}{te:TE}{pos spos py:Pos}(hN:X.N.Nodup)(hiy:X.N[i]?=some y)(hy:Loc X.env.scope y)(hc:X.calm=true)(B:bW X.N X.env scope N' pk)(hi:PI X tg iter wi)
   (hg:∀ s H ex,PG (cxB X N' scope s H ex) tg g)(he:∀ s H ex,PE (cxB X N' scope s H ex) elt te)
   (hsw:swapsWith (.ListComp elt [⟨tg,iter,[],0⟩] scope pos) (some (.Name y py)) spos.line X.env=pure true:=by rfl)
   (hs:∀ x,foldedSetIterable iter X.env x=pure x:=by intro _;rfl)(hf:X.fn y=true∨X.env.scope.names.lookup y=some .local:=by first | exact .inl rfl | exact .inr rfl | assumption) :
   PS X (.Assign [.Name y py] (.ListComp elt [⟨tg,iter,[],0⟩] scope pos) spos) (p8 (su pk wi g te) (bB i)):=by
 intro pins s σ H D0 I h;rw[exec_Assign_Name_used _ _ _ _ hsw];have hclos:=fo (hU I B);refine wpAny_bind (wpAny_standAt (wpAny_bind ?_));show wpAny _ X.A (do let _ ←comprehension (.ListComp elt [⟨tg,iter,[],0⟩] scope pos) scope X.env _ (newList []) false (eval iter X.env) (some (assign (.Name y py) X.env))) _ _ s
 refine wpAny_bind (wpAny_mono (wpAny_comprehension_free (use:=some (assign (.Name y py) X.env)) (Q:=fun _ s'=>SP X pins D0 .next s') rfl hs hclos B.kind B.names
   (thn (hi s σ H _ I h) fun v s1 h1=>thn h1 fun itv s2 h2=>?_)) (fun _ s' hq=>wpAny_pure (wpAny_pure hq)) fun _ _ e=>e)
 obtain⟨it,fp,tn,J,H2,e,I2,T,st2,f2,hW⟩:=h2;subst e;refine n6 (QD:=fun D H'=>D0.nx (σ.set i (some (.ref D))) H') (RR:=fun acc C=>compPost (model X.prog X.w) X.A X.xe (some (assign (.Name y py) X.env)) (fun _ s'=>SP X pins D0 .next s') acc C) I2 B hc T st2 f2 hg he hW fun D C s' H' m I' f' hn q=>?_;show wpAny _ X.A (assign (.Name y py) X.env (.ref D)) _ _ _;refine wpAny_assign_Name (ip (v:=.ref D) I' hN hiy hy rfl (fun s3 I3 ⟨a,hsa,ha⟩=>?_) hf)
 have hCa:C≠a:=by
   rcases ha with z | z
   . rw[z];exact f'.2.1
   . exact fun e=>f'.2.2.2.2.1 _ _ z e.symm
 exact⟨m,hn.sameBut hsa hCa,fun h' hs'=>⟨_,H',I3.gone f' hs',q⟩⟩
end
def Itw (n:Nat)(vs:Nat→V→Prop):It:=⟨fun i _=>i < n,fun i H x H'=>H'=H∧vs i x,fun i _=>i=n⟩
theorem li {P:Program}{w:World}{K:PySem.W.Frag}{tg:Expr}{it:Addr}{n:Nat}{PV:Nat→Value→Prop}{St:Nat→Heap→Prop}{vs:Nat→V→Prop}
   (W:∀ A':Around,A'.handled=none→Walks P w A' it [it] [it] n PV St)
   (hobj:∀ i h,St i h→∃ o nm fv,h.get? it=some o∧o.cls=.type nm∧o.data=.fields fv∧["enumerate", "zip", "dict_itemiterator", "dict_reverseitemiterator", "odict_iterator", "itertools.zip_longest", "itertools.pairwise"].contains nm=false)
   (hv:∀ i v,PV i v→∃ x,vs i x∧bd x v)(hself:∀ (A:Around) (i:Nat)(s:Shared)(Q:Value→Shared→Prop)(E:Value→Shared→Prop),St i s.heap→Q (.ref it) s→wpAny (model P w) A (pyIter (.ref it)) Q E s):oj P w K tg (Itw n vs) [it] it St where
 mem:=by simp
 obj:=fun i h st b hb=>by
   have e:b=it:=by simpa using hb
   subst e;obtain⟨o,nm,fv,e,_,hd,_⟩:=hobj i h st;exact⟨o,e,fun v z=>by rw[hd] at z;cases z⟩
 keep:=fun i h h' st k=>(W { depth:=0,units:=0,handled:=none,frames:=none } rfl).frame i h h' st k
 item:=by
   intro X hP hw hK hc i pins s σ H E I hf st hg;subst hP hw hK;obtain⟨f0,f1,f2,f3,f4,f5⟩:=hf it (by simp);refine(W X.A (I.ok.hd hc)).item i s _ _ hg st fun v h' tk hv' st' kk=>?_;have I1:Inv X pins σ H { s with heap:=h',toks:=tk }:=I.turned (fun b o hb e=>kk b o (by simpa using hb) e) f0 f1 f3 f4 f5;obtain⟨o,nm,fv,e,hcl,hd,hnm⟩:=hobj _ _ st';obtain⟨x,hx,rx⟩:=hv i v hv';exact⟨_,rfl,oW (s:={ s with heap:=h',toks:=tk }) e hcl hd hnm ⟨x,H,I1,rx,⟨rfl,hx⟩,st',fun b hb=>(hf b hb).1⟩⟩
 done:=by
   intro X hP hw hK hc i pins s σ H E I hf st hg;subst hP hw hK;obtain⟨f0,f1,f2,f3,f4,f5⟩:=hf it (by simp);have e:i=n:=hg;subst e;exact(W X.A (I.ok.hd hc)).done s _ _ st fun h' tk kk=>⟨rfl,I.turned (fun b o hb e=>kk b o (by simpa using hb) e) f0 f1 f3 f4 f5⟩
 self:=hself
def sgn (c:Nat):V:=.str ⟨#[c]⟩
def xW (tl:TE):TI:=fun σ H R=>tl σ H fun x H1=>∃ z:Str,x=.str z∧R (Itw z.cps.size fun i v=>∃ c,z.cps[i]?=some c∧v=sgn c) H1
theorem uf {X:Cx}{tg l:Expr}{tl:TE}(hl:PE X l tl):PI X tg l (xW tl):=by
 intro pins s σ H R I h;refine thn (hl s σ H _ I h) fun v s1 ⟨x,H1,I1,r1,q1⟩=>?_;obtain⟨z,e,q⟩:=q1;subst e;obtain⟨t,rfl⟩:=r1
 have fp:∀ o:Obj,∀ b∈[s1.heap.objs.size],ff X pins H1 b:=fun o b hb=>by
   have e:b=s1.heap.objs.size:=by simpa using hb
   subst e;exact I1.fpOk (z7 _) (I1.hok.fresh (z7 _))
 cases ha:z.cps.all (· < 128)
 . refine wpAny_pyIter_wide ha ?_;refine⟨s1.heap.objs.size,[s1.heap.objs.size],_,_,H1,rfl,I1.kept (t':=s1.toks) fun b o e=>Heap.get?_push_of_some _ e,li (fun A' hA=>Walks.strWide hA _ z t) ?_ ?_ ?_,⟨_,Heap.get?_push_size _ rfl,rfl,rfl⟩,fp default,q⟩
   . rintro i h ⟨o,e,hc,hd⟩;exact⟨o,_,_,e,hc,hd,by decide⟩
   . rintro i v ⟨c,u,hc,rfl⟩;exact⟨sgn c,⟨c,hc,rfl⟩,⟨u,rfl⟩⟩
   . exact fun A i s Q E st hq=>wpAny_pyIter_striter_wide st hq
 . refine wpAny_pyIter_ascii ha ?_;refine⟨s1.heap.objs.size,[s1.heap.objs.size],_,_,H1,rfl,I1.kept (t':=s1.toks) fun b o e=>Heap.get?_push_of_some _ e,li (fun A' hA=>Walks.strAscii hA _ z t) ?_ ?_ ?_,⟨_,Heap.get?_push_size _ rfl,rfl,rfl⟩,fp default,q⟩
   . rintro i h ⟨o,e,hc,hd⟩;exact⟨o,_,_,e,hc,hd,by decide⟩
   . rintro i v ⟨c,u,hc,rfl⟩;exact⟨sgn c,⟨c,hc,rfl⟩,⟨u,rfl⟩⟩
   . exact fun A i s Q E st hq=>wpAny_pyIter_striter_ascii st hq
theorem gL {ss:List Str}:∀ {us:List Value},Vals (ss.map V.str) us→StrsAre us ss:=by
 induction ss with
 | nil=>intro us r;rw[Bw] at r;cases r;exact .nil
 | cons n ns ih =>
   intro us r;rw[An] at r
   cases r with
   | cons r1 r2 =>
     obtain⟨t,e⟩:=r1;subst e;exact .cons n t (ih r2)
theorem iA {ss:List Str}{us:List Value}(h:StrsAre us ss):Vals (ss.map V.str) us:=by
 induction h with
 | nil=>exact .nil
 | cons y t r ih=>exact .cons ⟨t,rfl⟩ ih
theorem xq {X:Cx}:MtR X "str.join" (fun x vs H Q=>∃ (z:Str)(a:Addr)(ss:List Str),x=.str z∧vs=[.ref a]∧SqL X.K H a (ss.map V.str)∧(ss.map (·.length)).sum+ss.length*z.length≤16777216∧Q (.str (Txt.join z ss)) H):=by
 intro pins s σ H x xs v us Q I rx rs h;obtain⟨z,a,ss,rfl,rfl,ha,hz,q⟩:=h;obtain⟨t,rfl⟩:=rx;obtain⟨u,rfl,ru⟩:=rs.one;cases ru;obtain⟨its,r,pl,_⟩:=I.list ha;exact join_list pl.isList (by simpa using gL r) hz fun t' k=>⟨.str _,H,I.tok _,⟨t',rfl⟩,q⟩
theorem wx {bs:List Bool}:∀ {us:List Value}{i:Nat}{v:Value},Vals (bs.map V.bl) us→us[i]?=some v→∃ b,bs[i]?=some b∧v=.bool b:=by
 induction bs with
 | nil=>intro us i v r h;rw[Bw] at r;cases r;simp at h
 | cons b bs ih =>
   intro us i v r h;rw[An] at r
   cases r with
   | cons r1 r2 =>
     cases i with
     | zero=>simp at h;subst h;exact⟨b,rfl,r1⟩
     | succ i=>obtain⟨c,h1,h2⟩:=ih r2 (by simpa using h);exact⟨c,by simpa using h1,h2⟩
theorem ud {X:Cx}(hc:X.calm=true):cw X (.builtin "all") (fun xs H Q=>∃ (a:Addr)(bs:List Bool),xs=[.ref a]∧SqL X.K H a (bs.map V.bl)∧Q (.bl (bs.all id)) H):=by
 intro pins s σ H xs us Q I r h;obtain⟨a,bs,rfl,ha,q⟩:=h;obtain⟨u,rfl,ru⟩:=eA r;cases ru;obtain⟨its,rv,pl,_⟩:=I.list ha;have hl:=pl.isList
 have hlt:a < s.heap.objs.size:=by obtain⟨_,e,_⟩:=hl;exact Heap.lt_size e
 refine call_all_walk (wpAny_pyIter_list hl ?_)
 refine⟨s.heap.objs.size,[s.heap.objs.size,a],[s.heap.objs.size],its.toArray.size,_,_,fun i=>(bs[i]?).getD true,rfl,Walks.list (A:=X.A.in1) (I.ok.hd hc) _ a (Ak hlt) its.toArray,
   ⟨⟨_,Heap.get?_push_size _ rfl,rfl,rfl⟩,hl.push _⟩,fun i v s' Q' E' hP hQ=>?_,fun h' tk hk=>?_⟩
 . obtain⟨b,e,rfl⟩:=wx rv (by simpa using hP);simp only[e,BM] at hQ;exact wpAny_truthy_bool hQ
 . have hn:=rv.length;rw[be] at hn
   have e:((Ab its.toArray.size).all fun i=>(bs[i]?).getD true)=bs.all id:=by
     rw[Ah,←hn];exact LSm.range_all bs
   rw[e];exact⟨.bl _,H,I.kept (LSm.kept_iter hk),rfl,q⟩
theorem cr {X:Cx}:cw X (.builtin "isinstance") (fun xs H Q=>∃ x c t b,xs=[x,.ty c]∧cD X.K H x t∧AB X.K t (.type c)=some b∧Q (.bl b) H):=by
 intro pins s σ H xs us Q I r h;obtain⟨x,c,t,b,rfl,ty,e,q⟩:=h;obtain⟨u,w',rfl,r1,r2⟩:=oO r;cases r2;exact t6 I r1 ty e fun tk=>⟨.bl b,H,I.tok _,rfl,q⟩
theorem d5 {X:Cx}:OpR X (binaryOp .FloorDiv) (rI (fun _ j=>0 < j∧j < 2 ^ 64) fun i j=>.int (i / j)):=opI fun i j _ _ _ _ _ hc q=>by
 obtain⟨h1,h2⟩:=hc;refine floordiv_int (by omega) (by rw[Int.fdiv_eq_ediv_of_nonneg i (by omega)];exact q) (.inl (PyProof.noPylong_of_log2 ?_))
 have h0:j.natAbs≠0:=by omega
 have:j.natAbs.log2 < 64:=(Nat.log2_lt h0).mpr (by omega);omega
structure d6 (J:It)(H1:Hp) (n:Nat)(vs:Nat→V→Prop):Prop where
 go:∀ i H',i < n→af H1 H'→J.go i H'
 yld:∀ i H' x H2,i < n→af H1 H'→J.yld i H' x H2→H2=H'∧vs i x
 stop:∀ H',af H1 H'→J.stop n H'
theorem iY {H1:Hp}{n:Nat}{vs:Nat→V→Prop}:d6 (Itw n vs) H1 n vs:=⟨fun _ _ h _=>h,fun _ _ _ _ _ _ h=>h,fun _ _=>rfl⟩
theorem bu {H1:Hp}{lo:Int}{n:Nat}:d6 (Itr lo n) H1 n (fun i x=>x=.int (lo+i)):=⟨fun _ _ h _=>h,fun _ _ _ _ _ _ h=>h,fun _ _=>z7 _⟩
theorem aE {K:PySem.W.Frag}{H1:Hp}{a:Addr}{xs:List V}(h:SqL K H1 a xs):d6 (Itl K a) H1 xs.length (fun i x=>xs[i]?=some x) :=
 ⟨fun i H' hi s=>⟨xs,xs[i],s.seq h,by simp[hi]⟩,fun i H' x H2 hi s y=>⟨y.1,y.2 xs (s.seq h)⟩,fun H' s=>⟨xs,s.seq h,z7 _⟩⟩
theorem af.sqT {K:PySem.W.Frag}{H H':Hp}{a:Addr}{xs:List V}(e:af H H')(h:SqT K H a xs):SqT K H' a xs:=by
 rcases h with (h | ⟨o,h⟩) | h
 . exact .inl (.inl (e _ _ h))
 . exact .inl (.inr ⟨o,e _ _ h⟩)
 . exact .inr h
theorem qK {K:PySem.W.Frag}{H1:Hp}{a:Addr}{xs:List V}(h:SqT K H1 a xs):d6 (Itt K a) H1 xs.length (fun i x=>xs[i]?=some x) :=
 ⟨fun i H' hi s=>⟨xs,xs[i],s.sqT h,by simp[hi]⟩,fun i H' x H2 hi s y=>⟨y.1,y.2 xs (s.sqT h)⟩,fun H' s=>⟨xs,s.sqT h,z7 _⟩⟩
theorem af.updN {H:Hp}{D:Addr}{o:HO}(h:H D=none):af H (upd H D o):=fun b u e=>by rw[ai (aG e h)];exact e
theorem af.step {H0 H:Hp}{D:Addr}{o:HO}(s:af H0 H)(h:H0 D=none):af H0 (upd H D o):=fun b u e=>by rw[ai (aG e h)];exact s b u e
theorem rh {J:It}{n:Nat}{vs:Nat→V→Prop}{g:TG}{te:TE}{D:Addr}{Q:Hp→Prop}{σ:St}{H0 H:Hp}(S:d6 J H0 n vs)(hn:n≤sizeLine)(Pv:Nat→List V→St→Hp→Prop)
   (h0:Pv 0 [] σ H)(hsame:∀ i xs σ' H',Pv i xs σ' H'→af H0 H'∧xs.length=i)
   (step:∀ i xs σ' H' x,i < n→vs i x→Pv i xs σ' H'→∀ R:V→St→Hp→Prop,(∀ v σ2 H4,H4 D=some (.lst xs)→Pv (i+1) (xs++[v]) σ2 (upd H4 D (.lst (xs++[v])))→R v σ2 H4)→g x σ' H' fun σ2 H3=>te σ2 H3 fun v H4=>R v σ2 H4)
   (fin:∀ xs σ' H',Pv n xs σ' H'→Q H'):ou J g te D Q σ H:=by
 refine⟨fun i m σ' H'=>m=n - i∧i≤n∧∃ xs,Pv i xs σ' H',⟨n,by simp,AN _,[],h0⟩,?_⟩;rintro i m σ' H' ⟨rfl,hi,xs,p⟩;obtain⟨sm,hl⟩:=hsame _ _ _ _ p;by_cases hlt:i < n
 . refine .inr ⟨S.go i H' hlt sm,fun σ2 H2=>∃ ys,Pv (i+1) ys σ2 H2,fun σ2 H2 ⟨ys,p'⟩=>⟨n - (i+1),by omega,rfl,hlt,ys,p'⟩,fun x H2 y=>?_⟩;obtain⟨e,hv⟩:=S.yld i H' x H2 hlt sm y;subst e;exact step i xs σ' _ x hlt hv p (fun v σ2 H4=>∃ xs,H4 D=some (.lst xs)∧xs.length < sizeLine∧∃ ys,Pv (i+1) ys σ2 (upd H4 D (.lst (xs++[v])))) fun v σ2 H4 a b=>⟨xs,a,by omega,_,b⟩
 . have e:i=n:=by omega
   subst e;exact .inl ⟨S.stop H' sm,fin xs σ' H' p⟩
theorem cG {J:It}{n:Nat}{vs:Nat→V→Prop}{g:TG}{te:TE}{D:Addr}{Q:Hp→Prop}{σ:St}{H:Hp}(S:d6 J H n vs)(hn:n≤sizeLine)(hD:H D=none)(Pσ:St→Prop)(out:Nat→V)
   (h0:Pσ σ)(step:∀ i x σ' H',i < n→vs i x→Pσ σ'→af H H'→∀ R:V→St→Hp→Prop,(∀ σ2,Pσ σ2→R (out i) σ2 H')→g x σ' H' fun σ2 H3=>te σ2 H3 fun v H4=>R v σ2 H4)
   (fin:Q (upd H D (.lst ((Ab n).map out)))):ou J g te D Q σ (upd H D (.lst [])):=by
 refine⟨fun i m σ' H'=>m=n - i∧i≤n∧Pσ σ'∧H'=upd H D (.lst ((Ab i).map out)),⟨n,by simp,AN _,h0,rfl⟩,?_⟩;rintro i m σ' H' ⟨rfl,hi,p,rfl⟩;have sm:af H (upd H D (.lst ((Ab i).map out))):=af.updN hD;by_cases hlt:i < n
 . refine .inr ⟨S.go i _ hlt sm,fun σ2 H2=>Pσ σ2∧H2=upd H D (.lst ((Ab (i+1)).map out)),fun σ2 H2 ⟨p',e⟩=>⟨n - (i+1),by omega,rfl,hlt,p',e⟩,fun x H2 y=>?_⟩;obtain⟨e,hv⟩:=S.yld i _ x H2 hlt sm y;subst e;refine step i x σ' _ hlt hv p sm (fun v σ2 H4=>∃ xs,H4 D=some (.lst xs)∧xs.length < sizeLine∧Pσ σ2∧upd H4 D (.lst (xs++[v]))=upd H D (.lst ((Ab (i+1)).map out))) fun σ2 p2=>?_;refine⟨(Ab i).map out,ac,by rw[be,Ba];omega,p2,?_⟩;rw[ic,Bt,z8,BE]
 . have e:i=n:=by omega
   subst e;exact .inl ⟨S.stop _ sm,fin⟩
def ua (J:It)(g:TG)(tb:TS)(D:gl) (σ:St)(H:Hp):Prop :=
 ∃ W:Nat→Nat→St→Hp→Prop,(∃ m,W 0 m σ H)∧∀ i m σ H,W i m σ H →
   (J.stop i H∧D.nx σ H)∨(J.go i H∧∃ N:St→Hp→Prop,(∀ σ' H',N σ' H'→∃ m',m' < m∧W (i+1) m' σ' H')∧∀ x H',J.yld i H x H'→g x σ H' fun σ2 H2=>tb { D with nx:=N,ct:=N,bk:=D.nx } σ2 H2)
theorem q9 (wi:TI)(g:TG)(tb:TS)(D:gl) (σ:St)(H:Hp):zd wi g tb D σ H=wi σ H fun J H1=>ua J g tb D σ H1:=rfl
theorem bn {J:It}{H0:Hp}{n:Nat}{vs:Nat→V→Prop}{g:TG}{tb:TS}{D:gl}{σ:St}{H:Hp}(S:d6 J H0 n vs)(Pv:Nat→St→Hp→Prop)(h0:Pv 0 σ H)(hsame:∀ i σ H,i≤n→Pv i σ H→af H0 H)
   (hs:∀ i x σ H,i < n→vs i x→Pv i σ H→g x σ H fun σ2 H2=>tb { D with nx:=Pv (i+1),ct:=Pv (i+1),bk:=D.nx } σ2 H2)(hd:∀ σ H,Pv n σ H→D.nx σ H):ua J g tb D σ H:=by
 refine⟨fun i m σ H=>m=n - i∧i≤n∧Pv i σ H,⟨n,by simp,AN _,h0⟩,?_⟩;rintro i m σ H ⟨rfl,hi,p⟩;have sm:=hsame i σ H hi p;by_cases hlt:i < n
 . refine .inr ⟨S.go i H hlt sm,Pv (i+1),fun σ' H' p'=>⟨n - (i+1),by omega,rfl,hlt,p'⟩,fun x H' y=>?_⟩;obtain⟨e,hv⟩:=S.yld i H x H' hlt sm y;subst e;exact hs i x σ _ hlt hv p
 . have e:i=n:=by omega
   subst e;exact .inl ⟨S.stop H sm,hd σ H p⟩
def yO (t u:TS):TS:=fun D σ H=>∃ Pv:St→Hp→Prop,t { D with nx:=Pv } σ H∧∀ σ' H',Pv σ' H'→u D σ' H'
theorem aj {X:Cx}{st:Stmt}{cO:List Stmt}{t u:TS}(h1:PS X st t)(h2:PSs X cO u):PSs X (st::cO) (yO t u):=by
 intro pins s σ H D I h;obtain⟨Pv,h,k⟩:=h;refine wpAny_execs_cons (thn (h1 s σ H { D with nx:=Pv } I h) fun f s1 q=>?_)
 cases f with
 | next =>
   obtain⟨σ',H',I',q⟩:=q;exact h2 s1 σ' H' D I' (k _ _ q)
 | ret v=>exact q
 | brk=>exact q
 | cont=>exact q
theorem cut {t u:TS}{D:gl}{σ:St}{H:Hp}(Pv:St→Hp→Prop)(h:t { D with nx:=Pv } σ H)(k:∀ σ' H',Pv σ' H'→u D σ' H'):yO t u D σ H:=⟨Pv,h,k⟩
def zb (N:List Str)(on:List (Str×NameKind))(sc:Scope)(N':List Str)(pk:List (Option Nat)):Bool :=
 (sc.kind==.function)&&(sc.names.all fun y=>!(y.2==.cell))&&(sc.names.all fun y=>!(y.2==.local)||(sc.names.lookup y.1==some .local)) &&
 (sc.names.all fun y=>!(y.2==.free)||(on.lookup y.1==some .cell)||(on.lookup y.1==some .free))&&(pk.length==N'.length) &&
 ((Ab pk.length).all fun i=>match pk[i]? with
   | some (some j)=>(match N'[i]? with | some x=>(N[j]?==some x)&&(sc.names.lookup x==some .free) | none=>false)
   | _=>true)
theorem bW.of {N:List Str}{env:Env}{sc:Scope}{N':List Str}{pk:List (Option Nat)}(h:zb N env.scope.names sc N' pk=true):bW N env sc N' pk:=by
 unfold zb at h;simp only[Bool.and_eq_true] at h;obtain⟨⟨⟨⟨⟨h1,h2⟩,h3⟩,h4⟩,h5⟩,h6⟩:=h;refine⟨by simpa using h1,fun y hy e=>?_,fun y hy e=>?_,fun y hy e=>?_,by simpa using h5,fun i x hx j hj=>?_⟩
 . have:=List.all_eq_true.mp h2 y hy;rw[e] at this;exact absurd this (by decide)
 . have:=List.all_eq_true.mp h3 y hy;rw[e] at this
   simpa using this
 . have:=List.all_eq_true.mp h4 y hy;rw[e] at this
   simpa [Bool.or_eq_true] using this
 . have hi:i < pk.length:=(List.getElem?_eq_some_iff.mp hj).1;have:=List.all_eq_true.mp h6 i (List.mem_range.mpr hi);rw[hj,hx] at this
   simpa [Bool.and_eq_true] using this
theorem aF {CX:CXT}{P:Program}{w:World}{K:PySem.W.Frag}{mg:Str→Option Value}{base:Heap}{N:List Str}{qual:Str}{scope:Scope}{f:Addr}{cd:Value}{A:Around}{outer:List Env}{s:Shared}{H:Hp}{E:XK}:(eV CX P w K mg base N qual scope f cd A outer s H E).K=K:=rfl
theorem aO {X:Cx}{N:List Str}{scope:Scope}{s:Shared}{H:Hp}{ex:List Addr}:(cxB X N scope s H ex).K=X.K:=rfl
theorem nY (N:List Str)(vs:List V):L2.start N vs=vs.map some++Ae (N.length - vs.length) none:=rfl
theorem vH (c:Nat):sgn c=.str ⟨#[c]⟩:=rfl
def ej (acc:List Str) (x:Str):List Str:=if x∈acc then acc else acc++[x]
def dP (l:List Str):List Str:=l.foldl ej []
theorem lE (l:List Str) (x:Str):dP (l++[x])=ej (dP l) x:=by unfold dP;rw[Ct];rfl
theorem oM (acc:List Str) (x:Str):(ej acc x).length≤acc.length+1:=by unfold ej;split<;>simp
theorem gz (l:List Str):∀ i,(dP (l.take i)).length≤i
 | 0=>by simp[dP]
 | i+1=>by
   have ih:=gz l i
   cases h:l[i]? with
   | none =>
     have:l.length≤i:=List.getElem?_eq_none_iff.mp h;rw[AQ (by omega)];rw[AQ this] at ih;omega
   | some x =>
     rw[BI,h];show(dP (l.take i++[x])).length≤i+1;rw[lE];have:=oM (dP (l.take i)) x;omega
section
variable {prog:Program}{w:World}
theorem vb {h:Heap}{S:Addr}{acc:List Str}{x:Str}(hs:h.SetOf (strKind prog w) S (fun k=>decide (k∈acc)||decide (k=x)) (if decide (x∈acc)=true then acc.length else acc.length+1)) :
   h.SetOf (strKind prog w) S (fun k=>decide (k∈ej acc x)) (ej acc x).length:=by
 refine SetOf_congr hs (fun k=>?_) ?_
 . unfold ej;by_cases hx:x∈acc
   . rw[if_pos hx];by_cases hk:k=x
     . subst hk;simp[hx]
     . simp[hk]
   . rw[if_neg hx];rw[Bool.eq_iff_iff];simp
 . unfold ej;by_cases hx:x∈acc
   . rw[if_pos hx,if_pos (by simpa using hx)]
   . rw[if_neg hx,if_neg (by simpa using hx),zY];rfl
theorem u3 {A:Around}{R:Result→Shared→Prop}{I S l:Addr}{items:Array Value}{ss:List Str}(hh:A.in1.handled=none)(hIl:l≠I)(hSI:S≠I)(hSl:S≠l)(hss:StrsAre items.toList ss)(hb:items.size+1 < scanBound) :
   ∀ (k i:Nat)(s:Shared),items.size - i=k→i≤items.size→s.heap.IsListIter I l i→s.heap.IsList l items→s.heap.SetOf (strKind prog w) S (fun x=>decide (x∈dP (ss.take i))) (dP (ss.take i)).length →
     (∀ h' tk,(∀ b o,b≠S→b≠I→s.heap.get? b=some o→h'.get? b=some o)→h'.SetOf (strKind prog w) S (fun x=>decide (x∈dP ss)) (dP ss).length→R (.ok (.ret .none)) { s with heap:=h',toks:=tk }) →
     codeAny (model prog w) A (.builtin "set.update.loop" ⟨[.ref S,.ref I],[]⟩) R s:=by
 have hlen:items.size=ss.length:=by rw[←hss.length];simp
 intro k
 induction k with
 | zero =>
   intro i s hk hi hit hl hS hR
   have e:i=items.size:=by omega
   subst e;refine codeAny_builtin PyProof.Rows.F.entry_set_update_loop ?_;rw[Around.under_plainId PyProof.Rows.F.plain_set_update_loop _];refine wpAny_bind (wpAny_pyNext_list_end hh hit hl (by simp) fun h' eb=>?_);rw[hlen,AR] at hS;refine wpAny_pure (hR h' s.toks (fun b o _ hb e=>eb b o hb e) ?_);obtain⟨o,es,ep,t,ho,cO⟩:=hS;exact⟨o,es,ep,t,eb S o hSI ho,cO⟩
 | succ k ih =>
   intro i s hk hi hit hl hS hR
   have hlt:i < items.size:=by omega
   obtain⟨x,hx⟩:∃ x,ss[i]?=some x:=⟨ss[i]'(by omega),zW (by omega)⟩
   obtain⟨t,ht⟩:∃ t,items[i]?=some (.str x t):=by
     obtain⟨u,hu,r⟩:=(iA hss).get (i:=i) (x:=V.str x) (by rw[zX,hx];rfl);obtain⟨t,rfl⟩:=r;exact⟨t,by simpa using hu⟩
   refine codeAny_builtin PyProof.Rows.F.entry_set_update_loop ?_;rw[Around.under_plainId PyProof.Rows.F.plain_set_update_loop _];refine wpAny_bind (wpAny_pyNext_list_item hit hl ht fun h' hit' sb=>?_)
   have hS':h'.SetOf (strKind prog w) S (fun x=>decide (x∈dP (ss.take i))) (dP (ss.take i)).length:=by
     obtain⟨o,es,ep,tb,ho,cO⟩:=hS;exact⟨o,es,ep,tb,(sb.2 S hSI).trans ho,cO⟩
   show wpAny _ A.in1 (holding [Value.str x t] (setAdd S (.str x t)) >>= _) _ _ _;refine wpAny_bind (wpAny_holding ?_);unfold setAdd;refine wpAny_holding (wpAny_bind ((strKind prog w).pyHash (k:=x) (strKind_is _ _ _ _) ?_))
   have hroom:(dP (ss.take i)).length+1 < scanBound:=by have:=gz ss i;omega
   refine wpAny_setAddHashed_of (knd:=strKind prog w) (strKind_is _ _ _ _) rfl hS' hroom fun h2 hsb hS2=>?_;have hS3:=vb hS2
   have et:dP (ss.take (i+1))=ej (dP (ss.take i)) x:=by rw[BI,hx];exact lE _ _
   rw[←et] at hS3;refine wpAny_pure ⟨plainId_quiet PyProof.Rows.F.plain_set_update_loop _,ih (i+1) _ (by omega) hlt ?_ ?_ hS3 fun h3 tk kk hS4=>?_⟩
   . exact hit'.at fun o e=>(hsb.2 I (Ne.symm hSI)).trans e
   . exact hl.at fun o e=>(hsb.2 l (Ne.symm hSl)).trans ((sb.2 l hIl).trans e)
   . exact hR h3 tk (fun b o h1 h2' e=>kk b o h1 h2' ((hsb.2 b h1).trans ((sb.2 b h2').trans e))) hS4
end
section
variable {prog:Program}{w:World}{A:Around}{E:Value→Shared→Prop}{s:Shared}
theorem lU {T newId initId:String}{Bi:Builtin}{args:List Value}{Q Q1:Value→Shared→Prop}(ft:TypeCalled T newId initId)(hct:checkTypeCall T ⟨args,[]⟩=pure ())(hI:entryFor table initId=some Bi)
   (hnew:codeAny (model prog w) A.in1 (.call (.builtin newId) ⟨.type T::args,[]⟩) (wants Q1 E) s)
   (hinit:∀ obj s1,Q1 obj s1→s1.TypeIs obj T∧∀ E':Value→Shared→Prop,wpAny (model prog w) A.in1.in1 (checkBuiltinCall initId ⟨obj::args,[]⟩) (fun _ s2=>s2=s1) E' s1)
   (hbody:∀ obj s1,Q1 obj s1→wpAny (model prog w) A.in1.in1 (Bi ⟨obj::args,[]⟩)
       (fun fin s'=>match fin with | .done f=>wants (fun r s2=>r=.none∧Q obj s2) E (.ok f) s' | .again c'=>c'.quiet=true∧codeAny (model prog w) A.in1 c' (wants (fun r s2=>r=.none∧Q obj s2) E) s')
       (fun e s'=>wants (fun r s2=>r=.none∧Q obj s2) E (.error e) s') s1):wpAny (model prog w) A (call (.type T) args) Q E s:=by
 have hmade:=ft.made;have hsub:=ft.sub;obtain⟨c,tl,hmro⟩:=ft.mro;have h1:=ft.notType;have h2:=ft.canCreate;refine wpAny_call (codeAny_of_tree (show wpAny _ _ (callAny (.type T) _) _ _ _ from wpAny_pure ⟨Code.quiet_builtin _ (by decide),codeAny_builtin F.entry_type_call ?_⟩));rw[Around.under_plain (weight_type_call_type T args []) rfl]
 repeat (any_goals (first | assumption | wp_step))
 refine codeAny_mono hnew fun r s1 hr=>?_
 rcases r with e | fl
 . exact hr
 cases fl with
 | ret obj =>
   obtain⟨hT,hck⟩:=hinit _ _ hr;have hli:=ft.init.lookup;have hbi:=ft.init.bind obj
   repeat (any_goals (first | assumption | wp_step))
   refine codeAny_mono (codeAny_call_builtin (R:=wants (fun r s2=>r=.none∧Q obj s2) E) ft.init.plain hI (wpAny_mono (hck _) (fun _ s2 e=>by subst e;exact hbody _ _ hr) fun _ _ h'=>h')) fun r2 s2 hr2=>?_
   rcases r2 with e | f2
   . exact hr2
   cases f2 with
   | ret r =>
     obtain⟨rfl,hq⟩:=hr2
     repeat (any_goals (first | assumption | wp_step))
   | _=>exact hr2.elim
 | _=>exact hr.elim
theorem uI {l:Addr}{items:Array Value}{ss:List Str}{Q:Value→Shared→Prop}(hh:A.handled=none)(hl:s.heap.IsList l items)(hss:StrsAre items.toList ss)(hb:items.size+1 < scanBound)
   (h:∀ h' tk,(∀ b o,s.heap.get? b=some o→h'.get? b=some o)→h'.SetOf (strKind prog w) s.heap.objs.size (fun x=>decide (x∈dP ss)) (dP ss).length→Q (.ref s.heap.objs.size) { s with heap:=h',toks:=tk }) :
   wpAny (model prog w) A (call (.type "set") [.ref l]) Q E s:=by
 refine lU (Q1:=fun obj s1=>∃ led:Bool,obj=.ref s.heap.objs.size∧s1={ s with heap:=s.heap.push { cls:=.type "set",dict:=none,data:=.set #[] 0 (.fresh 0 0 led) } }) F.called_set (F.typeCall_set_1 _) F.entry_set_init (code_set_new_1 (.ref l) fun led=>⟨led,rfl,rfl⟩) ?_ ?_
 . rintro obj s1 ⟨led,rfl,rfl⟩;have hT:Shared.TypeIs { s with heap:=s.heap.push { cls:=.type "set",dict:=none,data:=.set #[] 0 (.fresh 0 0 led) } } (.ref s.heap.objs.size) "set":=⟨_,Heap.get?_push_size _ rfl,rfl⟩;exact⟨hT,fun E'=>check_set_init_1 hT rfl⟩
 . rintro obj s1 ⟨led,rfl,rfl⟩
   have hlt:l < s.heap.objs.size:=by obtain⟨_,e,_⟩:=hl;exact Heap.lt_size e
   obtain⟨⟨oc,od,odt,osl⟩,hol,hcl,nl,hdl⟩:=id hl;simp only at hcl hdl;subst hcl;subst hdl;have hol':(s.heap.push { cls:=.type "set",dict:=none,data:=.set #[] 0 (.fresh 0 0 led) }).get? l=some { cls:=.type "list",dict:=od,data:=.seq items nl,slots:=osl }:=Heap.get?_push_of_some _ hol;have hS:(s.heap.push { cls:=.type "set",dict:=none,data:=.set #[] 0 (.fresh 0 0 led) }).get? s.heap.objs.size=some { cls:=.type "set",dict:=none,data:=.set #[] 0 (.fresh 0 0 led) }:=Heap.get?_push_size _ rfl;have hl1:(s.heap.push { cls:=.type "set",dict:=none,data:=.set #[] 0 (.fresh 0 0 led) }).IsList l items:=⟨_,hol',rfl,nl,rfl⟩;have hsls:=F.sub_list_set;have hslf:=F.sub_list_frozenset
   have hne:(Value.type "list"==Value.type "dict")=false:=by decide
   unfold Builtin.«set.__init__» noKeywords Builtin.Frozenset.updateFrom;generalize hPI:pyIter=PI
   wp_walk
   subst hPI;refine wpAny_pyIter_list hl1 (wpAny_bind (wpAny_runValue ?_));have hz:(s.heap.push { cls:=.type "set",dict:=none,data:=.set #[] 0 (.fresh 0 0 led) }).objs.size=s.heap.objs.size+1:=Heap.size_push ..;refine u3 (l:=l) (items:=items) (ss:=ss) (by simp[hh]) (by rw[hz];exact Ak (Bh hlt)) (by rw[hz];exact Ak (BA _)) (BX hlt) hss hb (items.size - 0) 0 _ (by omega) (AN _) ⟨_,Heap.get?_push_size _ rfl,rfl,rfl⟩ (hl1.push _) ?_ ?_
   . exact SetOf_congr ((setObjOf_fresh (knd:=strKind prog w) led).setOf (Heap.get?_push_of_some _ hS) (by unfold scanBound;omega)) (fun _=>rfl) rfl
   . intro h' tk kk hS';refine wpAny_pure (wpAny_pure ⟨rfl,h h' tk (fun b o e=>?_) hS'⟩);have hlb:=Heap.lt_size e;exact kk b o (Ak hlb) (by rw[hz];exact Ak (Bh hlb)) (Heap.get?_push_of_some _ (Heap.get?_push_of_some _ e))
end
section
variable {prog:Program}{w:World}{A:Around}{E:Value→Shared→Prop}{s:Shared}
theorem yg {a:Addr}{Q:Option Obj→Shared→Prop}(h:Q (s.heap.get? a) s):wpAny (model prog w) A (loadIfAlive a) Q E s:=fun Γ p _=>by
 show Sem.wp _ _ (.loadIfAlive a .pure) _ _ _ _;rw[Sem.wp_loadIfAlive];exact h
abbrev nr (h:Heap)(z TI TO T0:Addr)(f1:Bool):Prop :=
 h.get? z=some { cls:=.type "zip",dict:=none,data:=.fields #[rawInt T0,.bool f1,.bool false,.ref TI,.ref TO],slots:=#[] }
theorem rK {z TI TO T0:Addr}{f1:Bool}{Q:Bool→Shared→Prop}(hz:nr s.heap z TI TO T0 f1)(hT:∃ o,s.heap.get? T0=some o)
   (h:∀ h',nr h' z TI TO T0 true→(∀ b o,b≠z→s.heap.get? b=some o→h'.get? b=some o)→h'.objs.size=s.heap.objs.size→Q false { s with heap:=h' }) :
   wpAny (model prog w) A (Builtin.SmallTypes.ownedTupleIsFree (.ref z)) Q E s:=by
 obtain⟨o,ho⟩:=hT;unfold Builtin.SmallTypes.ownedTupleIsFree;refine wpAny_bind (wpAny_field hz rfl (x:=rawInt T0) rfl ?_);show wpAny _ _ (loadIfAlive ((T0:Int)).toNat >>= _) _ _ _;rw[AG];refine wpAny_bind (yg ?_);rw[ho];show wpAny _ _ (if(false:Bool)=true then _ else _) _ _ _;rw[if_neg Bool.false_ne_true];refine wpAny_bind (wpAny_field hz rfl (x:=.bool f1) rfl ?_)
 cases f1 with
 | true=>exact wpAny_pure (h s.heap hz (fun _ _ _ e=>e) rfl)
 | false =>
   refine wpAny_bind (wpAny_setField_rec hz (by simp) fun h' hz' hs'=>wpAny_pure (h h' hz' (fun b o hb e=>hs'.extBut _ _ hb e) hs'.1))
end
section
variable {prog:Program}{w:World}{A:Around}{E:Value→Shared→Prop}{s:Shared}
theorem sR {z TI TO T0 i1 i2 l1 l2:Addr}{f1:Bool}{k1 k2:Nat}{xs ys:Array Value}{x y:Value}{Q:Value→Shared→Prop}(D:ZipApart z TI TO i1 i2 l1 l2)
   (hz:nr s.heap z TI TO T0 f1)(hT:∃ o,s.heap.get? T0=some o)(hTI:IsPair s.heap TI (.ref i1) (.ref i2))
   (h1:s.heap.IsListIter i1 l1 k1)(h2:s.heap.IsListIter i2 l2 k2)(hl1:s.heap.IsList l1 xs)(hl2:s.heap.IsList l2 ys)(hx:xs[k1]?=some x)(hy:ys[k2]?=some y)
   (hQ:∀ h',nr h' z TI TO T0 true→h'.IsListIter i1 l1 (k1+1)→h'.IsListIter i2 l2 (k2+1)→IsPair h' s.heap.objs.size x y→h'.objs.size=s.heap.objs.size+1 →
     (∀ c o,c≠z→c≠i1→c≠i2→s.heap.get? c=some o→h'.get? c=some o)→Q (.ref s.heap.objs.size) { s with heap:=h' }) :
   wpAny (model prog w) A (Builtin.«zip.__next__» ⟨[.ref z],[]⟩) (fun fin s'=>∃ v,fin=.done (.ret v)∧Q v s') E s:=by
 show wpAny _ _ (field (.ref z) 2 >>= _) _ _ _;refine wpAny_bind (wpAny_field hz rfl (x:=.bool false) rfl (show wpAny _ _ (field (.ref z) 3 >>= _) _ _ _ from wpAny_bind (wpAny_field hz rfl (x:=.ref TI) rfl (wpAny_bind (wpAny_seqItems hTI rfl ?_)))));show wpAny _ _ (Builtin.SmallTypes.ownedTupleIsFree (.ref z) >>= _) _ _ _;refine wpAny_bind (rK hz hT fun ha hza ka hsa=>?_);simp only[Bool.false_eq_true,if_false,List.forIn_toArray,Cd,List.forIn_nil];refine wpAny_bind (wpAny_bind (wpAny_bind (wpAny_holding ?_)));have ea:ha.objs.size=s.heap.objs.size:=hsa;show wpAny _ _ (Builtin.SmallTypes.nextOf (.ref i1) >>= _) _ _ _;refine wpAny_bind (wpAny_nextOf_list_item (h1.at fun o e=>ka _ o D.i1z e) (hl1.at fun o e=>ka _ o D.l1z e) hx fun hb hib sb=>wpAny_pure (wpAny_pure ?_));refine wpAny_bind (wpAny_bind (wpAny_holding ?_));show wpAny _ _ (Builtin.SmallTypes.nextOf (.ref i2) >>= _) _ _ _;refine wpAny_bind (wpAny_nextOf_list_item ((h2.at fun o e=>ka _ o D.i2z e).extBut sb.extBut D.i12.symm) ((hl2.at fun o e=>ka _ o D.l2z e).extBut sb.extBut D.l2i1) hy fun hc hic sc=>wpAny_pure (wpAny_pure (wpAny_pure ?_)));refine wpAny_bind (wpAny_newTuple (wpAny_pure ⟨_,rfl,?_⟩) (by show 2≤sizeLine;rw[sizeLine_eq];decide))
 have ec:hc.objs.size=s.heap.objs.size:=by rw[sc.1,sb.1];exact ea
 have kc:∀ c o,c≠z→c≠i1→c≠i2→s.heap.get? c=some o→hc.get? c=some o:=fun c o c1 c2 c3 e=>sc.extBut _ _ c3 (sb.extBut _ _ c2 (ka c o c1 e));show Q (.ref hc.objs.size) { s with heap:=hc.push { cls:=.type "tuple",data:=.seq #[x,y] } };rw[ec];have up:∀ b o,hc.get? b=some o→(hc.push { cls:=.type "tuple",data:=.seq #[x,y] }).get? b=some o:=fun b o e=>Heap.get?_push_of_some _ e;refine hQ _ (up _ _ (sc.extBut _ _ D.i2z.symm (sb.extBut _ _ D.i1z.symm hza))) ((hib.extBut sc.extBut D.i12).at fun o e=>up _ o e) (hic.at fun o e=>up _ o e) ?_ (by rw[Heap.size_push,ec]) fun c o c1 c2 c3 e=>up _ _ (kc c o c1 c2 c3 e);have:=Heap.get?_push_size hc (o:={ cls:=.type "tuple",data:=.seq #[x,y] }) rfl
 rwa [ec] at this
theorem we {z TI TO T0 i1 i2 l1 l2:Addr}{f1:Bool}{k1 k2:Nat}{xs ys:Array Value}{Q:Fin→Shared→Prop}(hh:A.handled=none)(D:ZipApart z TI TO i1 i2 l1 l2)
   (hz:nr s.heap z TI TO T0 f1)(hT:∃ o,s.heap.get? T0=some o)(hTI:IsPair s.heap TI (.ref i1) (.ref i2))
   (h1:s.heap.IsListIter i1 l1 k1)(hl1:s.heap.IsList l1 xs)(hx:xs[k1]?=none)
   (hE:∀ h' e,(∀ c o,c≠z→c≠i1→s.heap.get? c=some o→h'.get? c=some o)→(∃ o,h'.get? e=some o∧o.cls=.type "StopIteration")→E (.ref e) { s with heap:=h' }) :
   wpAny (model prog w) A (Builtin.«zip.__next__» ⟨[.ref z],[]⟩) Q E s:=by
 show wpAny _ _ (field (.ref z) 2 >>= _) _ _ _;refine wpAny_bind (wpAny_field hz rfl (x:=.bool false) rfl (show wpAny _ _ (field (.ref z) 3 >>= _) _ _ _ from wpAny_bind (wpAny_field hz rfl (x:=.ref TI) rfl (wpAny_bind (wpAny_seqItems hTI rfl ?_)))));show wpAny _ _ (Builtin.SmallTypes.ownedTupleIsFree (.ref z) >>= _) _ _ _;refine wpAny_bind (rK hz hT fun ha hza ka hsa=>?_);simp only[Bool.false_eq_true,if_false,List.forIn_toArray,Cd,List.forIn_nil];refine wpAny_bind (wpAny_bind (wpAny_bind (wpAny_holding ?_)));show wpAny _ _ (Builtin.SmallTypes.nextOf (.ref i1) >>= _) _ _ _;refine wpAny_bind (wpAny_nextOf_list_end hh (h1.at fun o e=>ka _ o D.i1z e) (hl1.at fun o e=>ka _ o D.l1z e) hx fun hb e kb he=>?_);exact hE hb e (fun c o c1 c2 x=>kb _ _ c2 (ka c o c1 x)) he
theorem pW {z TI TO T0 i1 i2 l1 l2:Addr}{f1:Bool}{k1 k2:Nat}{xs ys:Array Value}{x y:Value}{Q:Option Value→Shared→Prop}(D:ZipApart z TI TO i1 i2 l1 l2)
   (hz:nr s.heap z TI TO T0 f1)(hT:∃ o,s.heap.get? T0=some o)(hTI:IsPair s.heap TI (.ref i1) (.ref i2))
   (h1:s.heap.IsListIter i1 l1 k1)(h2:s.heap.IsListIter i2 l2 k2)(hl1:s.heap.IsList l1 xs)(hl2:s.heap.IsList l2 ys)(hx:xs[k1]?=some x)(hy:ys[k2]?=some y)
   (hQ:∀ h',nr h' z TI TO T0 true→h'.IsListIter i1 l1 (k1+1)→h'.IsListIter i2 l2 (k2+1)→IsPair h' s.heap.objs.size x y→h'.objs.size=s.heap.objs.size+1 →
     (∀ c o,c≠z→c≠i1→c≠i2→s.heap.get? c=some o→h'.get? c=some o)→Q (some (.ref s.heap.objs.size)) { s with heap:=h' }) :
   wpAny (model prog w) A (pyNext (.ref z)) Q E s:=by
 have hTy:s.TypeIs (.ref z) "zip":=⟨_,hz,rfl⟩;unfold pyNext
 exact wpAny_bind (wpAny_attempt (wpAny_callSpecial?_slot (name:=zV "__next__") hTy F.slot_zip_next (wpAny_call_entry F.slot_zip_next hTy F.entry_zip_next
     (sR D hz hT hTI h1 h2 hl1 hl2 hx hy fun h' a1 a2 a3 a4 a5 a6=>wpAny_pure (hQ h' a1 a2 a3 a4 a5 a6)) (F.args_zip_next_1 _))))
theorem tE {z TI TO T0 i1 i2 l1 l2:Addr}{f1:Bool}{k1:Nat}{xs:Array Value}{Q:Option Value→Shared→Prop}(hh:A.handled=none)(D:ZipApart z TI TO i1 i2 l1 l2)
   (hz:nr s.heap z TI TO T0 f1)(hT:∃ o,s.heap.get? T0=some o)(hTI:IsPair s.heap TI (.ref i1) (.ref i2))(h1:s.heap.IsListIter i1 l1 k1)(hl1:s.heap.IsList l1 xs)(hx:xs[k1]?=none)
   (hQ:∀ h',(∀ c o,c≠z→c≠i1→s.heap.get? c=some o→h'.get? c=some o)→Q none { s with heap:=h' }):wpAny (model prog w) A (pyNext (.ref z)) Q E s:=by
 have hTy:s.TypeIs (.ref z) "zip":=⟨_,hz,rfl⟩;unfold pyNext
 refine wpAny_bind (wpAny_attempt (wpAny_callSpecial?_slot (name:=zV "__next__") hTy F.slot_zip_next (wpAny_call_entry F.slot_zip_next hTy F.entry_zip_next
   (we (k2:=0) (ys:=#[]) hh D hz hT hTI h1 hl1 hx fun h' e hk he=>?_) (F.args_zip_next_1 _))))
 obtain⟨o,ho,hc⟩:=he;exact wpAny_bind (wpAny_isInstance (T:="StopIteration") (b:=true) ⟨o,ho,hc⟩ isSubtype_stop (wpAny_pure (hQ _ hk)))
end
theorem jk:typeLookup (.type "zip") "__getattr__"=pure none:=by rw[typeLookup_type,builtinLookup_eq_fast];kernel_rfl
theorem mF:typeLookup (.type "zip") "keys"=pure none:=by rw[typeLookup_type,builtinLookup_eq_fast];kernel_rfl
theorem gy:entryFor table "dict.update.loop"=some Builtin.«dict.update.loop»:=entryFor_of_tree (by kernel_rfl)
theorem dD:plainId "dict.update.loop"=true:=by decide
theorem nL:entryFor table "zip.__getattribute__"=some Builtin.«object.__getattribute__»:=entryFor_alias (id':="object.__getattribute__") (by kernel_rfl) (by decide) (by decide) (by kernel_rfl)
section
variable {prog:Program}{w:World}{A:Around}{E:Value→Shared→Prop}{s:Shared}
theorem qU {z TI TO:Addr}{f0:Value}{Q:Option Value→Shared→Prop}(hh:A.handled=none)(hz:IsZip s.heap z TI TO f0)
   (h:∀ h' tk,(∀ b o,s.heap.get? b=some o→h'.get? b=some o)→Q none { s with heap:=h',toks:=tk }):wpAny (model prog w) A (getAttr? (.ref z) "keys") Q E s:=by
 have f1:=sub_AttributeError;have f3:=F.slot_zip_getattribute.lookup;have f4:=F.slot_zip_getattribute.bind (.ref z);have f5:=jk;have f6:=mF;obtain⟨hp,g,d,tk,os⟩:=s;have hT:Shared.TypeIs ⟨hp,g,d,tk,os⟩ (.ref z) "zip":=⟨_,hz,rfl⟩;unfold getAttr? getAttrBy? getAttrBy
 repeat (any_goals (first | assumption | wp_step))
 refine codeAny_call_builtin F.slot_zip_getattribute.plain nL (F.slot_zip_getattribute.check _ _ _ _ _ _ _ _ ⟨_,hz,rfl⟩ (F.args_zip_getattribute_2 _ _) ?_);unfold Builtin.«object.__getattribute__»
 repeat (any_goals (first | assumption | wp_step))
 refine wpAny_raiseAttrError (by simpa using hh) (fun h' tk' e hx=>?_) (attrMsg_fits (by decide) (by rw[sizeLine_eq];decide));obtain⟨t',u',he⟩:=hx.there;show wpAny _ _ (getattributeRaised _ _ _ _ _ _ _) _ _ _;unfold getattributeRaised
 repeat (any_goals (first | assumption | wp_step))
 exact h h' tk' hx.keeps
theorem pQ {T:Addr}{x y:Value}{Q:List Value→Shared→Prop}(hT:IsPair s.heap T x y)(h:Q [x,y] s):wpAny (model prog w) A (Builtin.Dict.pairItems (.ref T)) Q E s:=by
 unfold Builtin.Dict.pairItems;refine wpAny_bind (wpAny_typeOf (T:="tuple") ⟨_,hT,rfl⟩ ?_);rw[if_pos (by decide)];exact wpAny_bind (wpAny_seqItems hT rfl (wpAny_pure h))
def kB (h:Heap)(z TI TO:Addr):Prop:=IsZip h z TI TO .none∨∃ T0 f1,nr h z TI TO T0 f1∧(∃ o,h.get? T0=some o)∧T0≠z
theorem wW {z TI TO i1 i2 l1 l2:Addr}{k1 k2:Nat}{xs ys:Array Value}{x y:Value}{Q:Option Value→Shared→Prop}(D:ZipApart z TI TO i1 i2 l1 l2)
   (hz:kB s.heap z TI TO)(hTI:IsPair s.heap TI (.ref i1) (.ref i2))(hTO:∃ a b,IsPair s.heap TO a b)
   (h1:s.heap.IsListIter i1 l1 k1)(h2:s.heap.IsListIter i2 l2 k2)(hl1:s.heap.IsList l1 xs)(hl2:s.heap.IsList l2 ys)(hx:xs[k1]?=some x)(hy:ys[k2]?=some y)
   (hQ:∀ h' T,kB h' z TI TO→(∃ a b,IsPair h' TO a b)→h'.IsListIter i1 l1 (k1+1)→h'.IsListIter i2 l2 (k2+1)→IsPair h' T x y →
     (∀ c o,c≠z→c≠TO→c≠i1→c≠i2→s.heap.get? c=some o→h'.get? c=some o)→s.heap.objs.size≤T→Q (some (.ref T)) { s with heap:=h' }) :
   wpAny (model prog w) A (pyNext (.ref z)) Q E s:=by
 obtain⟨a,b,hTO⟩:=hTO
 rcases hz with hz | ⟨T0,f1,hz,hT0,hne⟩
 . refine wpAny_pyNext_zip_item D hz hTI hTO h1 h2 hl1 hl2 hx hy fun h' a1 a2 a3 a4 a5 a6 a7=>?_;exact hQ h' _ (.inr ⟨_,_,a1,⟨_,a5⟩,BX (Heap.lt_size hz)⟩) ⟨_,_,a2⟩ a3 a4 a5 a7 (z7 _)
 . refine pW D hz hT0 hTI h1 h2 hl1 hl2 hx hy fun h' a1 a2 a3 a4 a5 a6=>?_;have hTO':IsPair h' TO a b:=a6 _ _ D.TOz D.TOi1 D.TOi2 hTO
   have hT0':∃ o,h'.get? T0=some o:=by
     obtain⟨o,ho⟩:=hT0;by_cases e1:T0=i1
     . subst e1;obtain⟨o',e',_⟩:=a2;exact⟨o',e'⟩
     . by_cases e2:T0=i2
       . subst e2;obtain⟨o',e',_⟩:=a3;exact⟨o',e'⟩
       . exact⟨o,a6 _ _ hne e1 e2 ho⟩
   exact hQ h' _ (.inr ⟨_,_,a1,hT0',hne⟩) ⟨_,_,hTO'⟩ a2 a3 a4 (fun c o c1 _ c3 c4 e=>a6 c o c1 c3 c4 e) (z7 _)
theorem yP {z TI TO i1 i2 l1 l2:Addr}{k1 k2:Nat}{xs ys:Array Value}{Q:Option Value→Shared→Prop}(hh:A.handled=none)(D:ZipApart z TI TO i1 i2 l1 l2)
   (hz:kB s.heap z TI TO)(hTI:IsPair s.heap TI (.ref i1) (.ref i2))(hTO:∃ a b,IsPair s.heap TO a b)
   (h1:s.heap.IsListIter i1 l1 k1)(h2:s.heap.IsListIter i2 l2 k2)(hl1:s.heap.IsList l1 xs)(hl2:s.heap.IsList l2 ys)(hx:xs[k1]?=none)
   (hQ:∀ h',(∀ c o,c≠z→c≠TO→c≠i1→c≠i2→s.heap.get? c=some o→h'.get? c=some o)→Q none { s with heap:=h' }):wpAny (model prog w) A (pyNext (.ref z)) Q E s:=by
 obtain⟨a,b,hTO⟩:=hTO
 rcases hz with hz | ⟨T0,f1,hz,hT0,hne⟩
 . exact wpAny_pyNext_zip_end hh D hz hTI hTO h1 h2 hl1 hl2 (.inl hx) hQ
 . exact tE hh D hz hT0 hTI h1 hl1 hx fun h' k=>hQ h' fun c o c1 _ c3 _ e=>k c o c1 c3 e
theorem kB.keep {h h':Heap}{z TI TO d:Addr}(hz:kB h z TI TO)(hd:d≠z)(hs:Heap.SameBut d h h')(hde:∃ o,h'.get? d=some o):kB h' z TI TO:=by
 rcases hz with hz | ⟨T0,f1,hz,⟨o,ho⟩,hne⟩
 . exact .inl (hs.extBut _ _ (Ne.symm hd) hz)
 . refine .inr ⟨T0,f1,hs.extBut _ _ (Ne.symm hd) hz,?_,hne⟩;by_cases e:T0=d
   . subst e;exact hde
   . exact⟨o,hs.extBut _ _ e ho⟩
end
section
variable {prog:Program}{w:World}{κ:Type} [DecidableEq κ]{knd:KeyKind prog w κ}
theorem wJ {A:Around}{R:Result→Shared→Prop}{d z TI TO i1 i2 l1 l2:Addr}{xs ys:Array Value}{ks:List κ}(hh:A.in1.handled=none)(D:ZipApart z TI TO i1 i2 l1 l2)(hdz:d≠z)(hdTI:d≠TI)(hdTO:d≠TO)(hd1:d≠i1)(hd2:d≠i2)(hdl1:d≠l1)(hdl2:d≠l2)
   (hks:∀ (i:Nat) x,xs[i]?=some x→∃ k,ks[i]?=some k∧knd.is k x=true)(hxy:xs.size=ys.size)(hkl:ks.length=xs.size)(hsz:xs.size≤1000) :
   ∀ (n i:Nat)(s:Shared),xs.size - i=n→i≤xs.size→kB s.heap z TI TO→IsPair s.heap TI (.ref i1) (.ref i2)→(∃ a b,IsPair s.heap TO a b)→s.heap.IsListIter i1 l1 i→s.heap.IsListIter i2 l2 i→s.heap.IsList l1 xs→s.heap.IsList l2 ys →
     (∃ kvs,kvs.length≤i∧s.heap.DictOf knd d kvs∧kvs=merged [] ((ks.zip ys.toList).take i)) →
     (∀ h' tk,(∀ c o,c≠d→c≠z→c≠TO→c≠i1→c≠i2→s.heap.get? c=some o→h'.get? c=some o)→h'.DictOf knd d (merged [] (ks.zip ys.toList))→R (.ok (.ret .none)) { s with heap:=h',toks:=tk }) →
     codeAny (model prog w) A (.builtin "dict.update.loop" ⟨[.ref d,.ref z,rawInt i,.none],[]⟩) R s:=by
 intro n
 induction n with
 | zero =>
   intro i s hn hi hz hTI hTO h1 h2 hl1 hl2 hD hR
   have e:i=xs.size:=by omega
   refine codeAny_builtin gy ?_;rw[Around.under_plainId dD _];show wpAny _ A.in1 (pyNext (.ref z) >>= _) _ _ s;refine wpAny_bind (yP hh D hz hTI hTO h1 h2 hl1 hl2 (by rw[e];simp) fun h' kk=>?_);obtain⟨kvs,hkl',hdd,rfl⟩:=hD;have et:(ks.zip ys.toList).take i=ks.zip ys.toList:=AQ (by rw[BF,hkl,e];exact Nat.min_le_left _ _);rw[et] at hdd;refine wpAny_bind (wpAny_pure (wpAny_pure (hR h' s.toks (fun c o _ c1 c2 c3 c4 e=>kk c o c1 c2 c3 c4 e) ?_)));obtain⟨o,es,ep,ho,cO⟩:=hdd;exact⟨o,es,ep,kk _ _ hdz hdTO hd1 hd2 ho,cO⟩
 | succ n ih =>
   intro i s hn hi hz hTI hTO h1 h2 hl1 hl2 hD hR
   have hlt:i < xs.size:=by omega
   have hlt2:i < ys.size:=by omega
   refine codeAny_builtin gy ?_;rw[Around.under_plainId dD _];show wpAny _ A.in1 (pyNext (.ref z) >>= _) _ _ s;refine wpAny_bind (wW D hz hTI hTO h1 h2 hl1 hl2 (Al hlt) (Al hlt2) fun h' T a1 a2 a3 a4 a5 a6 a7=>?_);obtain⟨k,hk,hkis⟩:=hks i _ (Al hlt);obtain⟨kvs,hkl',hdd,ekv⟩:=hD
   have hdd':h'.DictOf knd d kvs:=by
     obtain⟨o,es,ep,ho,cO⟩:=hdd;exact⟨o,es,ep,a6 _ _ hdz hdTO hd1 hd2 ho,cO⟩
   refine wpAny_bind (wpAny_holding (wpAny_bind (wpAny_tryCatch (pQ a5 ?_))));refine wpAny_holding (wpAny_dictSet_pairs hkis hdd' (fun h2' hdd2 sb=>?_) (by rw[sizeLine_eq];omega))
   have hde:∃ o,h2'.get? d=some o:=by obtain⟨o,es,ep,ho,_⟩:=hdd2;exact⟨o,ho⟩
   have up:∀ b o,b≠d→h'.get? b=some o→h2'.get? b=some o:=fun b o hb e=>sb.extBut _ _ hb e
   have es:(ks.zip ys.toList).take (i+1)=(ks.zip ys.toList).take i++[(k,ys[i])]:=by
     have hzi:(ks.zip ys.toList)[i]?=some (k,ys[i]):=List.getElem?_zip_eq_some.mpr ⟨hk,by simp[hlt2]⟩;rw[BI,hzi];rfl
   have hst:(stored kvs k ys[i]).length≤kvs.length+1:=by
     unfold stored
     split
     . rw[be];omega
     . rw[zY];simp
   refine wpAny_pure ⟨plainId_quiet dD _,?_⟩
   have ei:(i:Int)+1=((i+1:Nat):Int):=by omega
   show codeAny (model prog w) A (.builtin "dict.update.loop" ⟨[.ref d,.ref z,rawInt ((i:Int)+1),.none],[]⟩) R _;rw[ei]
   refine ih (i+1) _ (by omega) hlt (a1.keep hdz sb hde) (up _ _ (Ne.symm hdTI) (a6 _ _ D.TIz D.TITO D.TIi1 D.TIi2 hTI)) ?_ (a3.at fun o e=>up _ o (Ne.symm hd1) e) (a4.at fun o e=>up _ o (Ne.symm hd2) e) (hl1.at fun o e=>up _ o (Ne.symm hdl1) (a6 _ o D.l1z D.l1TO D.l1i1 D.l1i2 e))
     (hl2.at fun o e=>up _ o (Ne.symm hdl2) (a6 _ o D.l2z D.l2TO D.l2i1 D.l2i2 e)) ⟨_,by omega,hdd2,?_⟩ fun h3 tk kk hd3=>?_
   . obtain⟨a,b,e⟩:=a2;exact⟨a,b,up _ _ (Ne.symm hdTO) e⟩
   . rw[es,ekv];unfold merged;rw[Ct];rfl
   . exact hR h3 tk (fun c o c0 c1 c2 c3 c4 e=>kk c o c0 c1 c2 c3 c4 (up _ _ c0 (a6 c o c1 c2 c3 c4 e))) hd3
theorem uZ {A:Around}{E:Value→Shared→Prop}{s:Shared}{Q:Value→Shared→Prop}{z TI TO i1 i2 l1 l2:Addr}{xs ys:Array Value}{ks:List κ}(hh:A.handled=none)(D:ZipApart z TI TO i1 i2 l1 l2)(hz:IsZip s.heap z TI TO .none)
   (hTI:IsPair s.heap TI (.ref i1) (.ref i2))(hTO:∃ a b,IsPair s.heap TO a b)(h1:s.heap.IsListIter i1 l1 0)(h2:s.heap.IsListIter i2 l2 0)(hl1:s.heap.IsList l1 xs)(hl2:s.heap.IsList l2 ys)
   (hks:∀ (i:Nat) x,xs[i]?=some x→∃ k,ks[i]?=some k∧knd.is k x=true)(hxy:xs.size=ys.size)(hkl:ks.length=xs.size)(hsz:xs.size≤1000)
   (h:∀ h' tk,(∀ c o,c≠z→c≠TO→c≠i1→c≠i2→s.heap.get? c=some o→h'.get? c=some o)→h'.DictOf knd s.heap.objs.size (merged [] (ks.zip ys.toList))→Q (.ref s.heap.objs.size) { s with heap:=h',toks:=tk }) :
   wpAny (model prog w) A (call (.type "dict") [.ref z]) Q E s:=by
 refine callType_codes (Q₁:=fun obj s₁=>obj=.ref s.heap.objs.size∧s₁={ s with heap:=s.heap.push { cls:=.type "dict",data:=.dict #[] } }) F.kt_called_dict (F.kt_typeCall_dict_1 _) F.entry_dict_init (kt_code_dict_new _ ⟨rfl,rfl⟩) ?_;rintro obj s1 ⟨rfl,rfl⟩;have hnew:(s.heap.push { cls:=.type "dict",data:=.dict #[] }).DictOf knd s.heap.objs.size []:=Heap.DictOf.new s.heap;have up:∀ b o,s.heap.get? b=some o→(s.heap.push { cls:=.type "dict",data:=.dict #[] }).get? b=some o:=fun b o e=>Heap.get?_push_of_some _ e;have lt:∀ {b o},s.heap.get? b=some o→s.heap.objs.size≠b:=fun e=>BX (Heap.lt_size e);refine⟨hnew.typeIs,F.args_dict_init_2 _ _,?_⟩;unfold Builtin.«dict.__init__»;refine wpAny_bind ?_;unfold Builtin.Dict.selfAndRest;refine wpAny_bind (wpAny_notOrdered_dict hnew.typeIs (show wpAny _ _ (pure (s.heap.objs.size,[Value.ref z])) _ _ _ from wpAny_pure ?_));show wpAny _ _ (Builtin.Dict.updateFrom "dict.__init__" s.heap.objs.size (.ref z) [] .none) _ _ _;unfold Builtin.Dict.updateFrom;refine wpAny_bind (wpAny_typeOf (T:="zip") ⟨_,up _ _ hz,rfl⟩ ?_);rw[if_pos (by decide)];refine wpAny_bind (qU (by simpa using hh) (up _ _ hz) fun h' tk kk=>?_);have kz:IsZip h' z TI TO .none:=kk _ _ (up _ _ hz);rw[if_pos (by rfl)];refine wpAny_bind (wpAny_rule (wpAny_bind (wpAny_pyIter_zip kz (wpAny_pure ⟨plainId_quiet dD _,?_⟩))));obtain⟨a,b,hTO⟩:=hTO;have e1:=h1;have e2:=h2;have e3:=hl1;have e4:=hl2;obtain⟨o1,ho1,_⟩:=e1;obtain⟨o2,ho2,_⟩:=e2;obtain⟨o3,ho3,_⟩:=e3;obtain⟨o4,ho4,_⟩:=e4
 refine wJ (A:=A.in1) (knd:=knd) (ks:=ks) (by simpa using hh) D (lt hz) (lt hTI) (lt hTO) (lt ho1) (lt ho2) (lt ho3) (lt ho4) hks hxy hkl hsz (xs.size - 0) 0 _ (by omega) (AN _) (.inl kz) (kk _ _ (up _ _ hTI)) ⟨a,b,kk _ _ (up _ _ hTO)⟩
   (h1.at fun o e=>kk _ o (up _ o e)) (h2.at fun o e=>kk _ o (up _ o e)) (hl1.at fun o e=>kk _ o (up _ o e)) (hl2.at fun o e=>kk _ o (up _ o e)) ⟨[],z7 _,?_,rfl⟩ fun h3 tk3 k3 hd3=>?_
 . obtain⟨o,es,ep,ho,cO⟩:=hnew;exact⟨o,es,ep,kk _ _ ho,cO⟩
 . exact⟨rfl,h h3 tk3 (fun c o c1 c2 c3 c4 e=>k3 c o (Ne.symm (lt e)) c1 c2 c3 c4 (kk _ _ (up _ _ e))) hd3⟩
end
def yb (P:Program)(w:World)(p:Addr) (n:Nat):HO:=.ext fun h=>∃ S,h.SetOf (strKind P w) p S n
theorem SetOf.at_ {P:Program}{w:World}{h1 h2:Heap}{p:Addr}{n:Nat}(x:∃ S,h1.SetOf (strKind P w) p S n)(k:∀ o,h1.get? p=some o→h2.get? p=some o):∃ S,h2.SetOf (strKind P w) p S n:=by
 obtain⟨S,o,es,ep,t,ho,r⟩:=x;exact⟨S,o,es,ep,t,k _ ho,r⟩
section
variable {X:Cx}
theorem nH (hc:X.calm=true):cw X (.type "set") (fun xs H Q=>∃ (a:Addr)(ss:List Str),xs=[.ref a]∧SqL X.K H a (ss.map V.str)∧ss.length≤1000∧∀ p,H p=none→Q (.ref p) (upd H p (yb X.prog X.w p (dP ss).length))):=by
 intro pins s σ H xs us Q I r h;obtain⟨a,ss,rfl,ha,hn,q⟩:=h;obtain⟨u,rfl,ru⟩:=eA r;cases ru;obtain⟨its,rv,pl,_⟩:=I.list ha;have hl:=rv.length;rw[be] at hl;refine uI (I.ok.hd hc) pl.isList (by simpa using gL rv) (by rw[Ah];unfold scanBound;omega) fun h' tk kk hS=>?_
 have he:∃ o,h'.get? s.heap.objs.size=some o:=by obtain⟨o,_,_,_,e,_⟩:=hS;exact⟨o,e⟩
 exact⟨.ref s.heap.objs.size,_,I.laid (o:=yb X.prog X.w s.heap.objs.size (dP ss).length) kk (z7 _) ⟨⟨_,hS⟩,he,fun h1 h2 x k=>SetOf.at_ x k⟩,rfl,q _ (I.hok.fresh (z7 _))⟩
theorem lL:cw X (.builtin "len") (fun xs H Q=>∃ p n,xs=[V.ref p]∧H p=some (yb X.prog X.w p n)∧Q (.int (n:Nat)) H):=by
 intro pins s σ H xs us Q I r h;obtain⟨p,n,rfl,hp,q⟩:=h;obtain⟨u,rfl,ru⟩:=eA r;cases ru;obtain⟨⟨S,o,es,ep,t,ho,hex,hd,_,_,hb,hf,hn⟩,_⟩:=I.hok p _ hp
 have hfit:(es.size:Int) < 2 ^ 63:=by
   unfold scanBound at hb;omega
 refine call_len_set ho hex hd hf hfit ?_;rw[hn];exact⟨.int n,H,I.tok _,⟨_,rfl⟩,q⟩
def bX (ks:List Str)(vs:List V):List (Key×V):=(ks.map fun k=>(Sum.inr k:Key)).zip vs
theorem wj:∀ {ks:List Key}{vs:List V}{us:List Value},Vals vs us→KV (ks.zip vs) (ks.zip us)
 | [],_,_,_=>by simp;exact .nil
 | _::_,_,_,.nil=>by simp;exact .nil
 | k::ks,_,_,.cons r t=>by
   rw[Bg,Bg];exact .cons ⟨rfl,r⟩ (wj t)
def jE (K:PySem.W.Frag)(ta:TA):TE:=fun σ H Q=>ta σ H fun xs H1=>∃ (l1 l2:Addr)(ks:List Str)(vs:List V),xs=[.ref l1,.ref l2]∧SqL K H1 l1 (ks.map V.str)∧SqL K H1 l2 vs∧ks.length=vs.length∧ks.length≤1000 ∧
 ∀ p,H1 p=none→Q (.ref p) (upd H1 p (.dK (cP [] (bX ks vs))))
theorem km {a b:Expr}{ta:TA}{p pos p' pos':Pos}(hc:X.calm=true)(hgd:Gl X "dict")(hmd:X.mg "dict"=none)(hgz:Gl X "zip")(hmz:X.mg "zip"=none)(ha:PA X [a,b] ta)
   (hs:starEach [a,b] X.env=(false,eval a X.env)::starEach [b] X.env:=by rfl)(hpl:(backTo pos' (starEach [b] X.env)).any (·.1)=false:=by rfl)
   (hs2:starEach [.Call (.Name "zip" p') [a,b] [] pos'] X.env=(false,eval (.Call (.Name "zip" p') [a,b] [] pos') X.env)::starEach [] X.env:=by rfl) :
   PE X (.Call (.Name "dict" p) [.Call (.Name "zip" p') [a,b] [] pos'] [] pos) (jE X.K ta):=by
 intro pins s σ H Q I h;refine wpAny_Call_Name_kw (iH I hgd hmd (u:=.type "dict") (by decide) ?_);refine Bo ?_ hs2 rfl;rw[hs2];show wpAny _ _ (spliced ((false,eval (.Call (.Name "zip" p') [a,b] [] pos') X.env)::backTo pos [])) _ _ s;refine Calls.spliced_cons ?_;refine wpAny_Call_Name_kw (iH I hgz hmz (u:=.type "zip") (by decide) ?_);refine Bo (thn (ha pos' s σ H _ I h) fun us s1 ⟨xs,H1,I1,r1,q1⟩=>?_) hs hpl;obtain⟨l1,l2,ks,vs,rfl,h1,h2,hkv,hk,q⟩:=q1;obtain⟨u1,u2,rfl,e1,e2⟩:=r1.two;cases e1;cases e2;obtain⟨i1,v1,p1,z1⟩:=I1.list h1;obtain⟨i2,v2,p2,z2⟩:=I1.list h2;have n1:=v1.length;have n2:=v2.length;rw[be] at n1
 have lt1:l1 < s1.heap.objs.size:=by obtain⟨_,_,e,_⟩:=p1;exact Heap.lt_size e
 have lt2:l2 < s1.heap.objs.size:=by obtain⟨_,_,e,_⟩:=p2;exact Heap.lt_size e
 refine call_zip_2 p1.isList p2.isList fun h' a1 a2 a3 a4 a5 a6 kk=>?_;refine Calls.spliced_nil ?_;have I2:Inv X pins σ H1 { s1 with heap:=h' }:=I1.kept (t':=s1.toks) kk;have hfr:H1 h'.objs.size=none:=I2.hok.fresh (z7 _);refine uZ (s:={ s1 with heap:=h' }) (knd:=bJ X.prog X.w) (ks:=ks.map fun k=>(Sum.inr k:Key)) (I1.ok.hd hc) (zipApart_new lt1 lt2) a1 a2 ⟨_,_,a3⟩ a4 a5 (p1.isList.at fun o e=>kk _ o e) (p2.isList.at fun o e=>kk _ o e) ?_ (by simp;omega) (by simp;omega) (by simp;omega) fun h3 tk k3 hd3=>?_
 . intro i x hx
   have hx':i1[i]?=some x:=by simpa using hx
   have hi:i < ks.length:=by rw[n1];exact(List.getElem?_eq_some_iff.mp hx').1
   obtain⟨u,hu,ru⟩:=v1.get (i:=i) (x:=V.str ks[i]) (by rw[zX,zW hi];rfl);rw[hx'] at hu;cases hu;obtain⟨t,rfl⟩:=ru;exact⟨Sum.inr ks[i],by rw[zX,zW hi];rfl,i9 _ _ _ _⟩
 . have he:∃ o,h3.get? h'.objs.size=some o:=by obtain⟨o,_,_,e,_⟩:=hd3;exact⟨o,e⟩
   have big:sysModules < h'.objs.size:=I2.big;have rel:KV (cP [] (bX ks vs)) (merged [] ((ks.map fun k=>(Sum.inr k:Key)).zip i2.toArray.toList)):=KV.merge (wj (by simpa using v2)) .nil
   have hz:(cP [] (bX ks vs)).length≤sizeLine:=by
     have:=eK (bX ks vs) []
     have l:(bX ks vs).length≤ks.length:=by unfold bX;rw[BF,be];exact Nat.min_le_left _ _
     rw[Cb] at this;rw[sizeLine_eq];omega
   have kall:∀ b o,s1.heap.get? b=some o→h3.get? b=some o:=fun b o e=>by
     have hlt:=Heap.lt_size e;exact k3 b o (Ak (Am hlt (Cz _ _))) (Ak (Am hlt (Cz _ _))) (Ak hlt) (Ak (Am hlt (Cz _ _))) (kk b o e)
   have hsz:s1.heap.objs.size≤h'.objs.size:=by rw[a6];omega
   have I3:=I1.laid (a:=h'.objs.size) (o:=.dK (cP [] (bX ks vs))) (h':=h3) (t':=tk) kall hsz (mH hz (beq_eq_false_iff_ne.mpr (Ne.symm (Ak big))) rel hd3);exact⟨.ref h'.objs.size,_,I3,rfl,q _ hfr⟩
end
def leS (a b:Str):Prop:=ltCps b.cps.toList a.cps.toList=false
theorem sj {a b:Str}:leS a b↔¬b.cps.toList < a.cps.toList:=by unfold leS;rw[ltCps_eq];simp
theorem uU {a b:Str}(h1:leS a b)(h2:leS b a):a=b:=by
 rw[sj] at h1 h2
 have e:a.cps.toList=b.cps.toList:=by
   have h1':a.cps.toList≤b.cps.toList:=h1;have h2':b.cps.toList≤a.cps.toList:=h2;exact List.le_antisymm h1' h2'
 have e2:a.cps=b.cps:=Array.toList_inj.mp e;cases a;cases b;simp only at e2;rw[e2]
theorem tD {a b c:Str}(h1:leS a b)(h2:leS b c):leS a c:=by
 rw[sj] at h1 h2 ⊢;have h1':a.cps.toList≤b.cps.toList:=h1;have h2':b.cps.toList≤c.cps.toList:=h2;exact List.le_trans h1' h2'
theorem hJ:∀ (p:Str)(l:List Str),risingS p l=true→(p::l).Pairwise leS
 | p,[],_=>BB _ _
 | p,x::r,h=>by
   have h':(!ltCps x.cps.toList p.cps.toList&&risingS x r)=true:=h;rw[Bool.and_eq_true] at h';have ih:=hJ x r h'.2
   have hpx:leS p x:=by unfold leS;simpa using h'.1
   refine List.pairwise_cons.mpr ⟨fun y hy=>?_,ih⟩
   rcases List.mem_cons.mp hy with e | hy
   . subst e;exact hpx
   . exact tD hpx ((List.pairwise_cons.mp ih).1 y hy)
theorem gS:∀ (l:List Str),sortedS l=true→l.Pairwise leS
 | [],_=>List.Pairwise.nil
 | x::r,h=>hJ x r h
theorem cy {a b:List Str}(ha:sortedS a=true)(hb:sortedS b=true)(h:a.Perm b):a=b :=
 List.Perm.eq_of_pairwise (fun x y _ _ h1 h2=>uU h1 h2) (gS a ha) (gS b hb) h
theorem je:∀ {l:List Value}{ks:List Str},l.length=ks.length→(∀ (i:Nat) v,l[i]?=some v→∃ x t,ks[i]?=some x∧v=.str x t)→StrsAre l ks
 | [],[],_,_=>.nil
 | [],_::_,h,_=>by simp at h
 | _::_,[],h,_=>by simp at h
 | v::l,k::ks,h,hv=>by
   obtain⟨x,t,hx,e⟩:=hv 0 v rfl;simp at hx;subst hx e;exact .cons _ t (je (by simpa using h) fun i u hu=>by simpa using hv (i+1) u (by simpa using hu))
section
variable {X:Cx}
theorem dR:cw X (.builtin "sorted") (fun xs H Q=>∃ (a:Addr)(ss:List Str),xs=[.ref a]∧SqL X.K H a (ss.map V.str)∧ss.length < 64∧∀ p ss',H p=none→ss'.Perm ss→sortedS ss'=true→Q (.ref p) (upd H p (.lst (ss'.map V.str)))):=by
 intro pins s σ H xs us Q I r h;obtain⟨a,ss,rfl,ha,hn,q⟩:=h;obtain⟨u,rfl,ru⟩:=eA r;cases ru;obtain⟨its,rv,pl,_⟩:=I.list ha;have hl:=rv.length;rw[be] at hl;refine sorted_strs pl.isList (gL rv) (by omega) fun out ss' a1 a2 a3=>?_;obtain⟨e,he⟩:=sortedAll_at s.heap its out;have hp:=a2.length_eq;refine⟨.ref (s.heap.objs.size+1),_,I.laid (o:=.lst (ss'.map V.str)) (t':=s.toks) (fun b o x=>sortedAll_old x) (CJ _) ⟨by rw[be,sizeLine_eq];omega,out.toList,e,iA a1,he⟩,rfl,q _ ss' (I.hok.fresh (CJ _)) a2 a3⟩
theorem dU (hc:X.calm=true):cw X (.builtin "sorted") (fun xs H Q=>∃ (d:Addr)(ks:List Str)(kvs:List (Key×V)),xs=[.ref d]∧Rd H d (.dK kvs)∧kvs.map (·.1)=ks.map Sum.inr∧ks.length < 64∧∀ p ss',H p=none→ss'.Perm ks→sortedS ss'=true→Q (.ref p) (upd H p (.lst (ss'.map V.str)))):=by
 intro pins s σ H xs us Q I r h;obtain⟨d,ks,kvs,rfl,hd,hk,hn,q⟩:=h;obtain⟨u,rfl,ru⟩:=eA r;cases ru;obtain⟨z,lo,vs,rel,dd⟩:=i7 I.hok hd;obtain⟨ep,hat⟩:=dd.dictAt
 have hlv:vs.length=ks.length:=by
   have:=congrArg Cr hk;rw[be,be] at this;rw[←rel.length];exact this
 refine Calls.call_function_entry kind_sorted plain_sorted entry_sorted (args_sorted1 _) ?_;unfold Builtin.«sorted»;refine wpAny_bind (m:=checkCount "sorted" 1 1 _) (wpAny_pure ?_);refine wpAny_bind (PySem.W.kdu_collect (A:=X.A.in1) (PySem.W.kdl_dict (knd:=bJ X.prog X.w) (kvs:=vs) (ep:=ep) lo) (I.ok.hd hc) hat (by rw[hlv,sizeLine_eq];omega) fun h' tk acc kk hacc=>?_)
 have hal:acc.toList.length=ks.length:=by rw[AI,hacc.1,hlv]
 have hst:StrsAre acc.toList ks:=by
   refine je hal fun i v hv=>?_;obtain⟨k,x,hx,his⟩:=hacc.2 i v (by rw[←Be];exact hv)
   have e1:(vs.map (·.1))[i]?=some k:=by rw[zX,hx];rfl
   rw[←rel.keys,hk,zX] at e1;obtain⟨y,hy,e2⟩:=Option.map_eq_some_iff.mp e1;subst e2
   rcases bF (show i8 (Sum.inr y) v=true from his) with ⟨i',t,e,_⟩ | ⟨y',t,e,e'⟩
   . cases e
   . cases e;exact⟨y,t,hy,e'⟩
 refine wpAny_bind (wpAny_newList ?_ (by rw[hal,sizeLine_eq];omega));have hoL:(h'.push (seqObj "list" acc.toList.toArray 0)).get? h'.objs.size=some (seqObj "list" acc.toList.toArray 0):=Heap.get?_push_size _ rfl;refine wpAny_bind (wpAny_holding (wpAny_call_entry slot_list_sort ⟨_,hoL,rfl⟩ entry_list_sort (list_sort_treeK strKind_oneLt hoL hst.keysOf (fun v1 v2 cO e=>keyKind_strs (by rw[←e];exact hst)) (by omega) fun st' a1 a2=>⟨_,rfl,?_⟩) (args_list_sort _)));obtain⟨ss',b1,b2,b3⟩:=sorted_out_str hst a1 a2;have hp:=b2.length_eq;have I1:Inv X pins σ H { s with heap:=h',toks:=tk }:=I.kept kk;obtain⟨e,he⟩:=sortedHeap_at (out:=(arrOf st').map (·.2)) hoL;refine wpAny_pure ⟨_,rfl,?_⟩;refine⟨.ref h'.objs.size,_,I1.laid (o:=.lst (ss'.map V.str)) (t':=tk) (fun b o x=>?_) (z7 _) ⟨by rw[be,sizeLine_eq];omega,_,e,iA b1,he⟩,rfl,q _ ss' (I1.hok.fresh (z7 _)) b2 b3⟩;have hlt:=Heap.lt_size x;rw[sortedHeap_old (Ak hlt) (by rw[Heap.size_push];exact Bh hlt)];exact Heap.get?_push_of_some _ x
def Itd (d:Addr)(o:Obj)(kvs:List (Key×V)):It:=⟨fun i H=>H d=some (.frz o (.dK kvs))∧i < kvs.length,fun i H x H'=>H'=H∧∃ k v,kvs[i]?=some (k,v)∧x=kV k,fun i H=>H d=some (.frz o (.dK kvs))∧i=kvs.length⟩
theorem jA {X:Cx}{pins:List (Addr×Obj)}{σ:St}{H:Hp}{s:Shared}{d:Addr}{o:Obj}{kvs:List (Key×V)}(I:Inv X pins σ H s)(h:H d=some (.frz o (.dK kvs))) :
   ∃ vs ep,(∃ es,o.data=.dict es ep)∧s.heap.DictAt (bJ X.prog X.w) d vs ep∧KV kvs vs∧(d==sysModules)=false:=by
 obtain⟨e,z,lo,vs,rel,o',es,ep,ho,r1,r2,r3⟩:=(show bR X.prog X.w H s.heap d (.frz o (.dK kvs)) from I.hok d _ h);rw[e] at ho;cases ho;exact⟨vs,ep,⟨es,r2⟩,⟨o,es,e,r1,r2,r3⟩,rel,lo⟩
theorem yk {k:Key}{v:Value}(h:i8 k v=true):bd (kV k) v:=by
 rcases bF h with ⟨i,t,rfl,rfl⟩ | ⟨x,t,rfl,rfl⟩
 . exact⟨t,rfl⟩
 . exact⟨t,rfl⟩
theorem tq {P:Program}{w:World}{K:PySem.W.Frag}{tg:Expr}(d it:Addr)(o:Obj)(kvs:List (Key×V)) (ep:Nat)(hep:∃ es,o.data=.dict es ep)(hne:d≠it):oj P w K tg (Itd d o kvs) [it] it (fun i h=>h.IsKeyIter it d i kvs.length ep) where
 mem:=by simp
 obj:=fun i h st b hb=>by
   have e:b=it:=by simpa using hb
   subst e;obtain⟨o,e,c,dd⟩:=st;exact⟨o,e,fun v z=>by rw[dd] at z;cases z⟩
 keep:=fun i h h' st k=>st.at fun o e=>k it (by simp) o e
 item:=by
   intro X hP hw hK hc i pins s σ H E I hf st hg;subst hP hw hK;obtain⟨hd,hi⟩:=hg;obtain⟨f0,f1,f2,f3,f4,f5⟩:=hf it (by simp);obtain⟨vs,ep',⟨es',h1⟩,hat,rel,lo⟩:=jA I hd;obtain⟨es,h2⟩:=hep;rw[h1] at h2;cases h2;have hl:=rel.length
   have st':s.heap.IsKeyIter it d i vs.length ep:=by rw[←hl];exact st
   refine(Walks.dictKeys (knd:=bJ X.prog X.w) (I.ok.hd hc) it d hne vs ep).item i s _ _ (by omega) ⟨st',hat⟩ fun v h' tk hv st2 kk=>?_;have I1:Inv X pins σ H { s with heap:=h',toks:=tk }:=I.turned (fun b o hb e=>kk b o (by simpa using hb) e) f0 f1 f3 f4 f5;obtain⟨k,x,hx,his⟩:=hv;obtain⟨oi,ei,ci,di⟩:=id st2.1
   have ek:∃ v0,kvs[i]?=some (k,v0):=by
     have e1:(vs.map (·.1))[i]?=some k:=by rw[zX,hx];rfl
     rw[←rel.keys,zX] at e1;obtain⟨p,hp,e2⟩:=Option.map_eq_some_iff.mp e1;exact⟨p.2,by rw[hp,←e2]⟩
   obtain⟨v0,hv0⟩:=ek;refine⟨_,rfl,oW (s:={ s with heap:=h',toks:=tk }) ei ci di (by decide) ⟨kV k,H,I1,yk his,⟨rfl,k,v0,hv0,rfl⟩,?_,fun b hb=>(hf b hb).1⟩⟩;rw[hl];exact st2.1
 done:=by
   intro X hP hw hK hc i pins s σ H E I hf st hg;subst hP hw hK;obtain⟨hd,rfl⟩:=hg;obtain⟨f0,f1,f2,f3,f4,f5⟩:=hf it (by simp);obtain⟨vs,ep',⟨es',h1⟩,hat,rel,lo⟩:=jA I hd;obtain⟨es,h2⟩:=hep;rw[h1] at h2;cases h2;have hl:=rel.length
   have st':s.heap.IsKeyIter it d vs.length vs.length ep:=by rw[←hl];exact st
   exact(Walks.dictKeys (knd:=bJ X.prog X.w) (I.ok.hd hc) it d hne vs ep).done s _ _ ⟨st',hat⟩ fun h' tk kk=>⟨rfl,I.turned (fun b o hb e=>kk b o (by simpa using hb) e) f0 f1 f3 f4 f5⟩
 self:=fun _ _ _ _ _ st h=>wpAny_pyIter_keyiter st h
theorem Inv.freeze {pins:List (Addr×Obj)}{σ:St}{H:Hp}{s:Shared}{d:Addr}{kvs:List (Key×V)}(I:Inv X pins σ H s)(h:H d=some (.dK kvs)):∃ o,s.heap.get? d=some o∧Inv X pins σ (upd H d (.frz o (.dK kvs))) s:=by
 obtain⟨z,lo,vs,rel,o,es,ep,ho,r⟩:=(show bR X.prog X.w H s.heap d (.dK kvs) from I.hok d _ h);refine⟨o,ho,?_⟩;have:=I.write (x:=d) (e:=d) (o:=.frz o (.dK kvs)) (h':=s.heap) (t':=s.toks) (by rw[h];exact True.intro) (.inl rfl) (fun b u _ e=>e) ⟨o,ho⟩ ⟨ho,z,lo,vs,rel,o,es,ep,ho,r⟩;exact this
def wc (td:TE):TI:=fun σ H R=>td σ H fun x H1=>∃ d kvs,x=.ref d∧((H1 d=some (.dK kvs)∧∀ o,R (Itd d o kvs) (upd H1 d (.frz o (.dK kvs))))∨∃ o,H1 d=some (.frz o (.dK kvs))∧R (Itd d o kvs) H1)
theorem mQ {tg l:Expr}{tl:TE}(hl:PE X l tl):PI X tg l (wc tl):=by
 intro pins s σ H R I h;refine thn (hl s σ H _ I h) fun v s1 ⟨x,H1,I1,r1,d,kvs,e,q1⟩=>?_;subst e;cases r1
 have main:∀ (H2:Hp)(o:Obj),Inv X pins σ H2 s1→H2 d=some (.frz o (.dK kvs))→R (Itd d o kvs) H2→wpAny (model X.prog X.w) X.A (pyIter (.ref d)) (PIE X pins σ tg R) X.xe s1:=fun H2 o I2 hd q=>by
   obtain⟨vs,ep,hep,hat,rel,lo⟩:=jA I2 hd;refine wpAny_pyIter_dict lo hat ?_;have hlt:d < s1.heap.objs.size:=I2.hok.lt hd;have hl:=rel.length;refine⟨s1.heap.objs.size,[s1.heap.objs.size],_,_,H2,rfl,I2.kept (t':=s1.toks) fun b o e=>Heap.get?_push_of_some _ e,tq d _ o kvs ep hep (Ak hlt),⟨_,Heap.get?_push_size _ rfl,rfl,by rw[←hl];rfl⟩,fun b hb=>?_,q⟩
   have e:b=s1.heap.objs.size:=by simpa using hb
   subst e;exact I2.fpOk (z7 _) (I2.hok.fresh (z7 _))
 rcases q1 with ⟨hd,q⟩ | ⟨o,hd,q⟩
 . obtain⟨o,ho,I2⟩:=I1.freeze hd;exact main _ o I2 ac (q o)
 . exact main _ o I1 hd q
theorem fM {H1:Hp}{d:Addr}{o:Obj}{kvs:List (Key×V)}(h:H1 d=some (.frz o (.dK kvs))):d6 (Itd d o kvs) H1 kvs.length (fun i x=>∃ k v,kvs[i]?=some (k,v)∧x=kV k) :=
 ⟨fun i H' hi s=>⟨s _ _ h,hi⟩,fun i H' x H2 hi s y=>y,fun H' s=>⟨s _ _ h,rfl⟩⟩
end
section
variable {X:Cx}
def xU:V→Option Int→Option Int→Hp→VK→Prop:=fun x lo hi H Q=>∃ z,x=.str z∧z.length≤sizeLine∧Q (.str (Txt.slice z lo hi)) H
theorem yl:SlR X xU:=by
 intro pins s σ H x v vl vu lo hi sl Q I rx hs pl pu h;obtain⟨z,rfl,hz,q⟩:=h;obtain⟨t,rfl⟩:=rx;refine⟨"str",_,slot_str_getitem.lookup,typeIs_str s z t,?_⟩
 obtain⟨l,hl1,hl2⟩:∃ l:Option (Int×Tok),vl=partValue l∧l.map (·.1)=lo:=by
   cases pl with
   | none=>exact⟨none,rfl,rfl⟩
   | int i t=>exact⟨some (i,t),rfl,rfl⟩
 obtain⟨u,hu1,hu2⟩:∃ u:Option (Int×Tok),vu=partValue u∧u.map (·.1)=hi:=by
   cases pu with
   | none=>exact⟨none,rfl,rfl⟩
   | int i t=>exact⟨some (i,t),rfl,rfl⟩
 subst hl1 hu1 hl2 hu2;refine wpAny_getItem_str_slice (l:=l) (u:=u) (st:=none) hs rfl ?_;have key:∀ P:Prop,True:=fun _=>trivial;unfold sliceMade
 have e:Txt.slice z (l.map (·.1)) (u.map (·.1))=if(((none:Option (Int×Tok)).map (·.1)).getD 1==1&&(slicePicked z l u none).length==z.length)=true then z else⟨((slicePicked z l u none).filterMap (z.cps[·]?)).toArray⟩:=rfl
 by_cases hc:(((none:Option (Int×Tok)).map (·.1)).getD 1==1&&(slicePicked z l u none).length==z.length)=true
 . rw[if_pos hc] at e ⊢;rw[e] at q;exact⟨.str z,H,I,⟨t,rfl⟩,q⟩
 . rw[if_neg hc] at e ⊢;have hle:=Txt.slice_le z (l.map (·.1)) (u.map (·.1));rw[e] at q hle;exact⟨AO hle hz,⟨.str _,H,I.tok _,⟨_,rfl⟩,q⟩⟩
theorem vY (hc:X.calm=true):MtR X "str.index" (fun x vs H Q=>∃ z y,x=.str z∧vs=[.str y]∧0≤Txt.find z y∧Q (.int (Txt.find z y)) H):=by
 intro pins s σ H x xs v us Q I rx rs h;obtain⟨z,y,rfl,rfl,h0,q⟩:=h;obtain⟨t,rfl⟩:=rx;obtain⟨u,rfl,ru⟩:=rs.one;obtain⟨t',rfl⟩:=ru;refine index_or (I.ok.hd hc) (fun e _=>by omega) fun _ _=>⟨.int _,H,I.tok _,⟨_,rfl⟩,q⟩
end
theorem zr {X:Cx}{c0 c1 c2 c3 c4 c5 c6 c7:Str} {j0 j1 j2 j3 j4 j5 j6 j7}{p0 p1 p2 p3 p4 p5 p6 p7:Pos}:PA X [.Constant (.str c0) j0 p0,.Constant (.str c1) j1 p1,.Constant (.str c2) j2 p2,.Constant (.str c3) j3 p3,.Constant (.str c4) j4 p4,.Constant (.str c5) j5 p5,.Constant (.str c6) j6 p6,.Constant (.str c7) j7 p7] (fH (tC (.str c0)) (fH (tC (.str c1)) (fH (tC (.str c2)) (fH (tC (.str c3)) (fH (tC (.str c4)) (fH (tC (.str c5)) (fH (tC (.str c6)) (fH (tC (.str c7)) tS)))))))):=(aa ay (aa ay (aa ay (aa ay (aa ay (aa ay (aa ay (aa ay ae))))))))
theorem pF {X:Cx}:cw X (.type "dict") (fun xs H Q=>∃ a kvs,xs=[.ref a]∧Rd H a (.dK kvs)∧∀ p,H p=none→Q (.ref p) (upd H p (.dK kvs))):=by
 intro pins s σ H xs us Q I r h;obtain⟨a,kvs,rfl,e,q⟩:=h;obtain⟨u,rfl,r1⟩:=eA r;cases r1;exact vA I e fun p s' hp I'=>⟨.ref p,_,I',rfl,q p hp⟩
def CX1 (P:Program)(w:World):CXT:=fun outer H s E ev s'=>∃ (e:Addr) (cls a0:Value)(H':Hp)(B:Heap),ev=.ref e∧s'.os=s.os∧AllBare s'.gens∧Un (frs outer) [] H H' s.heap s'.heap∧HOk P w H' s'.heap∧Heap.FlyingW B outer e cls a0 s'.heap ∧
 (∀ b o,s.heap.get? b=some o→b∉frs outer→∃ o',B.get? b=some o'∧(H b=none→o'=o))∧(∀ b u,H' b=some u→∀ o,s'.heap.get? b=some o→B.get? b=some o)∧E cls none H'
theorem HOk.by {P:Program}{w:World}{H:Hp}{h h':Heap}(x:HOk P w H h)(k:∀ b u,H b=some u→∀ o,h.get? b=some o→h'.get? b=some o):HOk P w H h':=fun a o e =>
 (x a o e).stay (fun b u hb q=>by
   rcases hb with rfl | hb
   . exact k b o e u q
   . exact k b _ hb u q) (fun _ q=>q) fun _ _ q=>q
theorem HOk.has {P:Program}{w:World}{H:Hp}{h:Heap}(x:HOk P w H h){a:Addr}{o:HO}(e:H a=some o):∃ ob,h.get? a=some ob:=by
 have y:=x a o e;clear e
 induction o with
 | lst xs=>obtain⟨_,_,_,_,e⟩:=y;exact⟨_,e⟩
 | tup xs=>obtain⟨_,_,_,o,e,_⟩:=y;exact⟨_,e⟩
 | dK kvs=>obtain⟨_,_,_,_,o,_,_,e,_⟩:=y;exact⟨_,e⟩
 | dT kvs=>obtain⟨_,_,_,_,o,_,_,e,_⟩:=y;exact⟨_,e⟩
 | set S n=>obtain⟨o,_,_,_,e,_⟩:=y;exact⟨_,e⟩
 | ins C dx fs=>obtain⟨_,_,_,e,_⟩:=y;exact⟨_,e⟩
 | own z=>obtain⟨_,e⟩:=y;exact⟨_,e⟩
 | xd fs=>obtain⟨_,⟨_,_,_,e,_⟩,_⟩:=y;exact⟨_,e⟩
 | rng lo hi=>obtain⟨_,_,_,e⟩:=y;exact⟨_,e⟩
 | frz ob u ih=>obtain⟨e,_⟩:=y;exact⟨_,e⟩
 | tbl ps=>exact⟨_,y⟩
 | met f z=>exact⟨_,y⟩
 | ext φ=>obtain⟨_,⟨o,e⟩,_⟩:=y;exact⟨o,e⟩
section
variable {X:Cx}{pins:List (Addr×Obj)}{σ:St}{H:Hp}{s:Shared}{h' B:Heap}{e:Addr}{cls a0:Value}{E:XK}
theorem vp (I:Inv X pins σ H s)(hex:X.ex=[])(fl:Heap.FlyingW B X.outer e cls a0 h')(up:s.heap.UpToSlots h')
   (k1:∀ b o,X.s₀.heap.get? b=some o→b∉X.fs→∃ o',B.get? b=some o'∧(X.H₀ b=none→o'=o))(k2:∀ b u,H b=some u→∀ o,s.heap.get? b=some o→B.get? b=some o)(q:E cls none H) :
   CX1 X.prog X.w X.outer X.H₀ X.s₀ E (.ref e) { s with heap:=h' }:=by
 have nox:∀ b:Addr,b∉X.ex:=fun b=>by rw[hex];simp
 have k2':∀ b u,H b=some u→∀ o,s.heap.get? b=some o→h'.get? b=some o:=fun b u hb o ho=>fl.1 b o (k2 b u hb o ho);refine⟨e,cls,a0,H,B,rfl,I.os,I.bare,⟨fun b o ho hn hf _=>?_,fun b o ho hn hf _=>?_,fun b o ho hn _=>I.base.free b o ho hn (nox b),fun b o ho _=>?_,I.base.tups,I.base.frzs,I.base.tbls⟩,I.hok.by k2',fl,k1,fun b u hb o ho=>?_,q⟩
 . obtain⟨o',e1,e2⟩:=k1 b o ho hf;rw[e2 hn] at e1;exact fl.1 b o e1
 . obtain⟨sl,e1⟩:=I.base.slot b o ho hn hf (nox b);obtain⟨_,oo,e2,e3⟩:=I.ok.funs.mem hf;rw[ho] at e2;cases e2;obtain⟨sl2,e4⟩:=up b _ e1 e3;exact⟨sl2,e4⟩
 . by_cases hf:b∈X.fs
   . obtain⟨_,oo,e2,e3⟩:=I.ok.funs.mem hf;rw[ho] at e2;cases e2;have hn:=I.ok.frf b hf;obtain⟨sl,e1⟩:=I.base.slot b o ho hn hf (nox b);obtain⟨sl2,e4⟩:=up b _ e1 e3;exact⟨_,e4⟩
   . obtain⟨o',e1,_⟩:=k1 b o ho hf;exact⟨o',fl.1 b o' e1⟩
 . obtain⟨ob,hob⟩:=I.hok.has hb;have e1:=k2 b u hb ob hob;have e2:=fl.1 b ob e1;have ho':h'.get? b=some o:=ho;rw[e2] at ho';cases ho';exact e1
end
theorem bE {P:Program}{w:World}{K:PySem.W.Frag}{mg:Str→Option Value}{base:Heap}{N:List Str}{qual:Str}{scope:Scope}{f:Addr}{cd:Value}{A:Around}{outer:List Env}{s0:Shared}{H0:Hp}{E:XK} :
   dz (CX1 P w) (eV (CX1 P w) P w K mg base N qual scope f cd A outer s0 H0 E) E:=by
 rintro pins σ H s ev s' I ⟨e,cls,a0,H',B,rfl,hos,hba,hun,hok,hfl,k1,k2,q⟩;have I':=I.call' (s':=s') (ch:=[]) hos hun hok hba (fun b z=>absurd z (by simp));show wpAny (model P w) (A.deeper (envOfC qual scope s0.heap.objs.size f cd)) (leaving (envOfC qual scope s0.heap.objs.size f cd) (.ref e)) _ _ s';refine wpAny_leaves_onW (L:=s0.heap.objs.size) I.ok.frames rfl hfl fun h' fl up=>?_;refine vp I' rfl fl up (fun b o ho hf=>?_) k2 q;have hbl:b < s0.heap.objs.size:=Heap.lt_size ho;obtain⟨o1,ho1⟩:=I.base.there b o ho (by simp[eV])
 have hns:b∉frs (envOfC qual scope s0.heap.objs.size f cd::outer):=fun z=>by
   rcases List.mem_cons.mp (I.stkSub b z) with e1 | e1
   . have e2:b=s0.heap.objs.size:=e1;rw[e2] at hbl;exact absurd hbl (Bp _)
   . exact hf e1
 obtain⟨o',e1,e2⟩:=k1 b o1 ho1 hns;refine⟨o',e1,fun hn=>?_⟩;have hn':H b=none:=I.base.free b o ho hn (by simp[eV]);have:=I.base.keep b o ho hn hf (by simp[eV]);rw[ho1] at this;cases this;exact e2 hn'
theorem yK {P:Program}{w:World}{K:PySem.W.Frag}{mg:Str→Option Value}{base:Heap}{N:List Str}{qual:Str}{scope:Scope}{f:Addr}{cd:Value}{A:Around}{outer:List Env}{s0:Shared}{H0:Hp}{E:XK}
   {pins:List (Addr×Obj)}{σ:St}{H:Hp}{s:Shared}{h1:Heap}{e:Addr}{cls:Value}{args:List Value}(I:Inv (eV (CX1 P w) P w K mg base N qual scope f cd A outer s0 H0 E) pins σ H s)(hx:Heap.MadeExcOf s.heap h1 e cls args)(q:E cls none H) :
   (eV (CX1 P w) P w K mg base N qual scope f cd A outer s0 H0 E).xe (.ref e) { s with heap:=h1 }:=by
 have I':=I.kept (t':=s.toks) hx.keeps;have hfrs:=I.stack;show wpAny (model P w) (A.deeper (envOfC qual scope s0.heap.objs.size f cd)) (leaving (envOfC qual scope s0.heap.objs.size f cd) (.ref e)) _ _ { s with heap:=h1 };have hin:∀ env∈(envOfC qual scope s0.heap.objs.size f cd::outer),∀ b,env.frame=some b→b∈frs (envOfC qual scope s0.heap.objs.size f cd::outer):=fun env he b hb=>List.mem_filterMap.mpr ⟨env,he,hb⟩;refine wpAny_leaves_madeW (base:=PySem.W.hideAll s.heap (frs (envOfC qual scope s0.heap.objs.size f cd::outer))) (h:=s.heap) (L:=s0.heap.objs.size) I.ok.frames rfl (fun b o q=>PySem.W.of_hideAll _ q) (PySem.W.funFrames_hide hfrs hin) hx fun h' t fl _ _ up=>?_;refine vp I' rfl fl up (fun b o ho hf=>?_) (fun b u hb o ho=>?_) q
 . have hbl:b < s0.heap.objs.size:=Heap.lt_size ho;obtain⟨o1,ho1⟩:=I.base.there b o ho (by simp[eV])
   have hns:b∉frs (envOfC qual scope s0.heap.objs.size f cd::outer):=fun z=>by
     rcases List.mem_cons.mp (I.stkSub b z) with e1 | e1
     . have e2:b=s0.heap.objs.size:=e1;rw[e2] at hbl;exact absurd hbl (Bp _)
     . exact hf e1
   refine⟨o1,Ce _ ho1 hns,fun hn=>?_⟩;have:=I.base.keep b o ho hn hf (by simp[eV]);rw[ho1] at this;exact Option.some.inj this
 . obtain⟨ob,hob⟩:=I.hok.has hb;have e1:h1.get? b=some ob:=hx.keeps b ob hob;have e2:h1.get? b=some o:=ho;rw[e1] at e2;cases e2;refine Ce _ hob fun z=>?_;have:=I.stkFree b z;rw[hb] at this;cases this
section
variable {P:Program}{w:World}{K:PySem.W.Frag}{mg:Str→Option Value}{base:Heap}
theorem Fun.okX {x qual:Str}{st:Stmt}{f:Addr}{fd:FuncData}{N ps:List Str}{k:Nat}{sp:Sp}(F:Fun K x qual st f fd)(S:ax N ps (ao st))(len:∀ vs H Q E,sp vs H Q E→vs.length=ps.length)
   (hbody:∀ (cdv:Value)(A:Around)(outer:List Env)(s:Shared)(H:Hp)(vs:List V)(Q:VK)(E:XK),cL k (A.deeper (envOfC qual (ao st) s.heap.objs.size f cdv))→sp vs H Q E →
     ∃ t,PSs (eV (CX1 P w) P w K mg base N qual (ao st) f cdv A outer s H E) (dC st) t∧t { nx:=fun _ H'=>Q .non H',rt:=Q } (start N vs) H):aU P w K mg base (CX1 P w) (k+1) f fd ps sp:=by
 obtain⟨oc,od,kV,doc,pm,an,cdv,ct,osl,rfl,lk,hcd⟩:=F.ex;exact xA lk hcd S len fun A outer s H vs Q E hr hsp=>hbody cdv A outer s H vs Q E hr hsp
end
theorem wB {K:PySem.W.Frag}{h:Heap}{C:Addr}{bmB:List Value}{newId:String}(X:K.In h)(q:CN K C bmB newId=true) :
   ∃ bm N nm qn bs hdct sn sub ab col dd k0 k1 k2 k3 k5 mN,h.get? C=some (excClassObj nm qn C N bs bm hdct sn sub ab col dd k0 k1 k2 k3 k5 newId)∧h.Ns N mN∧mN "__init__"=none∧OwnTail h bmB bm:=by
 simp only[CN] at q
 split at q
 case h_2=>cases q
 case h_1 c0 sl0 lk0 =>
   split at q
   case h_2=>cases q
   case h_1 Cc tl z0 z1 z2 z3 nn z5 hmro hslo =>
     rename_i dd0;rw[Bool.and_eq_true,Bool.and_eq_true,Bool.and_eq_true,Bool.and_eq_true,Bool.and_eq_true] at q;obtain⟨⟨⟨⟨⟨q1,q2⟩,q3⟩,q4⟩,q5⟩,q6⟩:=q;obtain rfl:=beq_iff_eq.mp q1;obtain rfl:=beq_iff_eq.mp q2
     have q3':c0.hasDel=false:=by simpa using q3
     have q6':=beq_iff_eq.mp q6;obtain⟨c1,c2,c3,c4,c5,c6,c7,c8,c9,c10,c11⟩:=c0;dsimp only at hmro q3' q5 q6';subst hmro;subst q3'
     have hsl:sl0=#[z0,z1,z2,z3,some (.builtin nn),z5]:=by
       cases sl0;simp only at hslo;rw[hslo]
     subst hsl;exact⟨tl,_,_,_,_,_,_,_,_,_,_,_,_,_,_,_,_,X _ _ lk0,.of_isNs (PySem.W.isNs_of_in X q5),PySem.W.nsMap_none_of_in X q5 q6',PySem.W.tail_of_in X q4⟩
def qT (C:Addr)(E:XK)(ta:TA):TS:=fun D σ H=>ta σ H fun vs H1=>vs.length≤1000∧E (.ref C) none H1
def zh (X:Cx)(E:XK):Prop:=∀ (pins:List (Addr×Obj)) (σ:St)(H:Hp)(s:Shared)(h1:Heap)(e:Addr) (cls:Value)(args:List Value),Inv X pins σ H s→Heap.MadeExcOf s.heap h1 e cls args→E cls none H→X.xe (.ref e) { s with heap:=h1 }
theorem dh {P:Program}{w:World}{K:PySem.W.Frag}{mg:Str→Option Value}{base:Heap}{N:List Str}{qual:Str}{scope:Scope}{f:Addr}{cd:Value}{A:Around}{outer:List Env}{s0:Shared}{H0:Hp}{E:XK} :
 zh (eV (CX1 P w) P w K mg base N qual scope f cd A outer s0 H0 E) E:=fun pins σ H s h1 e cls args I hx q=>yK I hx q
theorem bC {X:Cx}{x:Str}{C:Addr}{a1:Expr}{ta:TA}{E:XK}{bmB:List Value}{B newId initId:String}{np cpos pos:Pos}(hc:X.calm=true)(hg:Gl X x)(hm:X.mg x=some (.ref C))(he:CN X.K C bmB newId=true)(FB:ExcBaseFacts B newId initId bmB)
   (ha:PA X [a1] ta)(hR:zh X E)(hs:starEach [a1] X.env=[(false,eval a1 X.env)]:=by rfl)(hd:(x==("__debug__":Str))=false:=by decide) :
   PS X (.Raise (some (.Call (.Name x np) [a1] [] cpos)) none pos) (qT C E ta):=by
 intro pins s σ H D I h;obtain⟨tl,N,nm,q,bs,hdct,sn,sub,ab,col,dd,k0,k1,k2,k3,k5,mN,hC,hN,hni,T⟩:=wB I.mod.kin he;refine wpAny_Raise_call_subT (C:=C) (nm:=nm) (q:=q) (N:=N) (bs:=bs) (bm:=tl) (hdct:=hdct) (sn:=sn) (sub:=sub) (ab:=ab) (col:=col) (dd:=dd) (k0:=k0) (k1:=k1) (k2:=k2) (k3:=k3) (k5:=k5) FB (mN:=mN) (T.hasType FB.hasBase) (I.ok.hd hc) (by rw[hs];rfl) hni (g0 I hg hm ⟨rfl,?_⟩ hd);have h2:=ha cpos s σ H _ I h;rw[hs] at h2 ⊢;refine Calls.evalArgs_plain (wpAny_mono h2 (fun us s2 h3=>?_) fun _ _ y=>y);obtain⟨vs,H1,I1,rv,hl,q1⟩:=h3;refine⟨rfl,?_,I1.bk _ _ hC,hN.keeps I1.bk,T.keeps I1.bk,fun h' e hx=>hR pins σ H1 s2 h' e _ _ I1 hx q1⟩;show us.length≤sizeLine;rw[←rv.length,sizeLine_eq];omega
theorem fj {X:Cx}{x:Str}{j:Nat}{value:Expr}{tv:TE}{p1 p2 pos:Pos}(hv:PE X value tv)(hx:x.length≤1000:=by decide)(hev:evalEach [.Constant (.str x) j p1,.FormattedValue value 114 none p2] X.env=[eval (.Constant (.str x) j p1) X.env,eval (.FormattedValue value 114 none p2) X.env]:=by rfl) :
   PE X (.JoinedStr [.Constant (.str x) j p1,.FormattedValue value 114 none p2] pos) (fun σ H Q=>tv σ H fun v H1=>∃ z:Str,v=.str z∧z.length≤1000∧(∀ c∈z.cps.toList,c < 1114112)∧∀ y,Q (.str y) H1):=by
 intro pins s σ H Q I h;refine wpAny_JoinedStr ?_;rw[hev]
 have hS:(1000000:Nat)≤sizeLine:=by rw[sizeLine_eq];decide
 refine Calls.Constant_str ⟨x,_,rfl,?_,?_⟩
 . have:(BU++x).length=x.length:=by rw[PySem.Str.length_append];simp[BU,PySem.Str.length]
   rw[this];omega
 refine wpAny_FormattedValue_repr (thn (hv _ σ H _ (I.tok _) h) fun u s1 h1=>?_);obtain⟨v,H1,I1,rv,z,rfl,hz,hzc,q⟩:=h1;obtain⟨t,rfl⟩:=(show ∃ t,u=Value.str z t from rv);have hl:(reprText z).length≤10*z.length+2:=StrLaws.reprText_len z (fun c hc=>Am (hzc c hc) (by decide))
 have e0:(BU++x).length=x.length:=by rw[PySem.Str.length_append];simp[BU,PySem.Str.length]
 refine pyReprObj_str ?_ (by omega)
 have fin:∀ s2 t2,Inv X pins σ H1 s2→∃ y t,(Value.str (reprText z) t2)=.str y t∧(BU++x++y).length≤sizeLine∧Joins (model X.prog X.w) X.A X.xe [] (BU++x++y) (fun out s₁=>out.length≤sizeLine∧EP X pins σ Q (.str out s₁.toks) { s₁ with toks:=s₁.toks+1 }) s2:=fun s2 t2 I2=>by
   have hlen:(BU++x++reprText z).length≤sizeLine:=by rw[PySem.Str.length_append,e0];omega
   exact⟨_,_,rfl,hlen,hlen,.str (BU++x++reprText z),H1,I2.tok _,⟨_,rfl⟩,q _⟩
 exact wpAny_formatField_str (fin _ _ (I1.tok _)) (fin _ _ ((I1.tok _).tok _)) (by omega)
end L2
namespace L2
open PySem PySem.Spec PyProof.Rows PySem.W Builtin.Getset_descriptor
def jb (e C:Addr)(h:Heap):Prop:=∃ oo:Obj,h.get? e=some oo∧oo.cls=.ref C
theorem jb.ty {e C:Addr}{h:Heap}(c:jb e C h)(M:Model):Looks M h (typeOf (.ref e)) (.ref C):=by
 obtain⟨oo,h1,h2⟩:=c;rw[←h2];exact(Looks.ld h1).andThen .now
theorem zl {α:Type}{M:Model}{A:Around}{Q:α→Shared→Prop}{E:Value→Shared→Prop}{s:Shared}{t u:Sem α}(h:t=u)(k:wpAny M A u Q E s):wpAny M A t Q E s:=h▸k
section
variable {pg:Program}{wd:World}{Ar:Around}{Er:Value→Shared→Prop}{sh:Shared}{KK:Frag}{e C:Addr}
theorem xf {h:Heap}{M:Model}{a g:Value}{nm:Str}(XX:KK.In h)(q1:findIn KK (.ref C) nm=some (some a))(q2:specialIn KK a "__get__"=some (some g))(q3:takesIn KK a=some true) :
   Looks M h (Builtin.ObjectAttr.find (.ref e) (.ref C) nm) (.bind g a):=by
 have l3:Looks M h (Builtin.ObjectAttr.dataDescriptor? (some a) (some g)) (some (g,a)):=(looks_takesIn (M:=M) XX q3).andThen .now;exact(looks_findIn (M:=M) XX q1).andThen ((looks_specialIn (M:=M) XX q2).andThen (l3.andThen (Looks.tag .now)))
theorem u8 {tp:Value}{RR:Result→Shared→Prop}(XX:KK.In sh.heap)(c:jb e C sh.heap)(q5:mroIn KK C (.type "object")=some true)(go:RR (.ok (.ret (.ref C))) sh) :
   codeAny (model pg wd) Ar (.call (.builtin "getset_descriptor.__get__") ⟨[.builtin "object.__class__",.ref e,tp],[]⟩) RR sh:=by
 obtain⟨y1,y2,y3,y4,y5⟩:=sh;have t0:=c.ty (model pg wd);have t1:=looks_mroIn (M:=model pg wd) XX q5;refine codeAny_call_builtin KF.slot_gs.plain KF.entry_gs ?_;refine KF.slot_gs.check _ _ _ _ _ _ _ _ KF.type_class (KF.args_gs _ _ _) ?_;unfold Builtin.«getset_descriptor.__get__» descrGet;rw[dga_obj];refine wpAny_bind (wpAny_pure ?_);unfold descrGetter descrCheckInstance descrNameAndClass isInstance;simp only[KF.owner_class]
 repeat lk
 refine⟨Code.quiet_builtin _ (by decide),codeAny_builtin KF.entry_class ?_⟩;unfold Builtin.«object.__class__» shownTypeOf
 repeat lk
 exact go
theorem pX {a g:Value}{nm:Str}{tk:Tok}{RR:Result→Shared→Prop}(XX:KK.In sh.heap)(c:jb e C sh.heap)(q1:findIn KK (.ref C) nm=some (some a))(q2:specialIn KK a "__get__"=some (some g))(q3:takesIn KK a=some true)
   (qb:mroIn KK C (.type "BaseException")=some true)(go:∀ Er:Value→Shared→Prop,wpAny (model pg wd) Ar.in1 (call g [a,.ref e,.ref C]) (fun v s'=>RR (.ok (.ret v)) s') Er sh) :
   codeAny (model pg wd) Ar (.call (.builtin "BaseException.__getattribute__") ⟨[.ref e,.str nm tk],[]⟩) RR sh:=by
 obtain⟨y1,y2,y3,y4,y5⟩:=sh;have t0:=c.ty (model pg wd);have t1:=looks_mroIn (M:=model pg wd) XX qb;have t2:=xf (e:=e) (M:=model pg wd) XX q1 q2 q3
 have hk:builtinKind "BaseException.__getattribute__"=some .slot:=by decide
 have hsplit:splitId "BaseException.__getattribute__"=some ("BaseException", "__getattribute__"):=by decide
 have ha:=F.args_bexc_ga (.ref e) (.str nm tk);refine codeAny_call_builtin F.attr_ValueError.ga.plain F.entry_bexc_ga ?_;simp only[checkBuiltinCall,hk,hsplit];refine wpAny_bind ?_;unfold isInstance;refine wpAny_bind (t0.at (t1.at ?_));unfold argsOk at ha
 with_unfolding_all refine zl ha ?_
 refine wpAny_pure ?_;refine wpAny_bind (wpAny_pure ?_);refine wpAny_bind (wpAny_pure ?_);refine wpAny_bind (t0.at ?_);refine wpAny_bind (t2.at ?_);show wpAny _ _ (holding [a] (call g [a,.ref e,.ref C]) >>= ret) _ _ _;exact wpAny_bind (wpAny_holding (wpAny_mono (go _) (fun v s' hz=>wpAny_pure hz) fun _ _ hz=>hz))
theorem xa {W:Option Value→Shared→Prop}(XX:KK.In sh.heap)(c:jb e C sh.heap)(q0:findIn KK (.ref C) "__getattribute__"=some (some (.builtin "BaseException.__getattribute__")))(q4:findIn KK (.ref C) "__getattr__"=some none)
   (q1:findIn KK (.ref C) "__class__"=some (some (.builtin "object.__class__")))(q2:specialIn KK (.builtin "object.__class__") "__get__"=some (some (.builtin "getset_descriptor.__get__")))(q3:takesIn KK (.builtin "object.__class__")=some true)
   (qb:mroIn KK C (.type "BaseException")=some true)(q5:mroIn KK C (.type "object")=some true)(go:W (some (.ref C)) { sh with toks:=sh.toks+1 }) :
   wpAny (model pg wd) Ar (getAttr? (.ref e) "__class__") W Er sh:=by
 obtain⟨y1,y2,y3,y4,y5⟩:=sh;have t0:=c.ty (model pg wd);have t1:=looks_findIn (M:=model pg wd) XX q0;have t2:=looks_findIn (M:=model pg wd) XX q4
 have hx2:(Value.builtin "BaseException.__getattribute__"==Value.builtin "object.__getattribute__")=false:=by decide
 unfold getAttr? getAttrBy? getAttrBy;refine wpAny_bind (wpAny_mkText (wpAny_bind (wpAny_attempt ?_)));refine wpAny_holding (wpAny_bind (t0.at (wpAny_bind (t1.at ?_))))
 have e1:(onTheHeap (.ref C)&&Value.builtin "BaseException.__getattribute__"==Value.builtin "object.__getattribute__")=false:=by rw[hx2];rfl
 show wpAny _ _ (if(onTheHeap (.ref C)&&Value.builtin "BaseException.__getattribute__"==Value.builtin "object.__getattribute__")=true then _ else getAttrByItsOwn _ _ _ _ _ _) _ _ _;rw[e1];show wpAny _ _ (getAttrByItsOwn _ _ _ _ _ _) _ _ _;unfold getAttrByItsOwn;refine wpAny_bind ?_;show wpAny _ _ (typeLookup (.ref C) "__getattr__") _ _ _;refine t2.at ?_;refine wpAny_bind (wpAny_attempt (wpAny_holding ?_));show wpAny _ _ (boundAndCalled _ _ _) _ _ _;unfold boundAndCalled;rw[F.attr_ValueError.ga.bind];refine wpAny_bind (wpAny_pure ?_);show wpAny _ _ (call (.builtin "BaseException.__getattribute__") [.ref e,.str "__class__" _]) _ _ _;refine wpAny_call (pX (sh:=⟨y1,y2,y3,y4+1,y5⟩) XX c q1 q2 q3 qb fun Er'=>wpAny_call (u8 (sh:=⟨y1,y2,y3,y4+1,y5⟩) XX c q5 ?_));exact handed_on rfl (wpAny_pure go)
end
structure ExcC (K:Frag)(C:Addr):Prop where
 exc:excIn K C [.type "ValueError",.type "Exception",.type "BaseException",.type "object"] "ValueError.__new__"=true
 ga:findIn K (.ref C) "__getattribute__"=some (some (.builtin "BaseException.__getattribute__"))
 gt:findIn K (.ref C) "__getattr__"=some none
 cl:(clsIn K C).isSome=true
 ha:findIn K (.ref C) "__class__"=some (some (.builtin "object.__class__"))
 hn:specialIn K (.builtin "object.__class__") "__get__"=some (some (.builtin "getset_descriptor.__get__"))
 ht:takesIn K (.builtin "object.__class__")=some true
 hm:mroIn K C (.type "object")=some true
 hb:mroIn K C (.type "BaseException")=some true
theorem nM {K:Frag}{e C:Addr}(c:ExcC K C):KitX K (.ref e) (.ref C) (jb e C) where
 ty:=fun M h _ p=>p.ty M
 it:=fun M h XX _=>by
   obtain⟨cd,hcd⟩:=Option.isSome_iff_exists.mp c.cl;unfold clsIn at hcd
   split at hcd
   case h_2=>cases hcd
   case h_1 lk0 =>
     intro A' Q' E' s' k q;unfold isType loadHead;exact wpAny_bind (wpAny_loadPart (k _ _ (XX _ _ lk0)) (wpAny_pure q))
 ne:=fun h tp dd its n sl XX htp=>by
   obtain⟨cd,hcd⟩:=Option.isSome_iff_exists.mp c.cl;refine Bool.eq_false_iff.mpr fun q=>?_;have q':C=tp:=Value.ref.inj (beq_iff_eq.mp q);subst q';unfold clsIn at hcd
   split at hcd
   case h_2=>cases hcd
   case h_1 lk0 =>
     have z:=(XX _ _ lk0).symm.trans htp;cases z
 ca:=fun {prog w A E Q s} XX p k=>xa XX p c.ga c.gt c.ha c.hn c.ht c.hb c.hm k
theorem sH {X:Cx}{e C:Addr}{oe:Obj}(hp:(e,oe)∈X.pn)(hc:oe.cls=.ref C)(c:ExcC X.K C) :
   cw X (.builtin "isinstance") (fun xs H Q=>∃ D b,((xs=[.ref e,.ref D]∧kitOne X.K (.ref C) (.ref D)=some b)∨∃ T,xs=[.ref e,.ty T]∧kitOne X.K (.ref C) (.type T)=some b)∧Q (.bl b) H):=by
 intro pins s σ H xs us Q I r h;have hat:jb e C s.heap:=⟨oe,(I.pin _ (A8 _ hp)).1,hc⟩;obtain⟨D,b,h,q⟩:=h
 rcases h with ⟨rfl,k⟩ | ⟨T,rfl,k⟩
 . obtain⟨u,w',rfl,r1,r2⟩:=oO r;cases r1;cases r2;exact kia_one (nM c) I.kIn hat k (fun z=>nomatch z) fun tk=>⟨.bl b,H,I.tok _,rfl,q⟩
 . obtain⟨u,w',rfl,r1,r2⟩:=oO r;cases r1;cases r2;exact kia_one (nM c) I.kIn hat k (fun z=>nomatch z) fun tk=>⟨.bl b,H,I.tok _,rfl,q⟩
end L2
namespace L2
open PySem PySem.Spec PyProof.Rows PySem.W
abbrev Cx.bear (X:Cx)(pn:List (Addr×Obj))(W:Value→Shared→Prop):Cx:={ X with pn:=pn,xe:=W }
abbrev cxH (X:Cx)(e:Addr)(oe:Obj):Cx:={ X with A:=X.A.mark (some (.ref e)),calm:=false,pn:=(e,oe)::X.pn,xe:=fun _ _=>False }
section
variable {X:Cx}{pins pins':List (Addr×Obj)}{σ:St}{H H':Hp}{s s':Shared}{W:Value→Shared→Prop}
theorem Inv.toBear (I:Inv X pins σ H s)(W:Value→Shared→Prop):Inv (X.bear (X.pn++pins) W) [] σ H s :=
 ⟨⟨I.ok.mod,I.ok.kind,I.ok.glob,I.ok.blt,I.ok.above,I.ok.inj,I.ok.has,I.ok.cab,I.ok.hd,I.ok.frames,I.ok.stk,I.ok.exf,I.ok.bs,I.ok.bsz,I.ok.noex,I.ok.exfs,I.ok.funs,I.ok.frf⟩,I.os,I.bare,I.base,I.loc,I.cell,I.free,I.freeC,fun p hp=>I.pin p (by rw[A2] at hp;exact hp),I.hok,I.len⟩
theorem Inv.ofBear (I:Inv (X.bear (X.pn++pins) W) pins' σ H s):Inv X pins σ H s :=
 ⟨⟨I.ok.mod,I.ok.kind,I.ok.glob,I.ok.blt,I.ok.above,I.ok.inj,I.ok.has,I.ok.cab,I.ok.hd,I.ok.frames,I.ok.stk,I.ok.exf,I.ok.bs,I.ok.bsz,I.ok.noex,I.ok.exfs,I.ok.funs,I.ok.frf⟩,I.os,I.bare,I.base,I.loc,I.cell,I.free,I.freeC,fun p hp=>I.pin p (A8 _ hp),I.hok,I.len⟩
theorem SP.ofBear {D:gl}{f:Flow}(h:SP (X.bear (X.pn++pins) W) pins' D f s'):SP X pins D f s':=by
 cases f with
 | next=>obtain⟨σ',H',I,q⟩:=h;exact⟨σ',H',I.ofBear,q⟩
 | brk=>obtain⟨σ',H',I,q⟩:=h;exact⟨σ',H',I.ofBear,q⟩
 | cont=>obtain⟨σ',H',I,q⟩:=h;exact⟨σ',H',I.ofBear,q⟩
 | ret u=>obtain⟨v,σ',H',I,r,q⟩:=h;exact⟨v,σ',H',I.ofBear,r,q⟩
theorem Inv.toH {e:Addr}{oe:Obj}(I:Inv X pins σ H s)(he:s.heap.get? e=some oe)(hn:H e=none)(hl:e≠X.env.locals)(hf:e∉X.fs)(hc:∀ v,oe.data≠.cell v):Inv (cxH X e oe) pins σ H s :=
 ⟨⟨I.ok.mod,I.ok.kind,I.ok.glob,I.ok.blt,I.ok.above,I.ok.inj,I.ok.has,I.ok.cab,fun z=>(nomatch z),I.ok.frames,I.ok.stk,I.ok.exf,I.ok.bs,I.ok.bsz,I.ok.noex,I.ok.exfs,I.ok.funs,I.ok.frf⟩,I.os,I.bare,I.base,I.loc,I.cell,I.free,I.freeC,fun p hp=>by
   rcases List.mem_cons.mp (show p∈(e,oe)::(X.pn++pins) from hp) with rfl | hp
   . exact⟨he,hn,hl,hf,hc⟩
   . exact I.pin p hp,I.hok,I.len⟩
theorem Inv.ofH {e:Addr}{oe:Obj}(ok:X.Ok)(I:Inv (cxH X e oe) pins σ H s):Inv X pins σ H s :=
 ⟨ok,I.os,I.bare,I.base,I.loc,I.cell,I.free,I.freeC,fun p hp=>I.pin p (Ai _ hp),I.hok,I.len⟩
theorem yz {B h5:Heap}(I:Inv X pins σ H s)(hos:s'.os=s.os)(hba:AllBare s'.gens)(hun:Un (frs X.stack) [] H H' s.heap s'.heap)(hok:HOk X.prog X.w H' s'.heap)(hB:B.StaysIn h5)(up:s'.heap.UpToSlots h5)
   (k1:∀ b o,s.heap.get? b=some o→b∉frs X.stack→∃ o',B.get? b=some o'∧(H b=none→o'=o))(k2:∀ b u,H' b=some u→∀ o,s'.heap.get? b=some o→B.get? b=some o):Inv X pins σ H' { s' with heap:=h5 }:=by
 have no:∀ b:Addr,b∉([]:List Addr):=fun b z=>by cases z
 refine I.call' (s':={ s' with heap:=h5 }) (ch:=[]) hos ⟨fun b o ho hn hf _=>?_,fun b o ho hn hf _=>?_,hun.free,fun b o ho _=>?_,hun.tups,hun.frzs,hun.tbls⟩ (hok.by fun b u hb o ho=>hB b o (k2 b u hb o ho)) hba (fun b z=>absurd z (no b))
 . obtain⟨o',e1,e2⟩:=k1 b o ho hf;rw[e2 hn] at e1;exact hB b o e1
 . obtain⟨sl,e1⟩:=hun.slot b o ho hn hf (no b);obtain⟨_,oo,e2,e3⟩:=I.stack.mem hf;rw[ho] at e2;cases e2;obtain⟨sl2,e4⟩:=up b _ e1 e3;exact⟨sl2,e4⟩
 . by_cases hf:b∈frs X.stack
   . obtain⟨_,oo,e2,e3⟩:=I.stack.mem hf;rw[ho] at e2;cases e2;obtain⟨sl,e1⟩:=hun.slot b o ho (I.stkFree b hf) hf (no b);obtain⟨sl2,e4⟩:=up b _ e1 e3;exact⟨_,e4⟩
   . obtain⟨o',e1,_⟩:=k1 b o ho hf;exact⟨o',hB b o' e1⟩
theorem ju {M:Model}{A:Around}{E:Value→Shared→Prop}{i:Nat}{n:Str}{pos:Pos}{Q:Unit→Shared→Prop}(I:Inv X pins σ H s)(hN:X.N.Nodup)(hi:X.N[i]?=some n)(hk:X.env.scope.names.lookup n=some .local)
   (h:∀ s',Inv X pins (σ.set i none) H s'→Q () s'):wpAny M A (do bindName X.env n .none;unbindBehindTheSuite X.env n pos) Q E s:=by
 obtain⟨m,hn,hl⟩:=id I.loc
 have hcls:(X.env.scope.kind==.class||(X.env.scope.kind==.module&&X.env.locals != X.env.globals))=false:=by rw[I.ok.kind];rfl
 obtain⟨oL,_,_,hoL,_⟩:=id hn;refine wpAny_nameGoes_keeps hk hn hcls fun h' v hn' hs=>h _ ?_
 have far:∀ b o,X.s₀.heap.get? b=some o→b≠X.env.locals:=fun b o e z=>by
   have h1:=Heap.lt_size e;have h2:=I.ok.above;rw[z] at h1;exact absurd (Am h1 h2) (Bp _)
 have keepH:∀ b u,H b=some u→b≠X.env.locals:=fun b u e z=>by rw[z,I.free] at e;cases e
 refine⟨I.ok,I.os,I.bare,⟨fun b o e n hb hx=>(hs.2 b (far b o e)).trans (I.base.keep b o e n hb hx),fun b o e n hb hx=>?_,I.base.free,fun b o e hx=>?_,I.base.tups,I.base.frzs,I.base.tbls⟩,⟨_,hn',fun j y v' e1 e2 e3=>?_⟩,fun y c e=>?_,I.free,I.freeC,fun p hp=>?_,I.hok.by fun b u hb o ho=>(hs.2 b (keepH b u hb)).trans ho,by rw[CG];exact I.len⟩
 . obtain⟨sl,e1⟩:=I.base.slot b o e n hb hx;exact⟨sl,(hs.2 b (far b o e)).trans e1⟩
 . obtain⟨o',e1⟩:=I.base.there b o e hx;exact⟨o',(hs.2 b (far b o e)).trans e1⟩
 . have hij:i≠j:=fun z=>by
     subst z
     have hlt:i < σ.length:=by rw[I.len];exact(List.getElem?_eq_some_iff.mp hi).1
     rw[BW hlt] at e2;cases e2
   rw[B8 hij] at e2;obtain⟨u,r,lk⟩:=hl j y v' e1 e2 e3;refine⟨u,r,?_⟩
   rcases lk with ⟨q1,q2⟩ | ⟨q1,c,q2,q3⟩
   . refine .inl ⟨q1,?_⟩;have hne:y≠n:=fun z=>hij (kE hN hi (by rw[←z];exact e1));show(if y=n then v else m y)=some u;rw[if_neg hne];exact q2
   . refine .inr ⟨q1,c,q2,?_⟩;obtain⟨oc,h1,h2⟩:=q3;exact⟨oc,(hs.2 c (I.cne _ _ q2)).trans h1,h2⟩
 . obtain⟨w',oc,h1,h2⟩:=I.cell y c e;exact⟨w',oc,(hs.2 c (I.cne _ _ e)).trans h1,h2⟩
 . obtain⟨p1,p2,p3,p4,p5⟩:=I.pin p hp;exact⟨(hs.2 _ p3).trans p1,p2,p3,p4,p5⟩
end
def u4 (i:Nat)(D:gl):gl:={ nx:=fun σ2 H2=>D.nx (σ2.set i none) H2,rt:=D.rt,bk:=fun σ2 H2=>D.bk (σ2.set i none) H2,ct:=fun σ2 H2=>D.ct (σ2.set i none) H2 }
def wA (K:Frag) (dip:Value) (len i:Nat)(th:Addr→Addr→TS)(D:gl):XK:=fun cls _ H'=>∃ C,cls=.ref C∧ExcC K C∧exmOne K (.ref C) dip=some true∧∀ (e:Addr) (σ':St),σ'.length=len→th C e (u4 i D) (σ'.set i (some (.ref e))) H'
def xx (K:Frag) (dip:Value) (len i:Nat)(tb:XK→TS)(th:Addr→Addr→TS):TS:=fun D σ H=>tb (wA K dip len i th D) D σ H
theorem yN {X:Cx}{body suite:List Stmt}{b0:Stmt}{x n:Str}{i:Nat}{dip:Value}{np hpos pos:Pos}{tb:XK→TS}{th:Addr→Addr→TS}(hN:X.N.Nodup)(hi:X.N[i]?=some n)(hk:X.env.scope.names.lookup n=some .local)
   (hst:X.stack=X.env::X.outer)(hfr:X.env.frame=some X.env.locals)(hg:Gl X x)(hm:X.mg x=some dip)(hdb:(x==("__debug__":Str))=false)
   (hb:∀ (pn:List (Addr×Obj))(W:Value→Shared→Prop)(E1:XK),dz (CX1 X.prog X.w) (X.bear pn W) E1→PSs (X.bear pn W) body (tb E1))
   (hh:∀ (C e:Addr)(oe:Obj),oe.cls=.ref C→ExcC X.K C→PSs (cxH X e oe) (b0::suite) (th C e)) :
   PS X (.Try body [.ExceptHandler (some (.Name x np)) (some n) (b0::suite) hpos] [] [] pos) (xx X.K dip X.N.length i tb th):=by
 intro pins s σ H D I h;refine wpAny_Try_except ?_;refine wpAny_mono (hb (X.pn++pins) _ _ ?_ s σ H D (I.toBear _) h) (fun f s1 q=>?_) (fun _ _ z=>z)
 case refine_2 =>
   have q':SP X pins D f s1:=SP.ofBear q
   cases f with
   | next=>exact wpAny_execs_nil q'
   | brk=>exact q'
   | cont=>exact q'
   | ret u=>exact q'
 rintro pins' σ' H0 s0 ev s' I0 ⟨e,cls,a0,H',B,rfl,hos,hba,hun,hok,hfl,k1,k2,C,rfl,hC,hx,hth⟩;have I1:Inv X pins σ' H0 s0:=I0.ofBear
 have hfl':Heap.FlyingW B (X.env::X.outer) e (.ref C) a0 s'.heap:=by rw[←hst];exact hfl
 have hfrs:X.A.frames=some (X.env::X.outer):=by rw[←hst];exact I.ok.frames
 have eff:∀ {h6:Heap},Heap.FlyingW B (X.env::X.outer) e (.ref C) a0 h6→s'.heap.UpToSlots h6→∃ oe,h6.get? e=some oe∧oe.cls=.ref C∧Inv (cxH X e oe) pins σ' H' { s' with heap:=h6 }:=fun {h6} fl up=>by
   have I5:=yz (H':=H') I1 hos hba hun hok fl.1 up k1 k2;obtain⟨oe,vs,g1,g2,g3,_⟩:=fl.first
   have hne:H' e=none:=by
     cases q:H' e with
     | none=>rfl
     | some u =>
       obtain⟨ob,hob⟩:=hok.has q;have:=k2 e u q ob hob;rw[fl.2.1] at this;cases this
   refine⟨oe,g1,g2,I5.toH g1 hne (fun z=>?_) (fun z=>?_) (fun v z=>by rw[g3] at z;cases z)⟩
   . obtain⟨m,⟨oL,es,ep,ho,hd,_⟩,_⟩:=I5.loc;have ho':h6.get? X.env.locals=some oL:=ho;rw[←z,g1] at ho';cases ho';rw[hd] at g3;cases g3
   . have hm2:e∈frs (X.env::X.outer):=by
       unfold frs;rw[BN,hfr];exact Ai _ z
     obtain⟨_,oo,ho,hd⟩:=fl.2.2.1.mem hm2;rw[g1] at ho;cases ho;exact hd _ g3
 show wpAny (model X.prog X.w) X.A (noteFrame (.ref e) X.env) _ _ s';refine wpAny_looks_onW hfrs hfr hfl' fun h4 held4 up4=>?_;refine wpAny_landsW held4 fun h5 fl5 up5=>?_;obtain⟨oe5,g1,g2,IH5⟩:=eff fl5 (up4.trans up5);refine wpAny_handleBy_cons (codeAny_handlers_test ?_) (by intro q;cases q);refine g0 (X:=cxH X e oe5) IH5 hg hm ?_ hdb;have LM:=exm_one (M:=model X.prog X.w) (IH5.ofH I.ok).kIn (jb.ty ⟨oe5,g1,g2⟩ _) hx;refine LM.at ?_;refine codeAny_handlers_suite_as ?_;refine lands_againW fl5 fun h6 fl6 up6=>?_;obtain⟨oe,g3,g4,IH6⟩:=eff fl6 ((up4.trans up5).trans up6);refine kg (X:=cxH X e oe) (v:=.ref e) (u:=.ref e) IH6 hN hi (.inl hk) rfl (fun s7 IH7=>?_) (.inr hk);have run:=hh C e oe g4 hC s7 (σ'.set i (some (.ref e))) H' (u4 i D) IH7 (hth e σ' IH6.len);refine wpAny_mono run (fun f s8 q=>?_) (fun _ _ z=>z.elim);show wpAny (model X.prog X.w) X.A (do bindName X.env n .none;unbindBehindTheSuite X.env n hpos) (fun _ s9=>SP X pins D f s9) X.xe s8
 cases f with
 | next =>
   obtain⟨σ2,H2,J,q⟩:=q;exact ju (J.ofH I.ok) hN hi hk fun s9 J9=>⟨_,H2,J9,q⟩
 | brk =>
   obtain⟨σ2,H2,J,q⟩:=q;exact ju (J.ofH I.ok) hN hi hk fun s9 J9=>⟨_,H2,J9,q⟩
 | cont =>
   obtain⟨σ2,H2,J,q⟩:=q;exact ju (J.ofH I.ok) hN hi hk fun s9 J9=>⟨_,H2,J9,q⟩
 | ret u =>
   obtain⟨v,σ2,H2,J,r,q⟩:=q;exact ju (J.ofH I.ok) hN hi hk fun s9 J9=>⟨v,_,H2,J9,r,q⟩
end L2
namespace L2
open PySem PySem.Spec PyProof.Rows
theorem oG {prog:Program}{w:World}{A:Around}{R:Result→Shared→Prop}{s:Shared}{elt target iter cnd:Expr}{scope:Scope}{pos:Pos}{it acc:Value}{env:Env}(I:Nat→Shared→Prop)
   (turn:∀ n s,I n s→∀ E:Value→Shared→Prop,wpAny (model prog w) A (pyNext it) (fun r s₁=>match r with
     | none=>R (.ok .next) s₁
     | some v=>wpAny (model prog w) A (letOwnedTupleGo target it v) (fun _ s₁'=>wpAny (model prog w) A (assign target env v) (fun _ s₂=>wpAny (model prog w) A (isTrue cnd env (eval cnd env)) (fun ok s₂' =>
       if ok=true then wpAny (model prog w) A (eval elt env) (fun x s₃=>wpAny (model prog w) A (call (.builtin "list.append") [acc,x]) (fun _ s₄=>∃ m,m < n∧I m s₄) E s₃) E s₂' else ∃ m,m < n∧I m s₂') E s₂) E s₁') E s₁) E s)
   (n:Nat)(h:I n s) :
   codeAny (model prog w) A (.compLoop (.ListComp elt [⟨target,iter,[cnd],0⟩] scope pos) 0 it acc env) R s:=by
 refine codeAny_loop rfl I (fun n s hI=>?_) n h;show wpAny _ _ ((compTurn (.ListComp elt [⟨target,iter,[cnd],0⟩] scope pos) 0 it acc env).onRaise _) _ _ s;refine wpAny_noted ?_;rw[compTurn_list];refine wpAny_bind (wpAny_standAt (wpAny_bind (wpAny_mono (turn n s hI _) (fun r s₁ h₁=>?_) fun _ _ h'=>h')))
 cases r with
 | none=>exact wpAny_pure h₁
 | some v =>
   refine wpAny_bind (wpAny_mono h₁ (fun _ s₁' h₁=>?_) fun _ _ h'=>h');refine wpAny_bind (wpAny_mono h₁ (fun _ s₂ h₂=>?_) fun _ _ h'=>h');refine wpAny_bind (wpAny_tests_one (wpAny_mono h₂ (fun ok s₃ h₃=>?_) fun _ _ h'=>h'))
   cases ok with
   | false=>exact wpAny_pure ⟨rfl,h₃⟩
   | true =>
     rw[if_pos rfl] at h₃ ⊢;exact wpAny_bind (wpAny_bind (wpAny_mono h₃ (fun x s₄ h₄=>wpAny_bind (wpAny_mono h₄ (fun _ s₅ h₅=>wpAny_pure (wpAny_pure ⟨rfl,h₅⟩)) fun _ _ h'=>h')) fun _ _ h'=>h'))
def mq (J:It)(g:TG)(tc:TT)(te:TE)(D:Addr)(Q:Hp→Prop) (σ:St)(H:Hp):Prop :=
 ∃ W:Nat→Nat→St→Hp→Prop,(∃ m,W 0 m σ H)∧∀ i m σ' H',W i m σ' H' →
   (J.stop i H'∧Q H')∨(J.go i H'∧∃ N:St→Hp→Prop,(∀ σ'' H'',N σ'' H''→∃ m',m' < m∧W (i+1) m' σ'' H'') ∧
     ∀ x H2,J.yld i H' x H2→g x σ' H2 fun σ2 H3=>tc σ2 H3 fun b H3'=>if b=true then te σ2 H3' fun v H4=>∃ xs,H4 D=some (.lst xs)∧xs.length < sizeLine∧N σ2 (upd H4 D (.lst (xs++[v]))) else N σ2 H3')
section
variable {X:Cx}{pins:List (Addr×Obj)}{σ:St}{H:Hp}{s:Shared}{scope:Scope}{N':List Str}{pk:List (Option Nat)}{fp:List Addr}
theorem lc {elt tg iter cnd:Expr}{g:TG}{tc:TT}{te:TE}{J:It}{it:Addr}{tn:Nat→Heap→Prop}{pos:Pos}{QD:Addr→Hp→Prop}{E:Value→Shared→Prop}{RR:Value→Addr→Result→Shared→Prop}
   (I:Inv X pins σ H s)(B:bW X.N X.env scope N' pk)(hc:X.calm=true)(T:oj X.prog X.w X.K tg J fp it tn)(st:tn 0 s.heap)(hf:∀ b∈fp,ff X pins H b)
   (hg:∀ s H ex,PG (cxB X N' scope s H ex) tg g)(ht:∀ s H ex,PT (cxB X N' scope s H ex) cnd tc)(he:∀ s H ex,PE (cxB X N' scope s H ex) elt te)
   (hW:∀ D,H D=none→mq J g tc te D (QD D) (fF pk σ) (upd H D (.lst [])))
   (fin:∀ D C s' H' m,Inv X pins σ H' s'→ff X pins H' C→s'.heap.Ns C m→QD D H'→RR (.ref D) C (.ok .next) s') :
   wpAny (model X.prog X.w) X.A (newList []) (fun acc s₃=>wpAny (model X.prog X.w) X.A (newFunctionEnv scope X.env.globals (jj scope X.env) [] X.env.qual none .none (some X.env)) (fun cenv s₄ =>
     codeAny (model X.prog X.w) X.A (.compStart (.ListComp elt [⟨tg,iter,[cnd],0⟩] scope pos) 0 (.ref it) acc { cenv with scope:=relabel scope X.env }) (RR acc cenv.locals) s₄) E s₃) E s:=by
 have hD0:H s.heap.objs.size=none:=I.hok.fresh (z7 _);refine wpAny_newObj_type (wpAny_newFunctionEnv B.nocell (by intro y hy;simp at hy) (fun h₁ hns₁ hsb₁=>?_) B.kind);dsimp only at hns₁ hsb₁ ⊢;have I3:Inv X pins σ (upd H s.heap.objs.size (.lst [])) { s with heap:=s.heap.push { cls:=.type "list",dict:=none,data:=.seq ([]:List Value).toArray } }:=I.lnew (t':=s.toks) .nil (AN _);obtain⟨W,⟨m0,w0⟩,turn⟩:=hW _ hD0;generalize hs3:({ s with heap:=s.heap.push { cls:=.type "list",dict:=none,data:=.seq ([]:List Value).toArray } }:Shared)=s3 at I3
 have eh:s.heap.push { cls:=.type "list",dict:=none,data:=.seq ([]:List Value).toArray }=s3.heap:=by rw[←hs3]
 have hold:∀ b o,s.heap.get? b=some o→s3.heap.get? b=some o:=fun b o e=>by rw[←eh];exact Heap.get?_push_of_some _ e
 rw[eh] at hns₁ hsb₁;have hs:∀ b o,s3.heap.get? b=some o→h₁.get? b=some o:=fun b o e=>hsb₁.extBut b o (Ak (Heap.lt_size e)) (Heap.get?_push_of_some _ e)
 have hf3:∀ b∈fp,ff X pins (upd H s.heap.objs.size (.lst [])) b:=fun b hb=>by
   refine⟨?_,(hf b hb).2⟩;obtain⟨o,e,_⟩:=T.obj 0 _ st b hb;rw[ai (Ak (Heap.lt_size e))];exact(hf b hb).1
 have ho3:∀ b∈fp,∃ o,s3.heap.get? b=some o:=fun b hb=>by
   obtain⟨o,e,_⟩:=T.obj 0 _ st b hb;exact⟨o,hold _ _ e⟩
 have st1:tn 0 h₁:=T.keep 0 _ _ st fun b hb o e=>hs b o (hold b o e)
 have esh:∀ t,({ s with heap:=h₁,toks:=t }:Shared)={ s3 with heap:=h₁,toks:=t }:=fun t=>by rw[←hs3]
 have loop:∀ t,codeAny (model X.prog X.w) X.A (.compLoop (.ListComp elt [⟨tg,iter,[cnd],0⟩] scope pos) 0 (.ref it) (.ref s.heap.objs.size) (compEnvC scope (jj scope X.env) s3.heap.objs.size X.env))
     (RR (.ref s.heap.objs.size) s3.heap.objs.size) { s with heap:=h₁,toks:=t }:=fun t=>by
   rw[esh t];have IB:Inv (cxB X N' scope s3 (upd H s.heap.objs.size (.lst [])) fp) [] (fF pk σ) (upd H s.heap.objs.size (.lst [])) { s3 with heap:=h₁,toks:=t }:=rH I3 B hf3 ho3 hns₁ hs
   have f2:∀ b∈fp,ff (cxB X N' scope s3 (upd H s.heap.objs.size (.lst [])) fp) [] (upd H s.heap.objs.size (.lst [])) b:=fun b hb =>
     ⟨(hf3 b hb).1,(IB.ok.exf b hb).1,IB.ok.exfs b hb,.inl hb,(IB.ok.exf b hb).2,fun p hp=>absurd (show p∈([]:List (Addr×Obj)) from hp) (by simp)⟩
   have stat:∀ {H':Hp},(∀ b∈fp,H' b=none)→∀ b∈fp,ff (cxB X N' scope s3 (upd H s.heap.objs.size (.lst [])) fp) [] H' b:=fun hn b hb=>⟨hn b hb,(f2 b hb).2⟩;refine oG (fun n s'=>∃ i σ' H',Inv (cxB X N' scope s3 (upd H s.heap.objs.size (.lst [])) fp) [] σ' H' s'∧tn i s'.heap∧(∀ b∈fp,H' b=none)∧W i n σ' H') ?_ m0 ⟨0,_,_,IB,st1,fun b hb=>(f2 b hb).1,w0⟩;rintro n s4 ⟨i,σ4,H4,I4,st4,fr4,w4⟩ E'
   rcases turn i n σ4 H4 w4 with ⟨stop,qn⟩ | ⟨go,N,hN,step⟩
   . refine thn (T.done (cxB X N' scope s3 (upd H s.heap.objs.size (.lst [])) fp) rfl rfl rfl hc i [] s4 σ4 H4 E' I4 (stat fr4) st4 stop) fun r s5 ⟨hr,I5⟩=>?_;subst hr;obtain⟨m5,hn5,_⟩:=I5.loc;have IX:Inv X pins σ H4 s5:=I3.call' (ch:=fp) I5.os I5.base I5.hok I5.bare fun b hb=>⟨(hf3 b hb).2.2.2.1,(hf3 b hb).2.1,(hf3 b hb).2.2.2.2.1,(hf3 b hb).2.2.2.2.2⟩;exact fin _ _ s5 H4 m5 IX (I3.fpOk (z7 _) I5.free) hn5 qn
   . refine thn (T.item (cxB X N' scope s3 (upd H s.heap.objs.size (.lst [])) fp) rfl rfl rfl hc i [] s4 σ4 H4 E' I4 (stat fr4) st4 go) fun r s5 ⟨u,hr,h5⟩=>?_;subst hr;refine thn h5 fun _ s6 ⟨x,H6,I6,r6,y6,st6,fr6⟩=>?_;have I6':=I6.pinned (stat fr6) (T.obj _ _ st6);refine wpAny_mono (hg _ _ _ s6 σ4 H6 x u _ I6' r6 (step x H6 y6)) (fun _ s7 ⟨σ7,H7,I7,q7⟩=>?_) fun _ _ z=>False.elim z;refine wpAny_mono (ht _ _ _ s7 σ7 H7 _ I7 q7) (fun bb s7' ⟨H7',I7',q7'⟩=>?_) fun _ _ z=>False.elim z
     have back:∀ H9 s9,Inv (cxB X N' scope s3 (upd H s.heap.objs.size (.lst [])) fp) ([]++jS fp s6.heap) σ7 H9 s9→N σ7 H9→∃ m,m < n∧∃ i σ' H',Inv (cxB X N' scope s3 (upd H s.heap.objs.size (.lst [])) fp) [] σ' H' s9∧tn i s9.heap∧(∀ b∈fp,H' b=none)∧W i m σ' H':=fun H9 s9 I9 n9=>by
       obtain⟨m',hm,w9⟩:=hN σ7 H9 n9;refine⟨m',hm,i+1,σ7,H9,I9.unpinned,T.keep _ _ _ st6 fun b hb o e=>(I9.pin (b,o) (Aq _ (Aq _ (dt hb e)))).1,fun b hb=>?_,w9⟩;obtain⟨o,e,d⟩:=T.obj _ _ st6 b hb;exact(I9.pin (b,o) (Aq _ (Aq _ (dt hb e)))).2.1
     cases bb with
     | false=>exact back H7' s7' I7' q7'
     | true =>
       refine wpAny_mono (he _ _ _ s7' σ7 H7' _ I7' q7') (fun w s8 ⟨v,H8,I8,r8,xs,hx8,hl8,n8⟩=>?_) fun _ _ z=>False.elim z;refine wpAny_mono (bN (X:=cxB X N' scope s3 (upd H s.heap.objs.size (.lst [])) fp) _ s8 σ7 H8 (.ref s.heap.objs.size) [v] (.ref s.heap.objs.size) [w] (fun _ H9=>N σ7 H9) I8 rfl (.cons r8 .nil) ⟨_,xs,v,rfl,rfl,hx8,hl8,n8⟩) (fun _ s9 ⟨_,H9,I9,_,n9⟩=>?_) fun _ _ z=>False.elim z;exact back H9 s9 I9 n9
 rw[←eh] at loop;exact codeAny_compStart_list (loop _) (T.self _ _ _ _ _ st1 (loop _))
def ma (pk:List (Option Nat))(wi:TI)(g:TG)(tc:TT)(te:TE):TE:=fun σ H Q=>wi σ H fun J H1=>∀ D,H1 D=none→mq J g tc te D (fun H'=>Q (.ref D) H') (fF pk σ) (upd H1 D (.lst []))
theorem eP {elt tg iter cnd:Expr}{wi:TI}{g:TG}{tc:TT}{te:TE}{pos:Pos}(hc:X.calm=true)(B:bW X.N X.env scope N' pk)(hi:PI X tg iter wi)
   (hg:∀ s H ex,PG (cxB X N' scope s H ex) tg g)(ht:∀ s H ex,PT (cxB X N' scope s H ex) cnd tc)(he:∀ s H ex,PE (cxB X N' scope s H ex) elt te)(hs:∀ x,foldedSetIterable iter X.env x=pure x:=by intro _;rfl) :
   PE X (.ListComp elt [⟨tg,iter,[cnd],0⟩] scope pos) (ma pk wi g tc te):=by
 intro pins s σ H Q I h;rw[eval_ListComp];have hclos:=fo (hU I B);refine wpAny_comprehension_free (use:=none) rfl hs hclos B.kind B.names (thn (hi s σ H _ I h) fun v s1 h1=>thn h1 fun itv s2 h2=>?_);obtain⟨it,fp,tn,J,H2,e,I2,T,st2,f2,hW⟩:=h2;subst e;refine lc (QD:=fun D H'=>Q (.ref D) H') (RR:=fun acc C=>compPost (model X.prog X.w) X.A X.xe none (EP X pins σ Q) acc C) I2 B hc T st2 f2 hg ht he hW fun D C s' H' m I' f' hn q=>?_;exact⟨m,hn,fun h' hs'=>⟨.ref D,H',I'.gone f' hs',rfl,q⟩⟩
end
end L2
namespace L2
open PySem
section
variable {X:Cx}
end
end L2
namespace L2
open PySem PySem.Spec PyProof.Rows PySem.W
end L2
namespace L2
open PySem PySem.Spec PyProof.Rows
def xH (cs:List Int):TA:=fun _ H Q=>Q (cs.map V.int) H
def xG (cs:List Str):TA:=fun _ H Q=>Q (cs.map V.str) H
abbrev rN (K:PySem.W.Frag):List V→Hp→VK→Prop:=fun xs H Q=>∃ p ys,xs=[.ref p]∧(SqL K H p ys∨SqT K H p ys)∧∀ l,H l=none→Q (.ref l) (upd H l (.lst ys))
theorem gq {P:Program}{w:World}{X:Cx}:dz (CX1 P w) X (fun _ _ _=>False):=fun _ _ _ _ _ _ _ ⟨_,_,_,_,_,_,_,_,_,_,_,_,_,h⟩=>h.elim
theorem fQ (L:List Int){x:Int}(h0:0≤x)(h1:x < L.length):∃ y∈L,atI (L.map V.int) x=some (V.int y):=by
 obtain⟨j,rfl⟩:=Bj h0
 have hj:j < L.length:=by omega
 exact⟨L[j],A4 hj,bS (by rw[zX,zW hj];rfl)⟩
theorem ar {t u:TS}{D:gl}{σ:St}{H:Hp}(Pv:St→Hp→Prop)(h:∀ R:St→Hp→Prop,(∀ σ' H',Pv σ' H'→R σ' H')→t { D with nx:=R } σ H)(k:∀ σ' H',Pv σ' H'→u D σ' H'):yO t u D σ H:=⟨Pv,h Pv (fun _ _ x=>x),k⟩
theorem my {ns:List Int}:∀ {us:List Value},Vals (ns.map V.int) us→IntsAre us ns:=by
 induction ns with
 | nil=>intro us r;rw[Bw] at r;cases r;exact .nil
 | cons n ns ih =>
   intro us r;rw[An] at r
   cases r with
   | cons r1 r2 =>
     obtain⟨t,e⟩:=r1;cases e;exact .cons n t (ih r2)
section
variable {X:Cx}
theorem sF (hc:X.calm=true):cw X (.builtin "max") (fun xs H Q=>∃ (a:Addr)(ns:List Int),xs=[.ref a]∧SqL X.K H a (ns.map V.int)∧0 < ns.length∧∀ M,M∈ns→(∀ a∈ns,a≤M)→Q (.int M) H):=by
 intro pins s σ H xs us Q I r h;obtain⟨a,ns,rfl,ha,hne,q⟩:=h;obtain⟨u,rfl,ru⟩:=eA r;cases ru;obtain⟨its,rv,pl,_⟩:=I.list ha;have hl:=pl.isList;have hi:=my rv;obtain⟨xs,e⟩:=hi.allInts.items
 have hns:ns=xs.toList.map (·.1):=by
   rw[←hi.numsOf,←nums_intItems,←e]
 have hsz:0 < xs.size:=by
   have h3:=hne;rw[hns,be,AI] at h3;exact h3
 rw[e] at hl;refine max_intList (I.ok.hd hc) hl hsz fun v h' tk hv hk=>?_;obtain⟨t,rfl⟩:=intItems_at hv;obtain⟨h1,h2⟩:=argBest_gt (numAt xs) (xs.size - 1);refine⟨.int _,H,I.kept hk,⟨t,rfl⟩,q _ ?_ fun a ha=>?_⟩
 . rw[hns,numAt_eq];exact getD_mem (by rw[be,AI];omega)
 . rw[hns] at ha;obtain⟨j,hj,rfl⟩:=mem_getD ha;rw[be,AI] at hj;rw[←numAt_eq];exact h2 j (by omega)
end
theorem a8 {J:It}{H0:Hp}{n:Nat}{vs:Nat→V→Prop}{g:TG}{tb:TS}{D:gl}{σ:St}{H:Hp}(S:d6 J H0 n vs)(Pv:Nat→St→Hp→Prop)(h0:Pv 0 σ H)(hsame:∀ i σ H,i≤n→Pv i σ H→af H0 H)
   (hs:∀ i x σ H,i < n→vs i x→Pv i σ H→∀ R:St→Hp→Prop,(∀ σ' H',Pv (i+1) σ' H'→R σ' H')→g x σ H fun σ2 H2=>tb { D with nx:=R,ct:=R,bk:=D.nx } σ2 H2)(hd:∀ σ H,Pv n σ H→D.nx σ H):ua J g tb D σ H :=
 bn S Pv h0 hsame (fun i x σ H hi hx p=>hs i x σ H hi hx p _ fun _ _ z=>z) hd
section
variable {X:Cx}
theorem Inv.thaw {pins:List (Addr×Obj)}{σ:St}{H:Hp}{s:Shared}{d:Addr}{o:Obj}{kvs:List (Key×V)}(I:Inv X pins σ H s)(h:H d=some (.frz o (.dK kvs)))(h0:∀ o u,X.H₀ d≠some (.frz o u)):Inv X pins σ (upd H d (.dK kvs)) s:=by
 have ne:∀ b,H b=none→b≠d:=fun b e z=>by rw[z,h] at e;cases e
 refine⟨I.ok,I.os,I.bare,⟨I.base.keep,I.base.slot,fun b ob e n hx=>?_,I.base.there,fun b xs e=>?_,fun b ob u e=>?_,fun b ps e=>?_⟩,I.loc,I.cell,?_,fun x c e=>?_,fun p hp=>?_,fun a u e=>?_,I.len⟩
 . have:=I.base.free b ob e n hx;rw[ai (ne b this)];exact this
 . have:=I.base.tups b xs e
   have hb:b≠d:=fun z=>by rw[z,h] at this;cases this
   rw[ai hb];exact this
 . have:=I.base.frzs b ob u e
   have hb:b≠d:=fun z=>by rw[z] at e;exact h0 _ _ e
   rw[ai hb];exact this
 . obtain⟨more,this⟩:=I.base.tbls b ps e
   have hb:b≠d:=fun z=>by rw[z,h] at this;cases this
   exact⟨more,by rw[ai hb];exact this⟩
 . rw[ai (ne _ I.free)];exact I.free
 . rw[ai (ne _ (I.freeC x c e))];exact I.freeC x c e
 . obtain⟨e1,n,r⟩:=I.pin p hp;exact⟨e1,by rw[ai (ne _ n)];exact n,r⟩
 . have ho:∀ b y,H b=some (.own y)→upd H d (.dK kvs) b=some (.own y):=fun b y q=>by
     have hb:b≠d:=fun z=>by rw[z,h] at q;cases q
     rw[ai hb];exact q
   have ht:∀ b xs,H b=some (.tup xs)→upd H d (.dK kvs) b=some (.tup xs):=fun b xs q=>by
     have hb:b≠d:=fun z=>by rw[z,h] at q;cases q
     rw[ai hb];exact q
   by_cases ha:a=d
   . subst ha;rw[ac] at e;cases e;have:=I.hok a _ h;exact bR.stay this.2 (fun _ _ _ q=>q) (fun b q=>ho b _ q) ht
   . rw[ai ha] at e;exact bR.stay (I.hok a _ e) (fun _ _ _ q=>q) (fun b q=>ho b _ q) ht
def uW (H0:Hp)(te:TE):TE:=fun σ H Q=>te σ H fun v H'=>Q v H'∨∃ d o kvs,H' d=some (.frz o (.dK kvs))∧(∀ o u,H0 d≠some (.frz o u))∧Q v (upd H' d (.dK kvs))
theorem xm {e:Expr}{te:TE}(h:PE X e te):PE X e (uW X.H₀ te):=by
 intro pins s σ H Q I q;refine thn (h s σ H _ I q) fun v s1 ⟨x,H1,I1,r1,q1⟩=>?_
 rcases q1 with q1 | ⟨d,o,kvs,hd,h0,q1⟩
 . exact⟨x,H1,I1,r1,q1⟩
 . exact⟨x,_,I1.thaw hd h0,r1,q1⟩
end
theorem sg {CX:CXT}{P:Program}{w:World}{K:PySem.W.Frag}{mg:Str→Option Value}{base:Heap}{N:List Str}{qual:Str}{scope:Scope}{f:Addr}{cd:Value}{A:Around}{outer:List Env}{s:Shared}{H:Hp}{E:XK}:(eV CX P w K mg base N qual scope f cd A outer s H E).H₀=H:=rfl
theorem um {X:Cx}:X.nox.H₀=X.H₀:=rfl
section
variable {X:Cx}
theorem sv:∀ (xs ys:List V),xs.length=ys.length→((Ab xs.length).all fun j=>eqV (xs.getD j .non) (ys.getD j .non))=(xs.zip ys).all fun p=>eqV p.1 p.2:=by
 intro xs
 induction xs with
 | nil=>intro ys _;rfl
 | cons x xs ih =>
   intro ys h
   cases ys with
   | nil=>simp at h
   | cons y ys =>
     rw[AK,List.range_succ_eq_map,Cv,CT,Bg,Cv]
     have h':xs.length=ys.length:=by simpa using h
     rw[←ih ys h'];rfl
theorem oJ {its its2:List Value}{xs ys:List V}{A:Around}{s:Shared}(r1:Vals xs its)(r2:Vals ys its2)(f1:xs.all dG=true)(f2:ys.all dG=true)(hl:xs.length=ys.length) :
   ∀ j (h1:j < its.toArray.size)(h2:j < its2.toArray.size),SeqAt.EqAt A s its.toArray[j] its2.toArray[j] (eqV (xs.getD j .non) (ys.getD j .non)):=by
 intro j h1 h2;have l1:=r1.length;have l2:=r2.length
 have hj1:j < xs.length:=by rw[l1];simpa using h1
 have hj2:j < ys.length:=by rw[l2];simpa using h2
 obtain⟨u1,hu1,ru1⟩:=r1.get (zW hj1);obtain⟨u2,hu2,ru2⟩:=r2.get (zW hj2)
 have e1:its.toArray[j]=u1:=by
   have:=(List.getElem?_eq_some_iff.mp hu1).2
   simpa using this
 have e2:its2.toArray[j]=u2:=by
   have:=(List.getElem?_eq_some_iff.mp hu2).2
   simpa using this
 rw[e1,e2,zZ,zZ,zW hj1,zW hj2];exact vT ru1 ru2 (List.all_eq_true.mp f1 _ (A4 hj1)) (List.all_eq_true.mp f2 _ (A4 hj2))
def jB (xs ys:List V):Bool:=decide (xs.length=ys.length)&&(xs.zip ys).all fun p=>eqV p.1 p.2
def wr (K:PySem.W.Frag)(neg:Bool):R2:=fun x y H Q=>∃ a b xs ys,x=.ref a∧y=.ref b∧SqL K H a xs∧SqL K H b ys∧((xs.all dG=true∧ys.all dG=true)∨xs.length≠ys.length∨xs=[])∧Q (.bl (neg^^jB xs ys)) H
theorem vc (hu:X.A.units < cLine):OpR X (compareOp .Eq) (wr X.K false):=by
 intro pins s σ H x y v u Q I rx ry h;obtain⟨a,b,xs,ys,rfl,rfl,ha,hb,hf,q⟩:=h;cases rx;cases ry;obtain⟨its,r1,t1,_⟩:=I.list ha;obtain⟨its2,r2,t2,_⟩:=I.list hb;have l1:=r1.length;have l2:=r2.length;by_cases hl:xs.length=ys.length
 . have hf':xs.all dG=true∧ys.all dG=true:=by
     rcases hf with h | h | h
     . exact h
     . exact absurd hl h
     . rw[h];rw[h] at hl;rw[show ys=[] from List.length_eq_zero_iff.mp hl.symm];exact⟨rfl,rfl⟩
   refine SeqAt.eq_listAt t1.isList t2.isList (by simp;omega) hu (oJ r1 r2 hf'.1 hf'.2 hl) ?_
   have e:((Ab its.toArray.size).all fun j=>eqV (xs.getD j .non) (ys.getD j .non))=jB xs ys:=by
     unfold jB;rw[decide_eq_true hl,Bool.true_and,←sv xs ys hl,l1];simp
   rw[e];rw[Bool.false_xor] at q;exact⟨.bl _,H,I,rfl,q⟩
 . have e:jB xs ys=false:=by unfold jB;rw[decide_eq_false hl,Bool.false_and]
   rw[e] at q;exact SeqAt.eq_list_lengthsAt t1.isList t2.isList (by simp;omega) hu ⟨.bl _,H,I,rfl,q⟩
theorem vn (hu:X.A.units < cLine):OpR X (compareOp .NotEq) (wr X.K true):=by
 intro pins s σ H x y v u Q I rx ry h;obtain⟨a,b,xs,ys,rfl,rfl,ha,hb,hf,q⟩:=h;cases rx;cases ry;obtain⟨its,r1,t1,_⟩:=I.list ha;obtain⟨its2,r2,t2,_⟩:=I.list hb;have l1:=r1.length;have l2:=r2.length;by_cases hl:xs.length=ys.length
 . have hf':xs.all dG=true∧ys.all dG=true:=by
     rcases hf with h | h | h
     . exact h
     . exact absurd hl h
     . rw[h];rw[h] at hl;rw[show ys=[] from List.length_eq_zero_iff.mp hl.symm];exact⟨rfl,rfl⟩
   refine SeqAt.RcNeAt.lists t1.isList t2.isList (by simp;omega) hu (oJ r1 r2 hf'.1 hf'.2 hl) _ _ _ _ ?_
   have e:((Ab its.toArray.size).all fun j=>eqV (xs.getD j .non) (ys.getD j .non))=jB xs ys:=by
     unfold jB;rw[decide_eq_true hl,Bool.true_and,←sv xs ys hl,l1];simp
   rw[e];rw[Bool.true_xor] at q;exact⟨.bl _,H,I,rfl,q⟩
 . have e:jB xs ys=false:=by unfold jB;rw[decide_eq_false hl,Bool.false_and]
   rw[e] at q;exact SeqAt.RcNeAt.lists_lengths t1.isList t2.isList (by simp;omega) hu _ _ _ _ ⟨.bl _,H,I,rfl,q⟩
theorem ia (xs:List V):jB xs []=decide (xs=[]):=by
 cases xs with
 | nil=>rfl
 | cons x xs=>simp[jB]
end
section
variable {prog:Program}{w:World}{A:Around}{E:Value→Shared→Prop}{s:Shared}
end
section
variable {prog:Program}{w:World}{κ:Type} [DecidableEq κ]{knd:KeyKind prog w κ}
end
section
variable {X:Cx}
end
section
variable {X:Cx}{pins:List (Addr×Obj)}{σ:St}{H:Hp}{s:Shared}{h':Heap}
end
def Ite (K:PySem.W.Frag)(a:Addr):It :=
 ⟨fun i H=>∃ xs x,SqL K H a xs∧xs[i]?=some x,fun i H v H'=>∃ T x,H T=none∧v=.ref T∧H'=upd H T (.tup [.int i,x])∧∀ xs,SqL K H a xs→xs[i]?=some x,fun i H=>∃ xs,SqL K H a xs∧xs.length≤i⟩
def xE (K:PySem.W.Frag)(ta:TA):TI:=fun σ H R=>ta σ H fun vs H1=>∃ a,vs=[.ref a]∧(∃ xs,SqL K H1 a xs)∧R (Ite K a) H1
section
variable {X:Cx}
end
def Itz (K:PySem.W.Frag)(a b:Addr):It :=
 ⟨fun i H=>∃ xs x ys y,SqL K H a xs∧xs[i]?=some x∧SqL K H b ys∧ys[i]?=some y,fun i H v H'=>∃ T x y,H T=none∧v=.ref T∧H'=upd H T (.tup [x,y])∧(∀ xs,SqL K H a xs→xs[i]?=some x)∧∀ ys,SqL K H b ys→ys[i]?=some y,
   fun i H=>∃ xs ys,SqL K H a xs∧SqL K H b ys∧(xs.length≤i∨ys.length≤i)⟩
def xI (K:PySem.W.Frag)(ta:TA):TI:=fun σ H R=>ta σ H fun vs H1=>∃ a b,vs=[.ref a,.ref b]∧(∃ xs,SqL K H1 a xs)∧(∃ ys,SqL K H1 b ys)∧R (Itz K a b) H1
section
variable {X:Cx}
end
section
variable {X:Cx}
end
def Up (xs:Array Nat):Prop:=xs.toList.Pairwise (· < ·)
theorem Up.lt {xs:Array Nat}(u:Up xs){i k:Nat}(h:i < k)(hk:k < xs.size):xs.getD i 0 < xs.getD k 0:=by
 have:=(List.pairwise_iff_getElem.mp u) i k (by rw[AI];omega) (by rw[AI];exact hk) h;simp only[Array.getElem_toList] at this;rw[AJ,AJ,Al (by omega),Al hk];exact this
theorem Up.le {xs:Array Nat}(u:Up xs){i k:Nat}(h:i≤k)(hk:k < xs.size):xs.getD i 0≤xs.getD k 0:=by
 rcases Nat.lt_or_eq_of_le h with h | h
 . exact CA (u.lt h hk)
 . rw[h];exact z7 _
theorem jO {xs:Array Nat}(u:Up xs) (j:Nat):∀ fuel lo hi,hi≤xs.size→lo≤hi→hi - lo≤fuel→(∀ i,i < lo→xs.getD i 0 < j)→(∀ i,hi≤i→i < xs.size→j≤xs.getD i 0) →
   SetTable.below.go xs j fuel lo hi≤xs.size∧(∀ i,i < SetTable.below.go xs j fuel lo hi→xs.getD i 0 < j)∧∀ i,SetTable.below.go xs j fuel lo hi≤i→i < xs.size→j≤xs.getD i 0
 | 0,lo,hi,h1,h2,h3,h4,h5=>by
   have e:lo=hi:=by omega
   subst e;exact⟨h1,h4,h5⟩
 | fuel+1,lo,hi,h1,h2,h3,h4,h5=>by
   show(if lo < hi then _ else lo)≤_∧(∀ i,i < (if lo < hi then _ else lo)→_)∧∀ i,(if lo < hi then _ else lo)≤i→_;by_cases hl:lo < hi
   . rw[if_pos hl];dsimp only;by_cases hm:xs.getD ((lo+hi) / 2) j < j
     . rw[if_pos hm]
       have hm':xs.getD ((lo+hi) / 2) 0 < j:=by
         have hlt:(lo+hi) / 2 < xs.size:=by omega
         simp only[AJ,Al hlt] at hm ⊢;exact hm
       exact jO u j fuel _ hi h1 (by omega) (by omega) (fun i hi'=>Ck (u.le (by omega) (by omega)) hm') h5
     . rw[if_neg hm]
       have hm':j≤xs.getD ((lo+hi) / 2) 0:=by
         have hlt:(lo+hi) / 2 < xs.size:=by omega
         simp only[AJ,Al hlt] at hm ⊢
         simpa using hm
       exact jO u j fuel lo _ (by omega) (by omega) (by omega) h4 fun i a b=>AO hm' (u.le a b)
   . rw[if_neg hl]
     have e:lo=hi:=by omega
     subst e;exact⟨h1,h4,h5⟩
theorem nG {xs:Array Nat}(u:Up xs) (j:Nat):SetTable.below xs j≤xs.size∧(∀ i,i < SetTable.below xs j→xs.getD i 0 < j)∧∀ i,SetTable.below xs j≤i→i < xs.size→j≤xs.getD i 0 :=
 jO u j xs.size 0 xs.size (z7 _) (AN _) (by omega) (fun _ h=>absurd h (Nat.not_lt_zero _)) (fun i a b=>absurd b (by omega))
theorem sN {xs:Array Nat}(u:Up xs){j:Nat}(hj:xs[SetTable.below xs j]?≠some j):Up (SetTable.insertAt xs (SetTable.below xs j) j):=by
 unfold Up;rw[SetTable.toList_insertAt];obtain⟨h1,h2,h3⟩:=nG u j
 have g:∀ i (h:i < xs.toList.length),xs.toList[i]=xs.getD i 0:=fun i h=>by
   rw[AJ,Al (by simpa using h)];simp
 have a1:∀ x∈xs.toList.take (SetTable.below xs j),x < j:=by
   intro x hx;obtain⟨i,hi,e⟩:=List.mem_iff_getElem.mp hx;rw[Ao] at hi;rw[List.getElem_take,g i (by omega)] at e;rw[←e];exact h2 i (by omega)
 have a2:∀ x∈xs.toList.drop (SetTable.below xs j),j < x:=by
   intro x hx;obtain⟨i,hi,e⟩:=List.mem_iff_getElem.mp hx;rw[A3] at hi;rw[List.getElem_drop,g _ (by omega)] at e;rw[←e];rw[AI] at hi;have b1:=h3 (SetTable.below xs j) (z7 _) (by omega)
   have b2:xs.getD (SetTable.below xs j) 0≠j:=by
     intro z;rw[AJ,Al (by omega)] at z;rw[Al (by omega)] at hj;exact hj (congrArg some z)
   exact Am (Nat.lt_of_le_of_ne b1 (Ne.symm b2)) (u.le (by omega) (by omega))
 have uu:(xs.toList.take (SetTable.below xs j)++xs.toList.drop (SetTable.below xs j)).Pairwise (· < ·):=by rw[List.take_append_drop];exact u
 rw[BJ] at uu ⊢;refine⟨uu.1,List.pairwise_cons.mpr ⟨a2,uu.2.1⟩,fun a ha b hb=>?_⟩
 rcases List.mem_cons.mp hb with rfl | hb
 . exact a1 a ha
 . exact uu.2.2 a ha b hb
theorem gO (n:Nat):Up (Array.range n):=by
 unfold Up;rw[Array.toList_range];exact List.pairwise_lt_range
theorem kK (t:SetTable)(ha:Nat→Int) (h:Int):∀ (fuel:Nat)(p:SetTable.Probe) (j:Nat)(dm:Option Nat),(∀ d,p.dummy=some d→t.slot d=.dummy)→SetTable.probe.go t ha h fuel p=some (.empty j dm)→t.slot j=.empty∧∀ d,dm=some d→t.slot d=.dummy
 | 0,_,_,_,_,e=>by cases e
 | fuel+1,p,j,dm,hp,e=>by
   have adv:∀ q:SetTable.Probe,(t.advance q).dummy=q.dummy:=fun q=>by unfold SetTable.advance;split<;>rfl
   unfold SetTable.probe.go at e
   cases hs:t.slot p.j with
   | empty =>
     rw[hs] at e;simp only[Option.some.injEq,SetTable.Met.empty.injEq] at e;obtain⟨rfl,rfl⟩:=e;exact⟨hs,hp⟩
   | dummy =>
     rw[hs] at e;refine kK t ha h fuel _ j dm (fun d hd=>?_) e;rw[adv] at hd;cases hd;exact hs
   | live i =>
     rw[hs] at e;dsimp only at e;by_cases hc:(ha i==h)=true
     . rw[if_pos hc] at e;cases e
     . rw[if_neg hc] at e;exact kK t ha h fuel _ j dm (fun d hd=>by rw[adv] at hd;exact hp d hd) e
theorem lv {t:SetTable}{j:Nat}(h:t.slot j=.empty∨t.slot j=.dummy):t.place[SetTable.below t.place j]?≠some j:=by
 intro z;unfold SetTable.slot at h;dsimp only at h;rw[z] at h;simp at h
theorem tP {t:SetTable}{h:Int}{j:Nat}{b:Bool}(e:t.freeSlot h=some (j,b)):t.place[SetTable.below t.place j]?≠some j:=by
 unfold SetTable.freeSlot at e
 cases hp:t.probe (fun _=>h+1) h (t.probeStart h) with
 | none=>rw[hp] at e;cases e
 | some m =>
   rw[hp] at e
   cases m with
   | candidate a b c=>cases e
   | empty j' dm =>
     obtain⟨h1,h2⟩:=kK t _ h _ _ j' dm (fun d hd=>by cases hd) hp;simp only[Option.some.injEq,Prod.mk.injEq] at e
     cases dm with
     | none=>simp only[Cw] at e;rw[←e.1];exact lv (.inl h1)
     | some d=>simp only[BM] at e;rw[←e.1];exact lv (.inr (h2 d rfl))
theorem ni {t:SetTable} (n:Nat)(u:Up t.place):Up (t.orStandIn n).place:=by
 unfold SetTable.orStandIn
 split
 . exact u
 . exact gO n
theorem kY {t:SetTable} (n:Nat):(t.orStandIn n).led=t.led:=by
 unfold SetTable.orStandIn
 split<;>rfl
theorem sG {t:SetTable}(es:Array (Int×Value)) (h:Int) (x:Value)(u:Up t.place):Up (layNew t es h x).2.1.place∧(layNew t es h x).2.1.led=t.led:=by
 unfold layNew
 split
 . rename_i j b e;exact⟨ni _ (sN u (tP e)),kY _⟩
 . exact⟨gO _,rfl⟩
theorem wz {mask finger moves:Nat}{led plain:Bool}{hs:Array Int}{t:SetTable}{o:Array Nat}(e:SetTable.laid mask finger moves led plain hs=some (t,o)):Up t.place∧t.led=led:=by
 unfold SetTable.laid at e
 cases hl:SetTable.layClean mask hs with
 | none=>rw[hl] at e;cases e
 | some ow =>
   rw[hl] at e;simp only[Option.bind_eq_bind,Option.bind_some,Option.pure_def,Option.some.injEq,Prod.mk.injEq] at e;obtain⟨rfl,_⟩:=e;refine⟨?_,rfl⟩;unfold Up;simp only[List.toList_toArray];rw[List.pairwise_map,List.pairwise_filterMap];refine List.pairwise_lt_range.imp ?_;intro a b hab x hx y hy;obtain⟨_,_,rfl⟩:=Option.map_eq_some_iff.mp hx;obtain⟨_,_,rfl⟩:=Option.map_eq_some_iff.mp hy;exact hab
theorem pe {t:SetTable}(es:Array (Int×Value)) (wanted:Nat):Up (relayAll t es wanted).2.1.place∧(relayAll t es wanted).2.1.led=t.led:=by
 unfold relayAll
 split
 . rename_i t' o e;dsimp only
   split
   . exact wz e
   . exact⟨gO _,rfl⟩
 . exact⟨gO _,rfl⟩
section
variable {prog:Program}{w:World}{K:Type} [DecidableEq K](knd:KeyKind prog w K)
def cX (led:Bool)(h:Heap)(a:Addr)(S:K→Bool) (n:Nat):Prop :=
 ∃ o es ep t,h.get? a=some o∧o.ExactSet∧o.data=.set es ep t∧ElemsOf knd es.toList∧(∀ k,S k=true↔∃ e∈es.toList,knd.is k e.2=true)∧es.size < scanBound∧t.fits es.size=true∧es.size=n∧Up t.place∧t.led=led
variable {knd}
theorem cX.congr {led:Bool}{h:Heap}{a:Addr}{S S':K→Bool}{n n':Nat}(x:cX knd led h a S n)(e:∀ k,S k=S' k)(en:n=n'):cX knd led h a S' n':=by
 obtain⟨o,es,ep,t,h1,h2,h3,h4,h5,r⟩:=x;subst en;exact⟨o,es,ep,t,h1,h2,h3,h4,fun k=>by rw[←e k];exact h5 k,r⟩
theorem cX.at_ {led:Bool}{h h':Heap}{a:Addr}{S:K→Bool}{n:Nat}(x:cX knd led h a S n)(k:∀ o,h.get? a=some o→h'.get? a=some o):cX knd led h' a S n:=by
 obtain⟨o,es,ep,t,ho,r⟩:=x;exact⟨o,es,ep,t,k _ ho,r⟩
theorem jX {h:Heap}{a:Addr}{o:Obj}{es:Array (Int×Value)}{ep:Nat}{t:SetTable}(ho:h.get? a=some o)(hex:o.ExactSet)(hd:o.data=.set es ep t)
   {es':Array (Int×Value)}{t':SetTable}{S':K→Bool}(hel:ElemsOf knd es'.toList)(hmem:∀ k,S' k=true↔∃ e∈es'.toList,knd.is k e.2=true)(hb:es'.size < scanBound)(hf:t'.fits es'.size=true)(hu:Up t'.place){led:Bool}(hl:t'.led=led) :
   (h.update a (Obj.putSet es' t')).get? a=some { o with data:=.set es' (ep+1) t' }∧cX knd led (h.update a (Obj.putSet es' t')) a S' es'.size:=by
 obtain⟨h1,_⟩:=SetOf_store (knd:=knd) ho hex hd hel hmem hb hf;exact⟨h1,_,es',ep+1,t',h1,hex,rfl,hel,hmem,hb,hf,rfl,hu,hl⟩
variable {A:Around}{E:Value→Shared→Prop}{s:Shared}
theorem dX {a:Addr}{o:Obj}{es es1:Array (Int×Value)}{ep:Nat}{t t2:SetTable}{S':K→Bool}{led:Bool}{c:Bool}{gave:Bool→Sem Unit}(hgave:∀ b,(∃ r,gave b=rule r)∨gave b=pure ())
   (ho:s.heap.get? a=some o)(hex:o.ExactSet)(hd:o.data=.set es ep t)(el:ElemsOf knd es1.toList)(mm:∀ k,S' k=true↔∃ e∈es1.toList,knd.is k e.2=true)(hb:es1.size < scanBound)(hf:t2.fits es1.size=true)(hu:Up t2.place)(hl:t2.led=led)
   {R:Option Bool→Shared→Prop}(q:∀ h',Heap.SameBut a s.heap h'→cX knd led h' a S' es1.size→R (some true) { s with heap:=h' }) :
   wpAny (model prog w) A (storeSet a es1 t2 >>= fun _=>if c=true then(gave (relayAll t2 es1 (SetTable.grown es1.size)).2.2 >>= fun _=>storeSet a (relayAll t2 es1 (SetTable.grown es1.size)).1 (relayAll t2 es1 (SetTable.grown es1.size)).2.1 >>= fun _=>pure (some true)) else pure (some true)) R E s:=by
 have st1:=jX (knd:=knd) ho hex hd el mm hb hf hu hl;have sb1:=Heap.SameBut.update s.heap a (Obj.putSet es1 t2);refine wpAny_bind (wpAny_storeSet_of ho hd ?_ (fits_of_scanBound hb));by_cases e:c=true
 rotate_left
 . rw[if_neg e];exact wpAny_pure (q _ sb1 st1.2)
 rw[if_pos e];have pr:=relayAll_perm t2 es1 (SetTable.grown es1.size)
 have sz:(relayAll t2 es1 (SetTable.grown es1.size)).1.size=es1.size:=by simpa using pr.length_eq
 have ur:=pe (t:=t2) es1 (SetTable.grown es1.size);have st2:=jX (knd:=knd) (S':=S') st1.1 hex rfl (el.perm pr) (fun k=>by rw[mm k];exact exists_congr fun e=>and_congr_left fun _=>pr.mem_iff.symm) (by rw[sz];exact hb) (relayAll_fits t2 es1 (SetTable.grown es1.size)) ur.1 (ur.2.trans hl);rw[sz] at st2
 have on:wpAny (model prog w) A (storeSet a (relayAll t2 es1 (SetTable.grown es1.size)).1 (relayAll t2 es1 (SetTable.grown es1.size)).2.1 >>= fun _=>pure (some true)) R E { s with heap:=s.heap.update a (Obj.putSet es1 t2) } :=
   wpAny_bind (wpAny_storeSet_of st1.1 rfl (wpAny_pure (q _ (sb1.trans (Heap.SameBut.update _ a _)) st2.2)) (fits_of_scanBound (by rw[sz];exact hb)))
 rcases hgave (relayAll t2 es1 (SetTable.grown es1.size)).2.2 with ⟨r,e⟩ | e
 . rw[e];exact wpAny_bind (wpAny_rule on)
 . rw[e];exact wpAny_bind (wpAny_pure on)
theorem wv {a:Addr}{S:K→Bool}{n:Nat}{k:K}{x:Value}{led:Bool}{Q:Bool→Shared→Prop}(hk:knd.is k x=true)(hx:x.scannable=true)(hS:cX knd led s.heap a S n)(room:n+1 < scanBound)
   (q:∀ h',Heap.SameBut a s.heap h'→cX knd led h' a (fun y=>S y||decide (y=k)) (if S k then n else n+1)→Q (!S k) { s with heap:=h' }):wpAny (model prog w) A (setAddHashed a x (knd.hash k)) Q E s:=by
 have hS0:=hS;obtain⟨o,es,ep,t,ho,hex,hd,el,mm,hb,hf,rfl,hu,hl⟩:=hS;unfold setAddHashed setAddHashedIn setAddByScan;refine wpAny_holding (wpAny_bind (wpAny_setState_of ho hd hf ?_));dsimp only;rw[if_pos (byScan_of hx hb el)];refine wpAny_bind (wpAny_bind (wpAny_rule (wpAny_bind (wpAny_setScan_of hk ho hd hf el ?_))))
 cases hr:List.findIdx? (fun e=>knd.is k e.2) es.toList with
 | none =>
   have no:S k=false:=by
     refine Bool.eq_false_iff.mpr fun yes=>?_;obtain⟨e,he,ie⟩:=(mm k).mp yes;exact absurd ie (Bool.eq_false_iff.mp (List.findIdx?_eq_none_iff.mp hr e he))
   have pr:List.Perm (layNew t es (knd.hash k) x).1.toList (es.toList++[(knd.hash k,x)]):=by rw[←Array.toList_push];exact layNew_perm t es (knd.hash k) x
   have fi:=layNew_fits t es (knd.hash k) x;have up:=sG (t:=t) es (knd.hash k) x hu
   have sz:(layNew t es (knd.hash k) x).1.size=es.size+1:=by simpa using pr.length_eq
   generalize layNew t es (knd.hash k) x=L at pr fi up sz ⊢;obtain⟨es1,t1,wd,gv⟩:=L;dsimp only at pr fi up sz ⊢
   have fin:∀ h',Heap.SameBut a s.heap h'→cX knd led h' a (fun y=>S y||decide (y=k)) es1.size→Q true { s with heap:=h' }:=fun h' sb st=>by
     rw[sz] at st;have:=q h' sb;rw[no] at this;exact this st
   cases gv<;>cases e:t1.plain
   . refine wpAny_bind (wpAny_pure ?_);rw[if_neg Bool.false_ne_true];refine wpAny_bind (wpAny_pure ?_);refine dX (led:=led) (fun c=>by cases c;exact .inr rfl;exact .inl ⟨_,rfl⟩) ho hex hd ((el.push hk hx).perm pr) (mem_push_iff hk mm pr) (by rw[sz];exact room) (by first | exact fi | (split;exact fi;exact SetTable.fits_plain_off fi)) (by first | exact up.1 | (split<;>exact up.1)) (by first | exact up.2.trans hl | (split<;>exact up.2.trans hl)) fun h' sb st=>wpAny_pure (fin h' sb st)
   . refine wpAny_bind (wpAny_pure ?_);rw[if_pos rfl,hashByValue_scannable 8 hx];refine wpAny_bind (wpAny_pure ?_);refine dX (led:=led) (fun c=>by cases c;exact .inr rfl;exact .inl ⟨_,rfl⟩) ho hex hd ((el.push hk hx).perm pr) (mem_push_iff hk mm pr) (by rw[sz];exact room) (by first | exact fi | (split;exact fi;exact SetTable.fits_plain_off fi)) (by first | exact up.1 | (split<;>exact up.1)) (by first | exact up.2.trans hl | (split<;>exact up.2.trans hl)) fun h' sb st=>wpAny_pure (fin h' sb st)
   . refine wpAny_bind (wpAny_rule ?_);rw[if_neg Bool.false_ne_true];refine wpAny_bind (wpAny_pure ?_);refine dX (led:=led) (fun c=>by cases c;exact .inr rfl;exact .inl ⟨_,rfl⟩) ho hex hd ((el.push hk hx).perm pr) (mem_push_iff hk mm pr) (by rw[sz];exact room) (by first | exact fi | (split;exact fi;exact SetTable.fits_plain_off fi)) (by first | exact up.1 | (split<;>exact up.1)) (by first | exact up.2.trans hl | (split<;>exact up.2.trans hl)) fun h' sb st=>wpAny_pure (fin h' sb st)
   . refine wpAny_bind (wpAny_rule ?_);rw[if_pos rfl,hashByValue_scannable 8 hx];refine wpAny_bind (wpAny_pure ?_);refine dX (led:=led) (fun c=>by cases c;exact .inr rfl;exact .inl ⟨_,rfl⟩) ho hex hd ((el.push hk hx).perm pr) (mem_push_iff hk mm pr) (by rw[sz];exact room) (by first | exact fi | (split;exact fi;exact SetTable.fits_plain_off fi)) (by first | exact up.1 | (split<;>exact up.1)) (by first | exact up.2.trans hl | (split<;>exact up.2.trans hl)) fun h' sb st=>wpAny_pure (fin h' sb st)
 | some j =>
   obtain⟨hj,ij,_⟩:=List.findIdx?_eq_some_iff_getElem.mp hr;have yes:S k=true:=(mm k).mpr ⟨_,A4 hj,ij⟩;refine wpAny_pure (wpAny_pure ?_);have:=q s.heap (Heap.SameBut.refl a s.heap);rw[yes] at this;refine this (hS0.congr (fun y=>?_) rfl);by_cases hy:y=k
   . subst hy;rw[yes];rfl
   . simp[hy]
end
section
variable {K:Type} [DecidableEq K]
def iz (acc:List K)(x:K):List K:=if x∈acc then acc else acc++[x]
def dM (l:List K):List K:=l.foldl iz []
theorem lj (l:List K)(x:K):dM (l++[x])=iz (dM l) x:=by unfold dM;rw[Ct];rfl
theorem ut (acc:List K)(x:K):(iz acc x).length≤acc.length+1:=by unfold iz;split<;>simp
theorem eN (l:List K):∀ i,(dM (l.take i)).length≤i
 | 0=>by simp[dM]
 | i+1=>by
   have ih:=eN l i
   cases h:l[i]? with
   | none =>
     have:l.length≤i:=List.getElem?_eq_none_iff.mp h;rw[AQ (by omega)];rw[AQ this] at ih;omega
   | some x =>
     rw[BI,h];show(dM (l.take i++[x])).length≤i+1;rw[lj];have:=ut (dM (l.take i)) x;omega
theorem nJ (l:List K):(dM l).length≤l.length:=by
 have:=eN l l.length
 rwa [AR] at this
theorem pY (l:List K):(dM l).Nodup:=by
 suffices ∀ (l acc:List K),acc.Nodup→(l.foldl iz acc).Nodup from this l [] .nil
 intro l
 induction l with
 | nil=>exact fun _ h=>h
 | cons x l ih =>
   intro acc h;refine ih _ ?_;unfold iz
   split
   . exact h
   . rename_i hx;exact List.nodup_append.mpr ⟨h,by simp,fun a ha b hb=>by rw[List.mem_singleton.mp hb];exact fun e=>hx (e▸ha)⟩
theorem vj (l:List K)(x:K):x∈dM l↔x∈l:=by
 suffices ∀ (l acc:List K),x∈l.foldl iz acc↔x∈acc∨x∈l by have:=this l [];simpa [dM] using this
 intro l
 induction l with
 | nil=>intro acc;simp
 | cons y l ih =>
   intro acc;rw[BQ,ih];unfold iz;by_cases hy:y∈acc
   . rw[if_pos hy];constructor
     . rintro(h | h)
       . exact .inl h
       . exact .inr (.tail _ h)
     . rintro(h | h)
       . exact .inl h
       . rcases List.mem_cons.mp h with rfl | h
         . exact .inl hy
         . exact .inr h
   . rw[if_neg hy,List.mem_append,List.mem_singleton,AV];constructor
     . rintro((h | h) | h)
       . exact .inl h
       . exact .inr (.inl h)
       . exact .inr (.inr h)
     . rintro(h | h | h)
       . exact .inl (.inl h)
       . exact .inl (.inr h)
       . exact .inr h
def me {prog:Program}{w:World}(knd:KeyKind prog w K)(items:Array Value)(ks:List K):Prop:=items.size=ks.length∧∀ (i:Nat)(k:K),ks[i]?=some k→∃ v,items[i]?=some v∧knd.is k v=true∧v.scannable=true
end
section
variable {prog:Program}{w:World}{K:Type} [DecidableEq K]{knd:KeyKind prog w K}{led:Bool}
theorem sD {h:Heap}{S:Addr}{acc:List K}{x:K}(hs:cX knd led h S (fun k=>decide (k∈acc)||decide (k=x)) (if decide (x∈acc)=true then acc.length else acc.length+1)) :
   cX knd led h S (fun k=>decide (k∈iz acc x)) (iz acc x).length:=by
 refine cX.congr hs (fun k=>?_) ?_
 . unfold iz;by_cases hx:x∈acc
   . rw[if_pos hx];by_cases hk:k=x
     . subst hk;simp[hx]
     . simp[hk]
   . rw[if_neg hx];rw[Bool.eq_iff_iff];simp
 . unfold iz;by_cases hx:x∈acc
   . rw[if_pos hx,if_pos (by simpa using hx)]
   . rw[if_neg hx,if_neg (by simpa using hx),zY];rfl
theorem tF {A:Around}{R:Result→Shared→Prop}{I S l:Addr}{items:Array Value}{ss:List K}(hh:A.in1.handled=none)(hIl:l≠I)(hSI:S≠I)(hSl:S≠l)(hss:me knd items ss)(hb:items.size+1 < scanBound) :
   ∀ (k i:Nat)(s:Shared),items.size - i=k→i≤items.size→s.heap.IsListIter I l i→s.heap.IsList l items→cX knd led s.heap S (fun x=>decide (x∈dM (ss.take i))) (dM (ss.take i)).length →
     (∀ h' tk,(∀ b o,b≠S→b≠I→s.heap.get? b=some o→h'.get? b=some o)→cX knd led h' S (fun x=>decide (x∈dM ss)) (dM ss).length→R (.ok (.ret .none)) { s with heap:=h',toks:=tk }) →
     codeAny (model prog w) A (.builtin "set.update.loop" ⟨[.ref S,.ref I],[]⟩) R s:=by
 have hlen:items.size=ss.length:=hss.1;intro k
 induction k with
 | zero =>
   intro i s hk hi hit hl hS hR
   have e:i=items.size:=by omega
   subst e;refine codeAny_builtin PyProof.Rows.F.entry_set_update_loop ?_;rw[Around.under_plainId PyProof.Rows.F.plain_set_update_loop _];refine wpAny_bind (wpAny_pyNext_list_end hh hit hl (by simp) fun h' eb=>?_);rw[hlen,AR] at hS;refine wpAny_pure (hR h' s.toks (fun b o _ hb e=>eb b o hb e) ?_);obtain⟨o,es,ep,t,ho,cO⟩:=hS;exact⟨o,es,ep,t,eb S o hSI ho,cO⟩
 | succ k ih =>
   intro i s hk hi hit hl hS hR
   have hlt:i < items.size:=by omega
   obtain⟨x,hx⟩:∃ x,ss[i]?=some x:=⟨ss[i]'(by omega),zW (by omega)⟩;obtain⟨v,ht,hv,hsc⟩:=hss.2 i x hx;refine codeAny_builtin PyProof.Rows.F.entry_set_update_loop ?_;rw[Around.under_plainId PyProof.Rows.F.plain_set_update_loop _];refine wpAny_bind (wpAny_pyNext_list_item hit hl ht fun h' hit' sb=>?_)
   have hS':cX knd led h' S (fun x=>decide (x∈dM (ss.take i))) (dM (ss.take i)).length:=by
     obtain⟨o,es,ep,tb,ho,cO⟩:=hS;exact⟨o,es,ep,tb,(sb.2 S hSI).trans ho,cO⟩
   show wpAny _ A.in1 (holding [v] (setAdd S (v)) >>= _) _ _ _;refine wpAny_bind (wpAny_holding ?_);unfold setAdd;refine wpAny_holding (wpAny_bind (knd.pyHash (k:=x) hv ?_))
   have hroom:(dM (ss.take i)).length+1 < scanBound:=by have:=eN ss i;omega
   refine wv (knd:=knd) hv hsc hS' hroom fun h2 hsb hS2=>?_;have hS3:=sD hS2
   have et:dM (ss.take (i+1))=iz (dM (ss.take i)) x:=by rw[BI,hx];exact lj _ _
   rw[←et] at hS3;refine wpAny_pure ⟨plainId_quiet PyProof.Rows.F.plain_set_update_loop _,ih (i+1) _ (by omega) hlt ?_ ?_ hS3 fun h3 tk kk hS4=>?_⟩
   . exact hit'.at fun o e=>(hsb.2 I (Ne.symm hSI)).trans e
   . exact hl.at fun o e=>(hsb.2 l (Ne.symm hSl)).trans ((sb.2 l hIl).trans e)
   . exact hR h3 tk (fun b o h1 h2' e=>kk b o h1 h2' ((hsb.2 b h1).trans ((sb.2 b h2').trans e))) hS4
end
def eF (w:World):Bool:=!w.params.followText "set-order"
section
variable {prog:Program}{w:World}{A:Around}{E:Value→Shared→Prop}{s:Shared}
theorem jh (a:Value){G:Value→Shared→Prop}(g:G (.ref s.heap.objs.size) { s with heap:=s.heap.push { cls:=.type "set",dict:=none,data:=.set #[] 0 (.fresh 0 0 (eF w)) } }) :
   codeAny (model prog w) A (.call (.builtin "set.__new__") ⟨[.type "set",a],[]⟩) (wants G E) s:=by
 have made:wpAny (model prog w) A.in1 (Builtin.«set.__new__» ⟨[.type "set",a],[]⟩) (fun fin s'=>match fin with | .done f=>wants G E (.ok f) s' | .again c=>c.quiet=true∧codeAny (model prog w) A.in1 c (wants G E) s') (fun e s'=>wants G E (.error e) s') s:=by
   have up:=sub_set_self;obtain⟨hp,gs,d,tk,os⟩:=s;unfold Builtin.«set.__new__» Builtin.Frozenset.newClass;dsimp only
   wp_walk
   refine wpAny_askSetting (wpAny_pure ?_);simp only[newObj];exact wpAny_bind (wpAny_alloc (wpAny_pure (wpAny_pure g)))
 refine codeAny_of_tree (wpAny_bind (wpAny_of_eq (F.newCall_set_1 a) (wpAny_pure ⟨plainId_quiet F.plain_set_new _,?_⟩)));refine codeAny_builtin F.entry_set_new ?_;rw[Around.under_plainId F.plain_set_new _];exact made
theorem sO {K:Type} [DecidableEq K]{knd:KeyKind prog w K}{l:Addr}{items:Array Value}{ss:List K}{Q:Value→Shared→Prop}(hh:A.handled=none)(hl:s.heap.IsList l items)(hss:me knd items ss)(hb:items.size+1 < scanBound)
   (h:∀ h' tk,(∀ b o,s.heap.get? b=some o→h'.get? b=some o)→cX knd (eF w) h' s.heap.objs.size (fun x=>decide (x∈dM ss)) (dM ss).length→Q (.ref s.heap.objs.size) { s with heap:=h',toks:=tk }) :
   wpAny (model prog w) A (call (.type "set") [.ref l]) Q E s:=by
 refine lU (Q1:=fun obj s1=>∃ led:Bool,led=eF w∧obj=.ref s.heap.objs.size∧s1={ s with heap:=s.heap.push { cls:=.type "set",dict:=none,data:=.set #[] 0 (.fresh 0 0 led) } }) F.called_set (F.typeCall_set_1 _) F.entry_set_init (jh (.ref l) ⟨eF w,rfl,rfl,rfl⟩) ?_ ?_
 . rintro obj s1 ⟨led,hled,rfl,rfl⟩;have hT:Shared.TypeIs { s with heap:=s.heap.push { cls:=.type "set",dict:=none,data:=.set #[] 0 (.fresh 0 0 led) } } (.ref s.heap.objs.size) "set":=⟨_,Heap.get?_push_size _ rfl,rfl⟩;exact⟨hT,fun E'=>check_set_init_1 hT rfl⟩
 . rintro obj s1 ⟨led,hled,rfl,rfl⟩
   have hlt:l < s.heap.objs.size:=by obtain⟨_,e,_⟩:=hl;exact Heap.lt_size e
   obtain⟨⟨oc,od,odt,osl⟩,hol,hcl,nl,hdl⟩:=id hl;simp only at hcl hdl;subst hcl;subst hdl;have hol':(s.heap.push { cls:=.type "set",dict:=none,data:=.set #[] 0 (.fresh 0 0 led) }).get? l=some { cls:=.type "list",dict:=od,data:=.seq items nl,slots:=osl }:=Heap.get?_push_of_some _ hol;have hS:(s.heap.push { cls:=.type "set",dict:=none,data:=.set #[] 0 (.fresh 0 0 led) }).get? s.heap.objs.size=some { cls:=.type "set",dict:=none,data:=.set #[] 0 (.fresh 0 0 led) }:=Heap.get?_push_size _ rfl;have hl1:(s.heap.push { cls:=.type "set",dict:=none,data:=.set #[] 0 (.fresh 0 0 led) }).IsList l items:=⟨_,hol',rfl,nl,rfl⟩;have hsls:=F.sub_list_set;have hslf:=F.sub_list_frozenset
   have hne:(Value.type "list"==Value.type "dict")=false:=by decide
   unfold Builtin.«set.__init__» noKeywords Builtin.Frozenset.updateFrom;generalize hPI:pyIter=PI
   wp_walk
   subst hPI;refine wpAny_pyIter_list hl1 (wpAny_bind (wpAny_runValue ?_));have hz:(s.heap.push { cls:=.type "set",dict:=none,data:=.set #[] 0 (.fresh 0 0 led) }).objs.size=s.heap.objs.size+1:=Heap.size_push ..;refine tF (knd:=knd) (led:=led) (l:=l) (items:=items) (ss:=ss) (by simp[hh]) (by rw[hz];exact Ak (Bh hlt)) (by rw[hz];exact Ak (BA _)) (BX hlt) hss hb (items.size - 0) 0 _ (by omega) (AN _) ⟨_,Heap.get?_push_size _ rfl,rfl,rfl⟩ (hl1.push _) ?_ ?_
   . exact⟨_,#[],0,_,Heap.get?_push_of_some _ hS,⟨rfl,rfl,rfl⟩,rfl,fun e he=>by simp at he,fun k=>by simp[dM],by decide,by rfl,rfl,List.Pairwise.nil,rfl⟩
   . intro h' tk kk hS';subst hled;refine wpAny_pure (wpAny_pure ⟨rfl,h h' tk (fun b o e=>?_) hS'⟩);have hlb:=Heap.lt_size e;exact kk b o (Ak hlb) (by rw[hz];exact Ak (Bh hlb)) (Heap.get?_push_of_some _ (Heap.get?_push_of_some _ e))
end
theorem br:Slot "set_iterator" "__next__" "set_iterator.__next__" :=
 .of (owner:="set_iterator") (n:="__next__") (by rw[typeLookup_type,builtinLookup_eq_fast];kernel_rfl) (by decide) (by decide) (by decide)
   (by first | exact .inl (by decide) | exact .inr (by decide)) (by rw[isSubtype_type];kernel_rfl)
theorem gP:Slot "set_iterator" "__iter__" "set_iterator.__iter__" :=
 .of (owner:="set_iterator") (n:="__iter__") (by rw[typeLookup_type,builtinLookup_eq_fast];kernel_rfl) (by decide) (by decide) (by decide)
   (by first | exact .inl (by decide) | exact .inr (by decide)) (by rw[isSubtype_type];kernel_rfl)
theorem dE:entryFor table "set_iterator.__next__"=some Builtin.«set_iterator.__next__»:=entryFor_of_tree (by kernel_rfl)
theorem kX:entryFor table "set_iterator.__iter__"=some Builtin.«dict_keyiterator.__iter__» :=
 entryFor_alias (id':="dict_keyiterator.__iter__") (by kernel_rfl) rfl (by decide) (by kernel_rfl)
theorem gW:entryFor table "set.__iter__"=some Builtin.«frozenset.__iter__» :=
 entryFor_alias (id':="frozenset.__iter__") (by kernel_rfl) rfl (by decide) (by kernel_rfl)
theorem nN:Manifest.owners.lookup (String.ofList ['r','o','t','a','r','e','t','i','_','t','e','s'].reverse)=some Manifest.sig_set_iterator:=by kernel_rfl
theorem dQ (a:Value):argsOk "set_iterator.__next__" ⟨[a],[]⟩:=by
 unfold argsOk;rw[signature?_of (id:="set_iterator.__next__") (n:=['_','_','t','x','e','n','_','_']) (o:=['r','o','t','a','r','e','t','i','_','t','e','s']) (by kernel_rfl) nN];kernel_rfl
theorem mz (a:Value):argsOk "set_iterator.__iter__" ⟨[a],[]⟩:=by
 unfold argsOk;rw[signature?_of (id:="set_iterator.__iter__") (n:=['_','_','r','e','t','i','_','_']) (o:=['r','o','t','a','r','e','t','i','_','t','e','s']) (by kernel_rfl) nN];kernel_rfl
theorem gH {α:Type}:∀ (l:List α) (i:Nat)(h:i < l.length),(l[i]::l.eraseIdx i).Perm l
 | x::l,0,h=>List.Perm.refl _
 | x::l,i+1,h=>by
   show(l[i]'(by simpa using h)::x::l.eraseIdx i).Perm (x::l);exact(List.Perm.swap x _ _).trans ((gH l i (by simpa using h)).cons x)
theorem sd {α:Type}(next:Nat→Nat):∀ (fuel k:Nat)(left:List α)(out:Array α),left.length=fuel→(pickOrder.go next fuel k left out).toList.Perm (out.toList++left)
 | 0,k,left,out,h=>by
   have e:left=[]:=List.length_eq_zero_iff.mp h;subst e;show out.toList.Perm _;rw[A2]
 | fuel+1,k,left,out,h=>by
   have hlt:next k % left.length < left.length:=Nat.mod_lt _ (by omega);show(match left[next k % left.length]? with | some x=>pickOrder.go next fuel (k+1) (left.eraseIdx (next k % left.length)) (out.push x) | none=>out).toList.Perm _;rw[zW hlt];dsimp only;refine(sd next fuel (k+1) _ _ (by rw[List.length_eraseIdx_of_lt hlt];omega)).trans ?_;rw[Array.toList_push,Bv];exact List.Perm.append_left _ (gH _ _ hlt)
theorem k9 {α:Type}(next:Nat→Nat)(xs:Array α):(pickOrder next xs).toList.Perm xs.toList:=by
 have:=sd next xs.size 0 xs.toList #[] (by simp)
 simpa [pickOrder] using this
section
variable {prog:Program}{w:World}{A:Around}{E:Value→Shared→Prop}{s:Shared}
theorem kZ {M:Model}{src:Source}{n:Nat}(hn:n≠0){Q:Nat→Shared→Prop}(h:∀ i d,i < n→Q i { s with drawn:=d }):wpAny M A (choose src n) Q E s:=by
 intro Γ p hΓ;show Sem.wp M Γ (.choose src n .pure) _ _ p s;rw[Sem.wp_choose];exact⟨hn,h _ _ (Nat.mod_lt _ (by omega))⟩
theorem fw {M:Model}{α:Type}:∀ (n:Nat)(xs:List α)(s:Shared)(Q:List α→Shared→Prop),xs.length=n→(∀ ys d,ys.Perm xs→Q ys { s with drawn:=d })→wpAny M A (drawOrder n xs) Q E s
 | 0,xs,s,Q,h,q=>by
   have e:xs=[]:=List.length_eq_zero_iff.mp h;subst e;exact wpAny_pure (q [] s.drawn (List.Perm.refl _))
 | n+1,[],s,Q,h,q=>by cases h
 | n+1,x::xs,s,Q,h,q=>by
   show wpAny M A (choose .order (x::xs).length >>= fun i=>match (x::xs)[i]? with | some y=>(do return y::(←drawOrder n ((x::xs).eraseIdx i))) | none=>unsupported "internal:drawOrder") Q E s;refine wpAny_bind (kZ (by simp) fun i d hi=>?_);rw[zW hi];dsimp only;refine wpAny_bind (fw n _ _ _ (by rw[List.length_eraseIdx_of_lt hi];omega) fun ys d' hp=>?_);exact wpAny_pure (q _ d' ((hp.cons _).trans (gH _ _ hi)))
end
def iI (h:Heap)(I:Addr) (first:Value) (i:Nat)(a:Addr) (n ep:Nat):Prop:=∃ o,h.get? I=some o∧o.cls=.type "set_iterator"∧o.data=.fields #[first,.int i 0,.ref a,.int n 0,.int ep 0]
theorem iI.typeIs {s:Shared}{I:Addr}{f:Value}{i:Nat}{a:Addr}{n ep:Nat}(x:iI s.heap I f i a n ep):s.TypeIs (.ref I) "set_iterator":=let ⟨o,ho,hc,_⟩:=x;⟨o,ho,hc⟩
theorem iI.at_ {h h':Heap}{I:Addr}{f:Value}{i:Nat}{a:Addr}{n ep:Nat}(x:iI h I f i a n ep)(e:∀ o,h.get? I=some o→h'.get? I=some o):iI h' I f i a n ep:=let ⟨o,ho,r⟩:=x;⟨o,e _ ho,r⟩
section
variable {prog:Program}{w:World}{A:Around}{E:Value→Shared→Prop}{s:Shared}{I a:Addr}{n ep k:Nat}{oS:Obj}{es:Array (Int×Value)}{t:SetTable}
theorem rP {f:Value}{i:Nat}{Q:Value→Shared→Prop}(hit:iI s.heap I f i a n ep)(h:Q (.ref I) s):wpAny (model prog w) A (pyIter (.ref I)) Q E s:=by
 refine wpAny_pyIter_slot hit.typeIs gP (wpAny_call_entry gP hit.typeIs kX ?_ (mz _));show wpAny _ _ (ret (.ref I)) _ _ s;exact wpAny_pure ⟨_,rfl, "set_iterator",_,hit.typeIs,br.lookup,h⟩
theorem lX {sl sl':Nat}{x:Value}{Q:Option Value→Shared→Prop}(hit:iI s.heap I (.int sl 0) k a n ep)(ho:s.heap.get? a=some oS)(hd:oS.data=.set es ep t)(hf:t.fits es.size=true)(hn:es.size=n)
   (hN:∀ (A:Around)(E:Value→Shared→Prop)(Q:Option (Value×Nat)→Shared→Prop),Q (some (x,sl')) s→wpAny (model prog w) A (setNext a sl k ep) Q E s)
   (hQ:∀ h',iI h' I (.int sl' 0) (k+1) a n ep→Heap.SameBut I s.heap h'→Q (some x) { s with heap:=h' }) :
   wpAny (model prog w) A (pyNext (.ref I)) Q E s:=by
 obtain⟨o,hoI,hc,hdI⟩:=id hit;unfold pyNext
 refine wpAny_bind (wpAny_attempt (wpAny_callSpecial?_slot (name:=zV "__next__") hit.typeIs br
   (wpAny_call_entry br hit.typeIs dE ?_ (dQ _))))
 show wpAny _ _ (fieldsOf (.ref I) >>= _) _ _ s;refine wpAny_bind (wpAny_fieldsOf hoI hdI ?_);show wpAny _ _ (setEntries a >>= _) _ _ s;refine wpAny_bind (wpAny_setEntries_of ho hd hf ?_);rw[if_neg (by rw[hn];simp)];show wpAny _ _ (setNext a (Bl (sl:Int)) (Bl (k:Int)) (Bl (ep:Int)) >>= _) _ _ s;simp only[AG];refine wpAny_bind (hN _ _ _ ?_);dsimp only;refine wpAny_bind (wpAny_setField hoI hdI (by simp) ?_);have ho1:=Heap.get?_update_self (Obj.mapFields (·.setIfInBounds 0 (rawInt (sl':Int)))) hoI (Obj.isFreed_of_fields (Obj.data_mapFields hdI _));refine wpAny_bind (wpAny_setField ho1 (Obj.data_mapFields hdI _) (by simp) ?_);refine wpAny_pure ⟨x,rfl,wpAny_pure (hQ _ ?_ ((Heap.SameBut.update ..).trans (Heap.SameBut.update ..)))⟩
 exact⟨_,Heap.get?_update_self _ ho1 (Obj.isFreed_of_fields (Obj.data_mapFields (Obj.data_mapFields hdI _) _)),(Obj.cls_mapFields ..).trans ((Obj.cls_mapFields ..).trans hc),by
   rw[Obj.data_mapFields (Obj.data_mapFields hdI _)];simp[rawInt]⟩
theorem nV {sl:Nat}{Q:Option Value→Shared→Prop}(hh:A.handled=none)(hit:iI s.heap I (.int sl 0) k a n ep)(ho:s.heap.get? a=some oS)(hd:oS.data=.set es ep t)(hf:t.fits es.size=true)(hn:es.size=n)
   (hN:∀ (A:Around)(E:Value→Shared→Prop)(Q:Option (Value×Nat)→Shared→Prop),Q none s→wpAny (model prog w) A (setNext a sl k ep) Q E s)
   (hQ:∀ h',Heap.ExtBut I s.heap h'→Q none { s with heap:=h' }) :
   wpAny (model prog w) A (pyNext (.ref I)) Q E s:=by
 obtain⟨o,hoI,hc,hdI⟩:=id hit;unfold pyNext
 refine wpAny_bind (wpAny_attempt (wpAny_callSpecial?_slot (name:=zV "__next__") hit.typeIs br
   (wpAny_call_entry br hit.typeIs dE ?_ (dQ _))))
 show wpAny _ _ (fieldsOf (.ref I) >>= _) _ _ s;refine wpAny_bind (wpAny_fieldsOf hoI hdI ?_);show wpAny _ _ (setEntries a >>= _) _ _ s;refine wpAny_bind (wpAny_setEntries_of ho hd hf ?_);rw[if_neg (by rw[hn];simp)];show wpAny _ _ (setNext a (Bl (sl:Int)) (Bl (k:Int)) (Bl (ep:Int)) >>= _) _ _ s;simp only[AG];refine wpAny_bind (hN _ _ _ ?_);dsimp only;refine wpAny_bind (wpAny_setField hoI hdI (by simp) ?_);show wpAny _ _ (newExc (.type "StopIteration") [] >>= _) _ _ _;refine wpAny_bind ?_;simp only[newExc,newTuple];refine wpAny_bind (wpAny_newObj_type ?_ (by size_fits));refine wpAny_bind (m:=firstArgMember _ _) (wpAny_of_eq (a:=Value.none) (by first | rfl | (simp only[firstArgMember];rfl)) ?_);refine wpAny_newObj_type ?_ (by size_fits);simp only[raiseNew];refine wpAny_bind (wpAny_handled ?_);rw[show A.in1.handled=none from hh];refine wpAny_bind (wpAny_pure (wpAny_throw ?_));refine wpAny_bind (wpAny_isInstance (T:="StopIteration") (b:=true) ⟨_,Heap.get?_push_size _ rfl,rfl⟩ isSubtype_stop ?_);exact wpAny_pure (hQ _ (((Heap.SameBut.update ..).extBut.push _).push _))
theorem ox {T:Addr}{ps:Array Value}{j:Nat}{x:Value}{hx:Int}{oT:Obj}{nT:Nat}{Q:Option Value→Shared→Prop}(hit:iI s.heap I (.ref T) k a n ep)(hT:s.heap.get? T=some oT)(hdT:oT.data=.seq ps nT)
   (ho:s.heap.get? a=some oS)(hd:oS.data=.set es ep t)(hf:t.fits es.size=true)(hn:es.size=n)(hp:ps[k]?=some (rawInt (j:Int)))(he:es[j]?=some (hx,x))
   (hQ:∀ h',iI h' I (.ref T) (k+1) a n ep→Heap.SameBut I s.heap h'→Q (some x) { s with heap:=h' }) :
   wpAny (model prog w) A (pyNext (.ref I)) Q E s:=by
 obtain⟨o,hoI,hc,hdI⟩:=id hit;unfold pyNext
 refine wpAny_bind (wpAny_attempt (wpAny_callSpecial?_slot (name:=zV "__next__") hit.typeIs br
   (wpAny_call_entry br hit.typeIs dE ?_ (dQ _))))
 show wpAny _ _ (fieldsOf (.ref I) >>= _) _ _ s;refine wpAny_bind (wpAny_fieldsOf hoI hdI ?_);show wpAny _ _ (setEntries a >>= _) _ _ s;refine wpAny_bind (wpAny_setEntries_of ho hd hf ?_);rw[if_neg (by rw[hn];simp)];show wpAny _ _ (seqItems? (.ref T) >>= _) _ _ s;refine wpAny_bind (wpAny_seqItems hT hdT ?_);simp only[AG,hp,rawInt];unfold setNextDrawn;refine wpAny_bind (wpAny_bind (wpAny_setState_of ho hd hf ?_));simp only[bne_self_eq_false,Bool.false_eq_true,↓reduceIte,he];refine wpAny_bind (wpAny_pure ?_);refine wpAny_pure ?_;refine wpAny_bind (wpAny_setField hoI hdI (by simp) ?_);refine wpAny_pure ⟨x,rfl,wpAny_pure (hQ _ ?_ (Heap.SameBut.update ..))⟩
 exact⟨_,Heap.get?_update_self _ hoI (Obj.isFreed_of_fields (Obj.data_mapFields hdI _)),(Obj.cls_mapFields ..).trans hc,by
   rw[Obj.data_mapFields hdI];simp[rawInt]⟩
theorem pK {T:Addr}{ps:Array Value}{oT:Obj}{nT:Nat}{Q:Option Value→Shared→Prop}(hh:A.handled=none)(hit:iI s.heap I (.ref T) k a n ep)(hT:s.heap.get? T=some oT)(hdT:oT.data=.seq ps nT)
   (ho:s.heap.get? a=some oS)(hd:oS.data=.set es ep t)(hf:t.fits es.size=true)(hn:es.size=n)(hp:ps[k]?=none)
   (hQ:∀ h',Heap.ExtBut I s.heap h'→Q none { s with heap:=h' }) :
   wpAny (model prog w) A (pyNext (.ref I)) Q E s:=by
 obtain⟨o,hoI,hc,hdI⟩:=id hit;unfold pyNext
 refine wpAny_bind (wpAny_attempt (wpAny_callSpecial?_slot (name:=zV "__next__") hit.typeIs br
   (wpAny_call_entry br hit.typeIs dE ?_ (dQ _))))
 show wpAny _ _ (fieldsOf (.ref I) >>= _) _ _ s;refine wpAny_bind (wpAny_fieldsOf hoI hdI ?_);show wpAny _ _ (setEntries a >>= _) _ _ s;refine wpAny_bind (wpAny_setEntries_of ho hd hf ?_);rw[if_neg (by rw[hn];simp)];show wpAny _ _ (seqItems? (.ref T) >>= _) _ _ s;refine wpAny_bind (wpAny_seqItems hT hdT ?_);simp only[AG,hp];refine wpAny_bind (wpAny_setField hoI hdI (by simp) ?_);have ho1:=Heap.get?_update_self (Obj.mapFields (·.setIfInBounds 0 (rawInt 0))) hoI (Obj.isFreed_of_fields (Obj.data_mapFields hdI _));refine wpAny_bind (wpAny_setField ho1 (Obj.data_mapFields hdI _) (by simp) ?_);show wpAny _ _ (newExc (.type "StopIteration") [] >>= _) _ _ _;refine wpAny_bind ?_;simp only[newExc,newTuple];refine wpAny_bind (wpAny_newObj_type ?_ (by size_fits));refine wpAny_bind (m:=firstArgMember _ _) (wpAny_of_eq (a:=Value.none) (by first | rfl | (simp only[firstArgMember];rfl)) ?_);refine wpAny_newObj_type ?_ (by size_fits);simp only[raiseNew];refine wpAny_bind (wpAny_handled ?_);rw[show A.in1.handled=none from hh];refine wpAny_bind (wpAny_pure (wpAny_throw ?_));refine wpAny_bind (wpAny_isInstance (T:="StopIteration") (b:=true) ⟨_,Heap.get?_push_size _ rfl,rfl⟩ isSubtype_stop ?_);exact wpAny_pure (hQ _ ((((Heap.SameBut.update ..).trans (Heap.SameBut.update ..)).extBut.push _).push _))
end
theorem gw {K:Type} [DecidableEq K]:∀ (L ks:List K),L.Nodup→(∀ x∈L,x∈ks)→ks.length≤L.length→ks.Perm L
 | [],ks,_,_,h=>by
   have e:ks=[]:=List.length_eq_zero_iff.mp (by simpa using h);rw[e]
 | x::L,ks,hn,hs,h=>by
   have hx:x∈ks:=hs x (.head _);have hp:=List.perm_cons_erase hx;refine hp.trans (List.Perm.cons x (gw L _ (List.nodup_cons.mp hn).2 (fun y hy=>?_) ?_))
   . exact(B9 (fun e=>(List.nodup_cons.mp hn).1 (by rw[←e];exact hy))).mpr (hs y (.tail _ hy))
   . rw[BO hx];simp only[AK] at h;omega
section
variable {prog:Program}{w:World}{A:Around}{E:Value→Shared→Prop}{s:Shared}{I a:Addr}{n ep k:Nat}{oS:Obj}{es:Array (Int×Value)}{t:SetTable}
theorem mM (hw:eF w=false)(ho:s.heap.get? a=some oS)(hd:oS.data=.set es ep t)(hf:t.fits es.size=true){sl:Nat}{Q:Option (Value×Nat)→Shared→Prop}
   (h:Q (((pickOrder (w.params.setOrder a ep) es)[k]?).map fun e=>(e.2,sl)) s):wpAny (model prog w) A (setNext a sl k ep) Q E s:=by
 have hb:w.params.followText "set-order"=true:=by unfold eF at hw;simpa using hw
 unfold setNext setsByText;refine wpAny_bind (wpAny_setState_of ho hd hf ?_);refine wpAny_bind (wpAny_bind (wpAny_askSetting (wpAny_pure ?_)));show wpAny _ _ (if w.params.followText "set-order"=true then _ else _) _ _ s;rw[if_pos hb];simp only[bne_self_eq_false,Bool.false_eq_true,↓reduceIte];unfold setWalk setsByText;refine wpAny_bind (wpAny_bind (wpAny_setState_of ho hd hf ?_));refine wpAny_bind (wpAny_bind (wpAny_askSetting (wpAny_pure ?_)));show wpAny _ _ (if w.params.followText "set-order"=true then _ else _) _ _ s;rw[if_pos hb];refine wpAny_bind (wpAny_askSetting (wpAny_pure ?_));exact wpAny_pure h
theorem n0 (hw:eF w=true)(hl:t.led=true)(hnd:(!t.plain&&decide (es.size > 1))=false)(ho:s.heap.get? a=some oS)(hd:oS.data=.set es ep t)(hf:t.fits es.size=true){sl:Nat}{Q:Option (Value×Nat)→Shared→Prop}
   (h:Q (match es[SetTable.below t.place sl]?,t.place[SetTable.below t.place sl]? with | some (_,x),some j=>some (x,j+1) | _,_=>none) s):wpAny (model prog w) A (setNext a sl k ep) Q E s:=by
 have hb:w.params.followText "set-order"=false:=by unfold eF at hw;simpa using hw
 unfold setNext setsByText;refine wpAny_bind (wpAny_setState_of ho hd hf ?_);refine wpAny_bind (wpAny_bind (wpAny_askSetting (wpAny_pure ?_)));show wpAny _ _ (if w.params.followText "set-order"=true then _ else _) _ _ s;rw[if_neg (by rw[hb];exact Bool.false_ne_true)];show wpAny _ _ (if(!t.plain&&decide (es.size > 1))=true then _ else _) _ _ s;rw[if_neg (by rw[hnd];exact Bool.false_ne_true)];show wpAny _ _ ((if(!t.led&&!es.isEmpty)=true then unsupported "set:maker-not-led" else pure ()) >>= _) _ _ s;rw[if_neg (by rw[hl];simp)];refine wpAny_bind (wpAny_pure ?_);exact wpAny_pure h
def SIt (I a:Addr)(oS:Obj)(f:Nat→Value) (n ep:Nat) (i:Nat)(h:Heap):Prop:=iI h I (f i) i a n ep∧h.get? a=some oS
theorem kF (hh:A.handled=none)(hne:a≠I)(hd:oS.data=.set es ep t)(hf:t.fits es.size=true)(hn:es.size=n)(sl:Nat→Nat)(vs:List Value)(hv:vs.length=n)
   (hN:∀ (k:Nat)(s:Shared)(A:Around)(E:Value→Shared→Prop)(Q:Option (Value×Nat)→Shared→Prop),k≤n→s.heap.get? a=some oS→Q ((vs[k]?).map fun v=>(v,sl (k+1))) s→wpAny (model prog w) A (setNext a (sl k) k ep) Q E s) :
   Walks prog w A I [I,a] [I] n (fun k v=>vs[k]?=some v) (SIt I a oS (fun i=>.int (sl i) 0) n ep) where
 sub:=fun b hb=>by simp at hb;simp[hb]
 frame:=fun i h h' st hk=>⟨st.1.at_ fun o e=>hk I (by simp) o e,hk a (by simp) _ st.2⟩
 item:=fun i s Q E hi st hQ=>by
   have hx:vs[i]?=some (vs[i]'(by omega)):=zW (by omega);refine lX st.1 st.2 hd hf hn (sl':=sl (i+1)) (x:=vs[i]'(by omega)) (fun A E Q q=>hN i s A E Q (by omega) st.2 (by rw[hx];exact q)) fun h' hit' sb=>?_;exact hQ _ h' s.toks hx ⟨hit',(sb.2 a hne).trans st.2⟩ fun b o hb e=>(sb.2 b (fun h=>hb (by simp[h]))).trans e
 done:=fun s Q E st hQ=>by
   have hx:vs[n]?=none:=List.getElem?_eq_none_iff.mpr (by omega);exact nV hh st.1 st.2 hd hf hn (fun A E Q q=>hN n s A E Q (z7 _) st.2 (by rw[hx];exact q)) fun h' eb=>hQ h' s.toks fun b o hb e=>eb b o (fun h=>hb (by simp[h])) e
 self:=fun _ _ _ _ st hQ=>rP st.1 hQ
theorem tZ {T:Addr}{oT:Obj}{nT:Nat}{ps:List Nat}(hh:A.handled=none)(hne:a≠I)(hTne:T≠I)(hd:oS.data=.set es ep t)(hf:t.fits es.size=true)(hn:es.size=n)(hdT:oT.data=.seq (ps.map fun(i:Nat)=>rawInt i).toArray nT)(hp:ps.length=n)(hlt:∀ p∈ps,p < n) :
   Walks prog w A I [I,a,T] [I] n (fun k v=>(ps.filterMap fun p=>(es[p]?).map (·.2))[k]?=some v) (fun i h=>SIt I a oS (fun _=>.ref T) n ep i h∧h.get? T=some oT) where
 sub:=fun b hb=>by simp at hb;simp[hb]
 frame:=fun i h h' st hk=>⟨⟨st.1.1.at_ fun o e=>hk I (by simp) o e,hk a (by simp) _ st.1.2⟩,hk T (by simp) _ st.2⟩
 item:=fun i s Q E hi st hQ=>by
   obtain⟨p,hx⟩:∃ p,ps[i]?=some p:=⟨_,zW (by omega)⟩
   have hj:p < es.size:=by rw[hn];exact hlt _ (z6 hx)
   obtain⟨e,he⟩:∃ e,es[p]?=some e:=⟨_,Al hj⟩;obtain⟨e1,e2⟩:=e
   have hfm:∀ (l:List Nat),(∀ p∈l,p < es.size)→∀ (k p:Nat),l[k]?=some p→(l.filterMap fun p=>(es[p]?).map (·.2))[k]?=(es[p]?).map (·.2):=by
     intro l
     induction l with
     | nil=>intro _ k p h;cases h
     | cons q l ih =>
       intro hl k p h;obtain⟨eq,hq⟩:∃ e,es[q]?=some e:=⟨_,Al (hl q (.head _))⟩;rw[List.filterMap_cons_some (b:=eq.2) (by rw[hq];rfl)]
       cases k with
       | zero=>cases h;rw[hq];rfl
       | succ k=>exact ih (fun p hp=>hl p (.tail _ hp)) k p h
   refine ox st.1.1 st.2 hdT st.1.2 hd hf hn (j:=p) (by simp[hx]) he fun h' hit' sb=>?_;refine hQ _ h' s.toks ?_ ⟨⟨hit',(sb.2 a hne).trans st.1.2⟩,(sb.2 T hTne).trans st.2⟩ fun b o hb e=>(sb.2 b (fun h=>hb (by simp[h]))).trans e;rw[hfm ps (fun p hp=>by rw[hn];exact hlt p hp) i _ hx,he];rfl
 done:=fun s Q E st hQ=>by
   refine pK hh st.1.1 st.2 hdT st.1.2 hd hf hn ?_ fun h' eb=>hQ h' s.toks fun b o hb e=>eb b o (fun h=>hb (by simp[h])) e;simp[hp]
 self:=fun _ _ _ _ st hQ=>rP st.1.1 hQ
end
end L2
namespace L2
open PySem PySem.Spec PyProof.Rows PySem.W
section
variable {prog:Program}{w:World}{A:Around}{E:Value→Shared→Prop}{s:Shared}{a:Addr}{n:Nat}{K:Type} [DecidableEq K]{knd:KeyKind prog w K}{S:K→Bool}
def kW (knd:KeyKind prog w K)(S:K→Bool) (n:Nat)(vs:List Value):Prop:=vs.length=n∧(∀ v∈vs,∃ k,knd.is k v=true∧S k=true)∧∀ k,S k=true→∃ v∈vs,knd.is k v=true
theorem kW.perm {vs vs':List Value}(d:kW knd S n vs)(p:vs'.Perm vs):kW knd S n vs' :=
 ⟨p.length_eq.trans d.1,fun v hv=>d.2.1 v (p.mem_iff.mp hv),fun k hk=>let ⟨v,hv,e⟩:=d.2.2 k hk;⟨v,p.mem_iff.mpr hv,e⟩⟩
theorem vt (hh:A.handled=none)(hS:cX knd (eF w) s.heap a S n){Q:Value→Shared→Prop}
   (h:∀ (I:Addr)(h':Heap) d (St:Nat→Heap→Prop)(vs:List Value)(fp:List Addr),s.heap.objs.size≤I→(∀ b o,s.heap.get? b=some o→h'.get? b=some o)→(∀ b∈fp,b=a∨s.heap.objs.size≤b)→Walks prog w A I fp [I] n (fun k v=>vs[k]?=some v) St→St 0 h' →
     kW knd S n vs→Q (.ref I) { s with heap:=h',drawn:=d }):wpAny (model prog w) A (pyIter (.ref a)) Q E s:=by
 obtain⟨oS,es,ep,t,ho,hex,hd,hel,hmem,hb,hf,hn,hup,hled⟩:=hS;have hT:s.TypeIs (.ref a) "set":=⟨oS,ho,hex.1⟩;have hlt:=Heap.lt_size ho
 have hdr:kW knd S n (es.toList.map (·.2)):=by
   refine⟨by rw[be,AI];exact hn,fun v hv=>?_,fun k hk=>?_⟩
   . obtain⟨e,he,rfl⟩:=List.mem_map.mp hv;obtain⟨⟨k,hk,_⟩,_⟩:=hel e he;exact⟨k,hk,(hmem k).mpr ⟨e,he,hk⟩⟩
   . obtain⟨e,he,hk'⟩:=(hmem k).mp hk;exact⟨e.2,List.mem_map.mpr ⟨e,he,rfl⟩,hk'⟩
 refine wpAny_pyIter_slot hT F.slot_set_iter (wpAny_call_entry F.slot_set_iter hT gW ?_ (F.args_set_iter_1 _));unfold Builtin.«frozenset.__iter__»;refine wpAny_bind (wpAny_pure ?_);unfold Builtin.Frozenset.sizeOf;refine wpAny_bind (wpAny_bind (wpAny_setEntries_of ho hd hf (wpAny_pure ?_)));unfold setDrawn setsByText;refine wpAny_bind (wpAny_bind (wpAny_setState_of ho hd hf ?_));refine wpAny_bind (wpAny_bind (wpAny_askSetting (wpAny_pure ?_)));refine wpAny_pure ?_;show wpAny _ _ (if(!(w.params.followText "set-order")&&(!t.plain&&decide (es.size > 1)))=true then _ else _) _ _ s;by_cases hdw:(!(w.params.followText "set-order")&&(!t.plain&&decide (es.size > 1)))=true
 . rw[if_pos hdw];refine wpAny_bind (fw _ _ _ _ (by simp) fun ps d hp=>?_);refine wpAny_bind (wpAny_newTuple ?_ (by rw[be,hp.length_eq,Ba];exact fits_of_scanBound hb));refine wpAny_bind (wpAny_setEpoch_of (o:=oS) (Heap.get?_push_of_some _ ho) hd hf ?_);refine wpAny_bind (wpAny_newObj_type ?_)
   have hps:ps.length=n:=by rw[hp.length_eq,Ba];exact hn
   refine wpAny_pure ⟨_,rfl, "set_iterator",_,⟨_,Heap.get?_push_size _ rfl,rfl⟩,br.lookup,?_⟩;have hz1:(s.heap.push { cls:=.type "tuple",data:=.seq (ps.map fun(i:Nat)=>rawInt i).toArray }).objs.size=s.heap.objs.size+1:=Heap.size_push ..
   refine h _ _ d (fun i h=>SIt _ a oS (fun _=>.ref s.heap.objs.size) n ep i h∧h.get? s.heap.objs.size=some _) _ _ (by rw[hz1];omega) (fun b o e=>Heap.get?_push_of_some _ (Heap.get?_push_of_some _ e)) ?_
     (tZ (oT:={ cls:=.type "tuple",data:=.seq (ps.map fun(i:Nat)=>rawInt i).toArray }) hh (by rw[hz1];exact Ak (Bh hlt)) (by rw[hz1];exact Ak (BA _)) hd hf hn rfl hps (fun p hp'=>by have:=List.mem_range.mp (hp.mem_iff.mp hp');omega)) ?_ ?_
   . intro b hb;simp only[AV,AM,or_false] at hb
     rcases hb with rfl | rfl | rfl
     . exact .inr (by rw[hz1];omega)
     . exact .inl rfl
     . exact .inr (z7 _)
   . refine⟨⟨⟨_,Heap.get?_push_size _ rfl,rfl,?_⟩,Heap.get?_push_of_some _ (Heap.get?_push_of_some _ ho)⟩,Heap.get?_push_of_some _ (Heap.get?_push_size _ rfl)⟩;simp[rawInt,hn]
   . refine hdr.perm ?_;have:=(hp.filterMap fun p=>(es[p]?).map (·.2));refine this.trans ?_
     have e:(Ab es.size).filterMap (fun p=>(es[p]?).map (·.2))=es.toList.map (·.2):=by
       rw[←filterMap_getElem?_range es,List.map_filterMap]
     rw[e]
 . rw[if_neg hdw];refine wpAny_bind (wpAny_pure ?_);refine wpAny_bind (wpAny_setEpoch_of (o:=oS) ho hd hf ?_);refine wpAny_bind (wpAny_newObj_type ?_);refine wpAny_pure ⟨_,rfl, "set_iterator",_,⟨_,Heap.get?_push_size _ rfl,rfl⟩,br.lookup,?_⟩
   have hfp:∀ b∈[s.heap.objs.size,a],b=a∨s.heap.objs.size≤b:=fun b hb=>by
     simp only[AV,AM,or_false] at hb
     rcases hb with rfl | rfl
     . exact .inr (z7 _)
     . exact .inl rfl
   cases hw:eF w with
   | false =>
     refine h _ _ s.drawn (SIt _ a oS (fun i=>.int ((fun _=>0:Nat→Nat) i) 0) n ep) _ _ (z7 _) (fun b o e=>Heap.get?_push_of_some _ e) hfp
       (kF hh (Ak hlt) hd hf hn (fun _=>0) ((pickOrder (w.params.setOrder a ep) es).toList.map (·.2)) (by rw[be,(k9 _ es).length_eq,AI];exact hn) fun k s A E Q _ ho' q=>mM hw ho' hd hf (by simpa [zX,Option.map_map,Function.comp_def] using q)) ?_ (hdr.perm ((k9 _ es).map _))
     exact⟨⟨_,Heap.get?_push_size _ rfl,rfl,by simp[rawInt,hn]⟩,Heap.get?_push_of_some _ ho⟩
   | true =>
     have hb':w.params.followText "set-order"=false:=by unfold eF at hw;simpa using hw
     have hnd:(!t.plain&&decide (es.size > 1))=false:=by rw[hb'] at hdw;simpa using hdw
     have hps:t.place.size=n:=by simp only[SetTable.fits,Bool.and_eq_true,beq_iff_eq] at hf;omega
     have hbel:∀ k,k≤n→SetTable.below t.place (if k=0 then 0 else t.place.getD (k - 1) 0+1)=k:=by
       intro k hk;generalize hsl:(if k=0 then 0 else t.place.getD (k - 1) 0+1)=sl;obtain⟨b1,b2,b3⟩:=nG hup sl;refine Nat.le_antisymm (Cy fun hlt=>?_) (Cy fun hlt=>?_)
       . have:=b2 k hlt;by_cases h0:k=0
         . rw[if_pos h0] at hsl;omega
         . rw[if_neg h0] at hsl;have:=hup.lt (i:=k - 1) (k:=k) (by omega) (by omega);omega
       . by_cases h0:k=0
         . omega
         . rw[if_neg h0] at hsl;have:=b3 (k - 1) (by omega) (by omega);omega
     refine h _ _ s.drawn (SIt _ a oS (fun i=>.int ((fun k=>if k=0 then 0 else t.place.getD (k - 1) 0+1:Nat→Nat) i) 0) n ep) _ _ (z7 _) (fun b o e=>Heap.get?_push_of_some _ e) hfp
       (kF hh (Ak hlt) hd hf hn (fun k=>if k=0 then 0 else t.place.getD (k - 1) 0+1) (es.toList.map (·.2)) (by rw[be,AI];exact hn) fun k s A E Q hk ho' q=>n0 hw (hled.trans hw) hnd ho' hd hf (by
         rw[hbel k hk];by_cases hkn:k < n
         . obtain⟨e,he⟩:∃ e,es[k]?=some e:=⟨_,Al (by omega)⟩;obtain⟨p,hp⟩:∃ p,t.place[k]?=some p:=⟨_,Al (by omega)⟩;rw[he,hp]
           have e1:(es.toList.map (·.2))[k]?=some e.2:=by rw[zX,Be,he];rfl
           rw[e1] at q;simp only[BR,Nat.add_sub_cancel,Nat.succ_ne_zero,Nat.add_eq_zero_iff,Nat.one_ne_zero,and_false,↓reduceIte,AJ,hp,BM] at q;exact q
         . have e0:es[k]?=none:=Array.getElem?_eq_none_iff.mpr (by omega);rw[e0]
           have e1:(es.toList.map (·.2))[k]?=none:=by rw[zX,Be,e0];rfl
           rw[e1] at q
           exact q)) ?_ hdr
     exact⟨⟨_,Heap.get?_push_size _ rfl,rfl,by simp[rawInt,hn]⟩,Heap.get?_push_of_some _ ho⟩
end
theorem kP:typeLookup (.type "set") "__len__"=pure (some (.builtin "set.__len__")):=by rw[typeLookup_type,builtinLookup_eq_fast];kernel_rfl
section
variable {prog:Program}{w:World}{A:Around}{E:Value→Shared→Prop}{s:Shared}{a:Addr}{n:Nat}{K:Type} [DecidableEq K]{knd:KeyKind prog w K}{S:K→Bool}
theorem wy {r:Addr}{Q:Bool→Shared→Prop}(hT:s.TypeIs (.ref r) "set")(h:Q false s):wpAny (model prog w) A (Builtin.List.listLengthHint (.ref r)) Q E s:=by
 unfold Builtin.List.listLengthHint;refine wpAny_bind (wpAny_specialOf hT kP ?_);generalize hid:("set.__len__":String)=id0
 wp_delta
 rw[show splitId id0=some ("set", "__len__") from by subst hid;decide];subst hid;refine wpAny_bind (wpAny_isInstance (T:="set") (b:=true) hT (by rw[isSubtype_type];kernel_rfl) ?_);refine wpAny_ite_split (fun hab=>absurd hab (by decide)) (fun _=>?_);refine wpAny_ite_split (fun _=>?_) (fun hab=>absurd (by decide) hab);refine wpAny_bind (wpAny_typeOf hT ?_);exact wpAny_pure h
theorem cX.typeIs {led:Bool}(x:cX knd led s.heap a S n):s.TypeIs (.ref a) "set":=let ⟨o,_,_,_,ho,hex,_⟩:=x;⟨o,ho,hex.1⟩
theorem cX.lt {led:Bool}{h:Heap}(x:cX knd led h a S n):a < h.objs.size:=let ⟨o,_,_,_,ho,_⟩:=x;Heap.lt_size ho
theorem cX.bound {led:Bool}{h:Heap}(x:cX knd led h a S n):n≤sizeLine:=let ⟨_,_,_,_,_,_,_,_,_,hb,_,hn,_⟩:=x;by rw[←hn];exact fits_of_scanBound hb
theorem tu {R:Result→Shared→Prop}(hh:A.handled=none)(hS:cX knd (eF w) s.heap a S n)(D:Addr)(hDa:D≠a) (res:Value) (c₀:Nat)(hD:s.heap.get? D=some { cls:=.type "list",data:=.seq #[] c₀ })
   (hR:∀ h' tk d acc' c',(∀ b o,b≠D→s.heap.get? b=some o→h'.get? b=some o)→h'.get? D=some { cls:=.type "list",dict:=none,data:=.seq acc' c',slots:=#[] }→kW knd S n acc'.toList→R (.ok (.ret res)) { s with heap:=h',toks:=tk,drawn:=d }) :
   wpAny (model prog w) A.in1 (Builtin.List.listExtendWith (.ref D) (.ref a) res)
     (fun fin s'=>match fin with | .done f=>R (.ok f) s' | .again c'=>c'.quiet=true∧codeAny (model prog w) A c' R s') (fun e s'=>R (.error e) s') s:=by
 unfold Builtin.List.listExtendWith;refine wpAny_bind (wpAny_typeOf (T:="set") hS.typeIs ?_)
 have h1:Builtin.List.listSameRef (.ref D) (.ref a)=false:=by simp[Builtin.List.listSameRef,hDa]
 have h2:(Value.type "set"==Value.type "list")=false:=by decide
 have h3:(Value.type "set"==Value.type "tuple")=false:=by decide
 simp only[h1,h2,h3,Bool.or_false,Bool.false_eq_true,if_false];refine wpAny_bind (vt (A:=A.in1) (by exact hh) hS fun I h1 d St vs fp hI hk1 hfp W st hdr=>?_);have hDlt:=Heap.lt_size hD
 have hDf:D∉fp:=fun hm=>by
   rcases hfp D hm with e | e
   . exact hDa e
   . exact absurd hDlt (Nat.not_lt.mpr e)
 have key:∀ (h:Heap) (c₁ tk:Nat),St 0 h→(∀ b o,b≠D→s.heap.get? b=some o→h.get? b=some o) →
     h.get? D=some { cls:=.type "list",data:=.seq #[] c₁ }→codeAny (model prog w) A (.builtin "list.extend.loop" ⟨[.ref D,.ref I,res],[]⟩) R { s with heap:=h,toks:=tk,drawn:=d }:=by
   intro h c₁ tk hst hk hD₁;refine codeAny_extend_loopS W.toS hS.bound D hDf res n 0 _ #[] c₁ rfl (AN _) hst hD₁ (ItemsOf.nil _) fun s' acc' c' hm hD' hacc=>?_;rw[Moved.eq_with hm];refine hR s'.heap s'.toks d acc' c' (fun b o hb e=>hm.heap b o (fun hmem=>?_) (hk b o hb e)) hD' ?_
   . rcases List.mem_cons.mp hmem with e' | hmem
     . exact hb e'
     . exact absurd (Heap.lt_size e) (by rw[List.mem_singleton.mp hmem];exact Nat.not_lt.mpr hI)
   . have e:acc'.toList=vs:=by
       refine Cu fun i=>?_
       rcases Nat.lt_or_ge i n with hi | hi
       . have hi':i < acc'.size:=by rw[hacc.1];exact hi
         rw[Be,Al hi'];exact(hacc.2 i _ (Al hi')).symm
       . rw[List.getElem?_eq_none_iff.mpr (by rw[AI,hacc.1];exact hi),List.getElem?_eq_none_iff.mpr (by rw[hdr.1];exact hi)]
     rw[e];exact hdr
 have hD₁:=hk1 _ _ hD;refine wpAny_bind (wpAny_holding (wy (s:={ s with heap:=h1,drawn:=d }) (let ⟨o,ho,hc⟩:=hS.typeIs;⟨o,hk1 _ _ ho,hc⟩) ?_));refine wpAny_ite_split (fun _=>?_) (fun _=>wpAny_pure ⟨plainId_quiet PySem.F.plain_extend_loop _,key _ c₀ _ st (fun b o _ e=>hk1 b o e) hD₁⟩);refine wpAny_bind (wpAny_rule ?_);refine wpAny_bind ?_;show wpAny _ _ (updateSeq D (·.push .none) >>= fun _=>updateSeq D (·.pop)) _ _ _;refine wpAny_bind (wpAny_updateSeq hD₁ rfl ?_);have hD₂:=Heap.get?_update_self (Obj.mapSeq (·.push Value.none)) hD₁ rfl;refine wpAny_updateSeq (hz:=by seq_fits) hD₂ rfl ?_;have hD₃:=Heap.get?_update_self (Obj.mapSeq (·.pop)) hD₂ rfl;refine wpAny_pure ⟨plainId_quiet PySem.F.plain_extend_loop _,key _ _ _ ?_ (fun b o hb e=>?_) hD₃⟩
 . refine W.frame 0 _ _ st fun b hb o e=>?_;have hbD:b≠D:=fun h=>hDf (h▸hb);exact(Heap.get?_update_other _ _ (Ne.symm hbD)).trans ((Heap.get?_update_other _ _ (Ne.symm hbD)).trans e)
 . exact(Heap.get?_update_other _ _ (Ne.symm hb)).trans ((Heap.get?_update_other _ _ (Ne.symm hb)).trans (hk1 b o e))
theorem qr {R:List Value→Shared→Prop}(hh:A.handled=none)(hS:cX knd (eF w) s.heap a S n)
   (h:∀ (h':Heap) (tk:Nat) d (acc:Array Value),(∀ b o,s.heap.get? b=some o→h'.get? b=some o)→kW knd S n acc.toList→R acc.toList { s with heap:=h',toks:=tk,drawn:=d }) :
   wpAny (model prog w) A (collect (.ref a)) R E s:=by
 have hlt:=hS.lt;unfold collect;refine wpAny_bind (wpAny_runValue (codeAny_builtin entry_proto_collect' ?_));rw[Around.under_plainId PySem.F.plain_proto_collect _];show wpAny _ A.in1 (newList [] >>= fun l=>again (.builtin "list.__iadd__" ⟨[l,.ref a],[]⟩)) _ _ s;refine wpAny_bind (wpAny_newObj_type ?_);refine wpAny_pure ⟨plainId_quiet PySem.F.plain_list_iadd _,codeAny_builtin entry_list_iadd' ?_⟩;rw[Around.under_plainId PySem.F.plain_list_iadd _];have hS₁:(s.heap.push { cls:=.type "list",data:=.seq ([]:List Value).toArray }).get? s.heap.objs.size=some { cls:=.type "list",data:=.seq #[] }:=Heap.get?_push_size _ rfl;show wpAny _ A.in1 (Builtin.List.listExtendWith (.ref s.heap.objs.size) (.ref a) (.ref s.heap.objs.size)) _ _ _
 have key:=tu (A:=A) (s:={ s with heap:=s.heap.push { cls:=.type "list",data:=.seq ([]:List Value).toArray } })
   (R:=fun(q:Result)(s':Shared)=>∃ (h':Heap) (tk:Nat)(d:PySem.Drawn)(acc':Array Value) (c':Nat),q=.ok (.ret (.ref s.heap.objs.size))∧s'={ s with heap:=h',toks:=tk,drawn:=d } ∧
     (∀ b o,s.heap.get? b=some o→h'.get? b=some o)∧h'.get? s.heap.objs.size=some { cls:=.type "list",dict:=none,data:=.seq acc' c',slots:=#[] }∧kW knd S n acc'.toList)
   hh (hS.at_ fun o e=>Heap.get?_push_of_some _ e) s.heap.objs.size (BX hlt) (.ref s.heap.objs.size) 0 hS₁
   (fun h' tk d acc' c' hk hS' hacc=>⟨h',tk,d,acc',c',rfl,rfl,fun b o e=>hk b o (Ak (Heap.lt_size e)) (Heap.get?_push_of_some _ e),hS',hacc⟩)
 refine wpAny_mono key (fun fin s' x=>?_) fun e s' x=>?_
 . cases fin with
   | done f =>
     obtain⟨h',tk,d,acc',c',e,rfl,hk,hS',hacc⟩:=x;cases e;show wpAny _ A (load s.heap.objs.size >>= _) _ _ _;refine wpAny_bind (wpAny_load hS' ?_);exact wpAny_pure (h h' tk d acc' hk hacc)
   | again c₁ =>
     refine⟨x.1,codeAny_mono x.2 fun q s₂ y=>?_⟩;obtain⟨h',tk,d,acc',c',rfl,rfl,hk,hS',hacc⟩:=y;show wpAny _ A (load s.heap.objs.size >>= _) _ _ _;refine wpAny_bind (wpAny_load hS' ?_);exact wpAny_pure (h h' tk d acc' hk hacc)
 . obtain⟨_,_,_,_,_,e',_⟩:=x;cases e'
end
def yT (P:Program)(w:World)(p:Addr)(L:List Int):HO:=.ext fun h=>cX (PySem.intKind P w) (eF w) h p (fun k=>decide (k∈L)) L.length
theorem kW.keys {prog:Program}{w:World}{K:Type} [DecidableEq K]{knd:KeyKind prog w K}{L:List K}{vs:List Value}(hn:L.Nodup)(d:kW knd (fun k=>decide (k∈L)) L.length vs):∃ ks:List K,ks.Perm L∧ks.length=vs.length∧∀ (i:Nat) v,vs[i]?=some v→∃ k,ks[i]?=some k∧knd.is k v=true:=by
 obtain⟨d1,d2,d3⟩:=d
 have h:∀ us:List Value,(∀ v∈us,∃ k,knd.is k v=true∧k∈L)→∃ ks:List K,ks.length=us.length∧(∀ (i:Nat) (v:Value),us[i]?=some v→∃ k,ks[i]?=some k∧knd.is k v=true)∧∀ v∈us,∀ k,knd.is k v=true→k∈ks:=by
   intro us
   induction us with
   | nil=>exact fun _=>⟨[],rfl,(fun i v h=>by cases h),fun v hv=>by cases hv⟩
   | cons u us ih =>
     intro hu;obtain⟨k,hk,_⟩:=hu u (.head _);obtain⟨ks,h1,h2,h3⟩:=ih fun v hv=>hu v (.tail _ hv);refine⟨k::ks,by simp[h1],fun i v hv=>?_,fun v hv k' hk'=>?_⟩
     . cases i with
       | zero=>cases hv;exact⟨k,rfl,hk⟩
       | succ i=>exact h2 i v hv
     . rcases List.mem_cons.mp hv with rfl | hv
       . rw[knd.inj _ _ _ hk' hk];exact .head _
       . exact .tail _ (h3 v hv k' hk')
 obtain⟨ks,h1,h2,h3⟩:=h vs fun v hv=>let ⟨k,a,b⟩:=d2 v hv;⟨k,a,by simpa using b⟩
 refine⟨ks,gw L ks hn (fun x hx=>?_) (by omega),h1,h2⟩;obtain⟨v,hv,e⟩:=d3 x (by simpa using hx);exact h3 v hv x e
section
variable {X:Cx}
theorem sU (hc:X.calm=true):cw X (.type "set") (fun xs H Q=>∃ (a:Addr)(ss:List Int),xs=[.ref a]∧SqL X.K H a (ss.map V.int)∧ss.length≤1000∧∀ p,H p=none→Q (.ref p) (upd H p (yT X.prog X.w p (dM ss)))):=by
 intro pins s σ H xs us Q I r h;obtain⟨a,ss,rfl,ha,hn,q⟩:=h;obtain⟨u,rfl,ru⟩:=eA r;cases ru;obtain⟨its,rv,pl,_⟩:=I.list ha;have hl:=rv.length;rw[be] at hl
 have hk:me (PySem.intKind X.prog X.w) its.toArray ss:=by
   refine⟨by rw[Ah];omega,fun i k hi=>?_⟩;obtain⟨u,hu,t,rfl⟩:=rv.get (i:=i) (x:=V.int k) (by rw[zX,hi];rfl);exact⟨.int k t,by simpa using hu,intKind_is _ _ _ _,rfl⟩
 refine sO (I.ok.hd hc) pl.isList hk (by rw[Ah];unfold scanBound;omega) fun h' tk kk hS=>?_
 have he:∃ o,h'.get? s.heap.objs.size=some o:=by obtain⟨o,_,_,_,e,_⟩:=hS;exact⟨o,e⟩
 exact⟨.ref s.heap.objs.size,_,I.laid (o:=yT X.prog X.w s.heap.objs.size (dM ss)) kk (z7 _) ⟨hS,he,fun h1 h2 x k=>cX.at_ x k⟩,rfl,q _ (I.hok.fresh (z7 _))⟩
theorem Inv.drew {pins:List (Addr×Obj)}{σ:St}{H:Hp}{s:Shared}{d:PySem.Drawn}(I:Inv X pins σ H s):Inv X pins σ H { s with drawn:=d } :=
 ⟨I.ok,I.os,I.bare,I.base,I.loc,I.cell,I.free,I.freeC,I.pin,I.hok,I.len⟩
theorem ja:∀ {l:List Value}{ks:List Int},l.length=ks.length→(∀ (i:Nat) v,l[i]?=some v→∃ x t,ks[i]?=some x∧v=.int x t)→IntsAre l ks
 | [],[],_,_=>.nil
 | [],_::_,h,_=>by simp at h
 | _::_,[],h,_=>by simp at h
 | v::l,k::ks,h,hv=>by
   obtain⟨x,t,hx,e⟩:=hv 0 v rfl;simp at hx;subst hx e;exact .cons _ t (ja (by simpa using h) fun i u hu=>by simpa using hv (i+1) u (by simpa using hu))
theorem mW (hc:X.calm=true):cw X (.builtin "sorted") (fun xs H Q=>∃ (d:Addr)(L:List Int),xs=[.ref d]∧H d=some (yT X.prog X.w d L)∧L.Nodup∧L.length < 64∧∀ p (ss':List Int),H p=none→ss'.Perm L→ss'.Pairwise (·≤·)→Q (.ref p) (upd H p (.lst (ss'.map V.int)))):=by
 intro pins s σ H xs us Q I r h;obtain⟨d,L,rfl,hd,hnd,hn,q⟩:=h;obtain⟨u,rfl,ru⟩:=eA r;cases ru;obtain⟨hS,_⟩:=I.hok d _ hd;refine Calls.call_function_entry kind_sorted plain_sorted entry_sorted (args_sorted1 _) ?_;unfold Builtin.«sorted»;refine wpAny_bind (m:=checkCount "sorted" 1 1 _) (wpAny_pure ?_);refine wpAny_bind (qr (A:=X.A.in1) (I.ok.hd hc) hS fun h' tk d' acc kk hacc=>?_);obtain⟨ks,k1,k2,k3⟩:=hacc.keys hnd
 have hst:IntsAre acc.toList ks:=by
   refine ja k2.symm fun i v hv=>?_;obtain⟨k,hk,his⟩:=k3 i v hv;obtain⟨t,rfl⟩:=Value.isInt_shape his;exact⟨k,t,hk,rfl⟩
 have hal:acc.toList.length < 64:=by rw[←k2,k1.length_eq];exact hn
 refine wpAny_bind (wpAny_newList ?_ (by rw[sizeLine_eq];omega));have hoL:(h'.push (seqObj "list" acc.toList.toArray 0)).get? h'.objs.size=some (seqObj "list" acc.toList.toArray 0):=Heap.get?_push_size _ rfl;refine wpAny_bind (wpAny_holding (wpAny_call_entry slot_list_sort ⟨_,hoL,rfl⟩ entry_list_sort (list_sort_tree hoL hst (by omega) fun out ns' a1 a2 a3=>⟨_,rfl,?_⟩) (args_list_sort _)));have hp:=a2.length_eq;have I1:Inv X pins σ H { s with heap:=h',toks:=tk,drawn:=d' }:=(I.kept (t':=tk) kk).drew;obtain⟨e,he⟩:=sortedHeap_at (out:=out) hoL;refine wpAny_pure ⟨_,rfl,?_⟩;refine⟨.ref h'.objs.size,_,I1.laid (o:=.lst (ns'.map V.int)) (t':=tk) (fun b o x=>?_) (z7 _) ⟨by rw[be,sizeLine_eq];omega,_,e,iR a1,he⟩,rfl,q _ ns' (I1.hok.fresh (z7 _)) (a2.trans k1) a3⟩;have hlt:=Heap.lt_size x;rw[sortedHeap_old (Ak hlt) (by rw[Heap.size_push];exact Bh hlt)];exact Heap.get?_push_of_some _ x
end
end L2
namespace L2
open PySem PySem.Spec PyProof.Rows
section
variable {X:Cx}{N':List Str}{pk:List (Option Nat)}{scope:Scope}
theorem vq {i:Nat}{y:Str}{elt tg iter cnd:Expr}{wi:TI}{g:TG}{tc:TT}{te:TE}{pos spos py:Pos}(hN:X.N.Nodup)(hiy:X.N[i]?=some y)(hy:Loc X.env.scope y)(hc:X.calm=true)(B:bW X.N X.env scope N' pk)(hi:PI X tg iter wi)
   (hg:∀ s H ex,PG (cxB X N' scope s H ex) tg g)(ht:∀ s H ex,PT (cxB X N' scope s H ex) cnd tc)(he:∀ s H ex,PE (cxB X N' scope s H ex) elt te)
   (hsw:swapsWith (.ListComp elt [⟨tg,iter,[cnd],0⟩] scope pos) (some (.Name y py)) spos.line X.env=pure true:=by rfl)
   (hs:∀ x,foldedSetIterable iter X.env x=pure x:=by intro _;rfl)(hf:X.fn y=true∨X.env.scope.names.lookup y=some .local:=by first | exact .inl rfl | exact .inr rfl | assumption) :
   PS X (.Assign [.Name y py] (.ListComp elt [⟨tg,iter,[cnd],0⟩] scope pos) spos) (p8 (ma pk wi g tc te) (bB i)):=by
 intro pins s σ H D0 I h;rw[exec_Assign_Name_used _ _ _ _ hsw];refine wpAny_bind (wpAny_standAt (wpAny_bind ?_));show wpAny _ X.A (do let _ ←comprehension (.ListComp elt [⟨tg,iter,[cnd],0⟩] scope pos) scope X.env _ (newList []) false (eval iter X.env) (some (assign (.Name y py) X.env))) _ _ s
 refine wpAny_bind (wpAny_mono (wpAny_comprehension_free (use:=some (assign (.Name y py) X.env)) (Q:=fun _ s'=>SP X pins D0 .next s') rfl hs (fo (hU I B)) B.kind B.names
   (thn (hi s σ H _ I h) fun v s1 h1=>thn h1 fun itv s2 ⟨it,fp,tn,J,H2,e,I2,T,st2,f2,hW⟩=>?_)) (fun _ s' hq=>wpAny_pure (wpAny_pure hq)) fun _ _ e=>e)
 subst e;refine lc (QD:=fun D H'=>D0.nx (σ.set i (some (.ref D))) H') (RR:=fun acc C=>compPost (model X.prog X.w) X.A X.xe (some (assign (.Name y py) X.env)) (fun _ s'=>SP X pins D0 .next s') acc C) I2 B hc T st2 f2 hg ht he hW fun D C s' H' m I' f' hn q=>?_;refine wpAny_assign_Name (ip (v:=.ref D) I' hN hiy hy rfl (fun s3 I3 ⟨a,hsa,ha⟩=>?_) hf)
 have hCa:C≠a:=by
   rcases ha with z | z
   . exact z▸f'.2.1
   . exact fun e=>f'.2.2.2.2.1 _ _ z e.symm
 exact⟨m,hn.sameBut hsa hCa,fun h' hs'=>⟨_,H',I3.gone f' hs',q⟩⟩
end
section
variable {prog:Program}{w:World}{A:Around}{E:Value→Shared→Prop}{s:Shared}
end
section
variable {prog:Program}{w:World}{A:Around}{E:Value→Shared→Prop}{s:Shared}{z TI TO i1 i2 i3 l1 l2 l3:Addr}{k:Nat}{xs ys us:Array Value}{x y u a b c:Value}
end
section
variable {prog:Program}{w:World}{A:Around}{E:Value→Shared→Prop}{s:Shared}{z TI TO i1 i2 i3 l1 l2 l3:Addr}{k:Nat}{xs ys us:Array Value}{x y u a b c:Value}
end
def It3 (K:PySem.W.Frag)(a b c:Addr):It :=
 ⟨fun i H=>∃ xs x ys y us u,SqL K H a xs∧xs[i]?=some x∧SqL K H b ys∧ys[i]?=some y∧SqL K H c us∧us[i]?=some u,
   fun i H v H'=>∃ T x y u,H T=none∧v=.ref T∧H'=upd H T (.tup [x,y,u])∧(∀ xs,SqL K H a xs→xs[i]?=some x)∧(∀ ys,SqL K H b ys→ys[i]?=some y)∧∀ us,SqL K H c us→us[i]?=some u,
   fun i H=>∃ xs ys us,SqL K H a xs∧SqL K H b ys∧SqL K H c us∧xs.length≤i⟩
def xw (K:PySem.W.Frag)(ta:TA):TI:=fun σ H R=>ta σ H fun vs H1=>∃ a b c,vs=[.ref a,.ref b,.ref c]∧(∃ xs,SqL K H1 a xs)∧(∃ ys,SqL K H1 b ys)∧(∃ us,SqL K H1 c us)∧R (It3 K a b c) H1
section
variable {X:Cx}
end
def zx (K:PySem.W.Frag)(te:TE)(ts:TO):TE:=fun σ H Q=>te σ H fun x H1=>ts σ H1 fun st H2=>st=some (-1)∧∃ a xs,x=.ref a∧SqL K H2 a xs∧∀ p,H2 p=none→Q (.ref p) (upd H2 p (.lst xs.reverse))
section
variable {X:Cx}{te:TE}{ts:TO}{e ce:Expr}{p2 p3 pos:Pos}
end
end L2
namespace L2
open PySem
section
variable {X:Cx}
end
end L2
namespace DM
open PySem L2
def top (i:Nat):Stmt:=PySem.Challenge.pw_dipmaps_k30_no_day.main.body.getD i (.Pass ⟨0,0,0,0⟩)
abbrev qP:Stmt:=top 36
abbrev qJ:Stmt:=top 37
abbrev q8:Stmt:=bA (top 24) 0
abbrev mv:Stmt:=bA (top 24) 1
abbrev kf:Stmt:=bA (top 24) 2
abbrev mw:Stmt:=bA (top 24) 3
abbrev uC:Stmt:=bA (top 24) 4
abbrev pR:Stmt:=bA (top 24) 5
abbrev kH:Stmt:=bA (top 24) 6
abbrev pq:Stmt:=bA (top 24) 7
abbrev mh:Stmt:=bA (top 24) 8
abbrev mV:Stmt:=bA (top 24) 9
abbrev qp:Stmt:=bA (top 24) 10
abbrev jN:Stmt:=bA (top 24) 11
abbrev ky:Stmt:=bA (top 24) 12
abbrev pL:Stmt:=bA (top 24) 13
abbrev uz:Stmt:=top 23
abbrev qm:Stmt:=top 42
abbrev sNo:Stmt:=top 44
abbrev nj:Stmt:=top 47
abbrev uE:Stmt:=top 17
abbrev sAt:Stmt:=top 34
abbrev qi:Stmt:=top 35
abbrev ml:Stmt:=top 38
abbrev mY:Stmt:=top 39
abbrev qW:Stmt:=top 40
abbrev qX:Stmt:=top 41
abbrev yp:Stmt:=top 65
abbrev kA:Stmt:=top 43
abbrev sDo:Stmt:=top 45
abbrev pD:Stmt:=top 46
abbrev jt:Stmt:=top 28
abbrev ii:Stmt:=top 29
abbrev l7:Stmt:=top 30
abbrev jp:Stmt:=top 31
abbrev rW:Stmt:=bA (top 32) 0
abbrev jW:Stmt:=bA (top 32) 1
abbrev mX:Stmt:=bA (top 32) 2
abbrev ms:Stmt:=bA (top 32) 3
abbrev uA:Stmt:=bA (top 32) 4
abbrev iq:Stmt:=bA (top 32) 5
abbrev js:Stmt:=bA (top 32) 6
abbrev g9:Stmt:=bA (top 32) 7
abbrev jY:Stmt:=top 48
abbrev iG:Stmt:=top 49
abbrev iM:Stmt:=top 50
abbrev ke:Stmt:=top 51
abbrev io:Stmt:=top 52
abbrev mI:Stmt:=top 53
abbrev kD:Stmt:=top 54
abbrev gF:Stmt:=top 55
abbrev iE:Stmt:=top 56
abbrev yo:Stmt:=top 57
abbrev t9:Stmt:=top 58
abbrev uq:Stmt:=top 59
abbrev uS:Stmt:=top 60
abbrev vZ:Stmt:=top 61
abbrev ph:Stmt:=top 62
abbrev qS:Stmt:=top 63
abbrev qZ:Stmt:=top 64
set_option hygiene false in
local macro_rules | `(tactic| walk_at"")=>`(tactic| ((try dsimp only[lI,lw,rE,xK,vh,nD,tOp,k4,tCB,fH,tS,x0,tC,rI0,rI,gQ,qA,xh,p8,bB,v5,u0,tOr,xY,yt,tB,vX,zF,uO,tIf,yv,vP,su,rB,q9,tUn,rU,tSl,xU,l9,vD,rIn,xZ,qa,nh,mD,jE,wc,uL,pG,ui,qT,ma,vP,xJ,nu,uy,yR,vm,xP,wk,xI,xw,zx,xE,zC,ipI,yn,wa,xB,xW,bO,iO,yF,tBM,ye,wF,lh,xH,xG,rN,wr,uW,ue,kL,sg,um,fF,rEq,rNe,uB,uG,zI,vH,aF,aO,nY,List.map_cons,List.map_nil,List.length_cons,List.length_nil,List.cons_append,List.nil_append,Nat.sub_self,Nat.reduceSub,Nat.reduceAdd,List.replicate,List.getElem?_cons_zero,List.getElem?_cons_succ,List.getElem?_nil,Option.bind_some,Option.bind_none,id_eq,List.set_cons_zero,List.set_cons_succ,List.append_nil]);try simp only[lI,lw,rE,jC,da,re,xK,vh,nD,tOp,k4,tCB,fH,tS,x0,tC,rI0,rI,gQ,qA,xh,p8,bB,v5,u0,tOr,xY,yt,tB,vX,zF,uO,tIf,yv,vP,su,rB,q9,tUn,rU,tSl,xU,l9,vD,rIn,xZ,qa,nh,mD,jE,wc,uL,pG,ui,qT,ma,vP,xJ,nu,uy,yR,vm,xP,wk,xI,xw,zx,xE,zC,ipI,yn,wa,xB,xW,bO,iO,yF,tBM,ye,wF,lh,xH,xG,rN,wr,uW,ue,kL,sg,um,fF,rEq,rNe,uB,uG,zI,vH,aF,aO,nY,List.map_cons,List.map_nil,List.length_cons,List.length_nil,List.cons_append,List.nil_append,Nat.sub_self,Nat.reduceSub,Nat.reduceAdd,List.replicate,List.getElem?_cons_zero,List.getElem?_cons_succ,List.getElem?_nil,Option.bind_some,Option.bind_none,id_eq,Option.some.injEq,exists_eq_left',exists_eq_left,V.int.injEq,V.ref.injEq,V.str.injEq,V.bl.injEq,V.ty.injEq,List.cons.injEq,and_true,true_and,List.set_cons_zero,List.set_cons_succ,List.append_nil,exists_and_left,exists_and_right,and_assoc,exists_const,decide_eq_true_eq,Bool.not_eq_true',decide_eq_false_iff_not,if_true,if_false,Bool.false_eq_true]))
def bo:Str:="abcdefghijklmnopqrstuvwxyz"
def inS (z:Str):Bool:=!(Builtin.Str.occurrences bo z 0 bo.length 1).isEmpty
def inL (c:Nat):Bool:=inS ⟨#[c]⟩
def bc (z:Str):Bool:=(decide (1≤z.length)&&decide (z.length≤8))&&z.cps.toList.all inL
def atL (ns:List Int) (k:Int):Int:=if k < ns.length then ns.getD k.toNat 0 else 0
def t5 (K:PySem.W.Frag):Sp:=fun vs H Q _=>∃ (a:Addr)(ns:List Int) (k:Int),vs=[.ref a,.int k]∧SqL K H a (ns.map V.int)∧0≤k∧Q (.int (atL ns k)) H
def l4:Sp:=fun vs H Q _=>∃ z:Str,vs=[.str z]∧z.length≤1000∧∀ H',af H H'→Q (.bl (bc z)) H'
theorem dq {K:PySem.W.Frag}{H:Hp}{a:Addr}{ns:List Int}{k:Int}{Q:VK}{E:XK}(ha:SqL K H a (ns.map V.int))(h0:0≤k)(q:Q (.int (atL ns k)) H):t5 K [.ref a,.int k] H Q E:=⟨a,ns,k,rfl,ha,h0,q⟩
structure Txt (mg:Str→Option Value):Prop where
 len:mg "len"=none
 all:mg "all"=none
 range:mg "range"=none
 isi:mg "isinstance"=none
 list:mg "list"=none
 str:mg "str"=none
 sorted:mg "sorted"=none
 tuple:mg "tuple"=none
 dict:mg "dict"=none
 zip:mg "zip"=none
 set:mg "set"=none
 min:mg "min"=none
 int:mg "int"=none
 lett:∃ t,mg "LETTERS"=some (.str bo t)
 long:∃ t,mg "LONGEST"=some (.int 8 t)
theorem aL:(1000:Nat)≤sizeLine:=by rw[sizeLine_eq];decide
theorem cA {α:Type} (n:Nat)(l:List α)(f:Nat→V)(h:α→V)(hl:l.length=n)(e:∀ i x,l[i]?=some x→f i=h x):(Ab n).map f=l.map h:=by
 refine Cu fun i=>?_;rw[zX,zX];by_cases hi:i < n
 . rw[Cg hi,zW (by omega)];show some (f i)=some (h _);rw[e i _ (zW (by omega))]
 . rw[Br (by simpa using hi),Br (by omega)];rfl
section
variable {P:Program}{w:World}{K:PySem.W.Frag}{mg:Str→Option Value}{base:Heap}
theorem sM {N P:List Str}{sc:Scope}(h1:sc.kind=.function:=by rfl)(h2:sc.isCoroutine=false:=by rfl)(h3:sc.isGenerator=false:=by rfl)(h4:N.Nodup:=by decide)(h5:N.take P.length=P:=by rfl)(h6:∀ x∈P,sc.names.lookup x=some .local∨sc.names.lookup x=some .cell:=by decide)(h7:∀ y∈sc.names,y.2≠.free:=by decide):ax N P sc:=⟨h1,h2,h3,h4,h5,h6,h7⟩
theorem pI {X:Cx}{a b:Expr}{ta tb:TE}{pos:Pos}{r:R2}(hr:IxR X r)(ha:PE X a ta)(hb:PE X b tb)(hs:rf b:=by exact fun _ _=>rfl):PE X (.Subscript a b pos) (tOp r ta tb):=zJ hr ha hb hs
theorem pN {X:Cx} (i:Nat){x:Str}{pos:Pos}(hN:X.N.Nodup)(hi:X.N[i]?=some x:=by rfl)(hx:Loc X.env.scope x:=by exact Or.inl rfl)(hf:X.fn x=true∨X.env.scope.names.lookup x=some .local:=by first | exact .inl rfl | exact .inr rfl | assumption):PG X (.Name x pos) (bB i):=rG hN hi hx hf
theorem pS {X:Cx} (i:Nat){x:Str}{e:Expr}{te:TE}{pos pos':Pos}(hN:X.N.Nodup)(he:PE X e te)(hi:X.N[i]?=some x:=by rfl)(hx:Loc X.env.scope x:=by exact Or.inl rfl)(hs:swapsWith e (some (.Name x pos')) pos.line X.env=pure false:=by rfl)(hf:X.fn x=true∨X.env.scope.names.lookup x=some .local:=by first | exact .inl rfl | exact .inr rfl | assumption):PS X (.Assign [.Name x pos'] e pos) (p8 te (bB i)):=mo hN hi hx he hs hf
theorem zT:ax ["_law_script", "_law_k"] ["_law_script", "_law_k"] (ao sAt):=sM
theorem oq {P:Program}{w:World}{K:PySem.W.Frag}{mg:Str→Option Value}{base:Heap}{x qual:Str}{st:Stmt}{f:Addr}{fd:FuncData}{N ps:List Str}{k:Nat}{sp:Sp}(F:Fun K x qual st f fd)(S:ax N ps (ao st))(hbody:∀ (cdv:Value)(A:Around)(outer:List Env)(s:Shared)(H:Hp)(vs:List V)(Q:VK)(E:XK),cL k (A.deeper (CM qual (ao st) s.heap.objs.size f cdv))→sp vs H Q E→∃ t,PSs (eV CX0 P w K mg base N qual (ao st) f cdv A outer s H E).nox (dC st) t∧t { nx:=fun _ H'=>Q .non H',rt:=Q } (start N vs) H)(len:∀ vs H Q E,sp vs H Q E→vs.length=ps.length:=by intro vs H Q E h;repeat (first | (obtain⟨rfl,_⟩:=h;rfl) | obtain⟨_,h⟩:=h)):aU P w K mg base CX0 (k+1) f fd ps sp:=F.ok S len hbody
theorem za {f:Addr}{fd:FuncData}(F:Fun K "_law_at" "_law_at" sAt f fd)(T:Txt mg):aU P w K mg base CX0 1 f fd ["_law_script", "_law_k"] (t5 K):=by
 refine oq F zT fun cdv A outer s H vs Q E hr h=>?_;obtain⟨a,ns,k,rfl,ha,h0,q⟩:=h;refine⟨_,aN (aC (aq cW (pv 1) (al au (by rfl) T.len Ac (aa (pv 0) ae)) (aw _)) (ah (ap (pI ak (pv 0) (pv 1)))) am) (ah (ap ag)),?_⟩
 try dsimp only[aF,aO]
 walk_at"";refine⟨_,.inl ha,?_⟩;rw[be];unfold atL at q;refine aB (fun hk=>?_) (fun hk=>?_)
 . rw[if_pos hk] at q;refine⟨_,ha,_,?_,q⟩;obtain⟨j,rfl⟩:=Bj h0
   have hl:j < ns.length:=by omega
   refine bS ?_;rw[zX,zZ,AG,zW hl];rfl
 . rw[if_neg hk] at q;exact q
theorem yB:ax ["text"] ["text"] (ao uE):=sM
theorem wM {f:Addr}{fd:FuncData}(F:Fun K "good_name" "good_name" uE f fd)(T:Txt mg):aU P w K mg base CX0 1 f fd ["text"] l4:=by
 refine oq F yB fun cdv A outer s H vs Q E hr h=>?_;obtain⟨z,rfl,hz,q⟩:=h;obtain⟨tl,hlett⟩:=T.lett;obtain⟨tg,hlong⟩:=T.long
 refine⟨_,aN (aC (PW.pt (eE (aq cW (al dY (by rfl) T.len Ac (aa (pv 0) ae)) ag (aw _)) (dc (aq fE (al dY (by rfl) T.len Ac (aa (pv 0) ae)) (bi (v:=.int 8) rfl hlong ⟨_,rfl⟩) (aw _))))) (ah (ap cv)) am)
   (ah (ap (al (ud rfl) (by rfl) T.all (by decide) (aa (fe (N':=["sign"]) (pk:=[none]) rfl (bW.of (by rfl)) (uf (pv 0)) (fun s H ex=>pN 0 (by show(["sign"]:List Str).Nodup;decide)) (fun s H ex=>jw tM (pv 0) (bi (v:=.str bo) rfl hlett ⟨_,rfl⟩) (by with_unfolding_all rfl))) ae)))),?_⟩
 try dsimp only[aF,aO]
 have hsz:=aL;walk_at""
 have main:1≤z.length→z.length≤8→∀ (D:Addr),H D=none→ou (Itw z.cps.size fun i v=>∃ c,z.cps[i]?=some c∧v=V.str ⟨#[c]⟩) (bB 0)
       (tOp (fun x y H Q=>∃ i,x=V.str i∧∃ x,y=V.str x∧Q (V.bl !(Builtin.Str.occurrences x i 0 x.length 1).isEmpty) H) (k4 0) (tC (V.str bo)))
       D (fun H'=>∃ x,SqL K H' D (List.map V.bl x)∧Q (V.bl (x.all id)) H') [none] (upd H D (HO.lst [])):=fun h1 h8 D hD=>by
   have hsize:z.cps.size=z.length:=rfl;refine cG iY (by omega) hD (fun σ=>∃ o,σ=[o]) (fun i=>.bl (inL (z.cps.getD i 0))) ⟨none,rfl⟩ ?_ ?_
   . rintro i x σ' H' hi ⟨c,hc,rfl⟩ ⟨o,rfl⟩ hS R hR;walk_at""
     have e:inL (z.cps.getD i 0)=!(Builtin.Str.occurrences bo ⟨#[c]⟩ 0 bo.length 1).isEmpty:=by
       rw[AJ,hc];rfl
     rw[←e];exact hR _ ⟨_,rfl⟩
   . have e:(Ab z.cps.size).map (fun i=>V.bl (inL (z.cps.getD i 0)))=(z.cps.toList.map inL).map V.bl:=by
       rw[AH];refine cA _ z.cps.toList _ _ (by simp) fun i x hx=>?_
       have hx':z.cps[i]?=some x:=by simpa using hx
       rw[AJ,hx'];rfl
     rw[e];refine⟨z.cps.toList.map inL,SqL.of ac,?_⟩
     have e2:(z.cps.toList.map inL).all id=bc z:=by
       unfold bc;rw[CT,decide_eq_true h1,decide_eq_true h8];rfl
     rw[e2];exact q _ (af.updN hD)
 have f0:¬(1≤z.length∧z.length≤8)→bc z=false:=fun h=>by
   unfold bc;by_cases h1:1≤z.length
   . rw[decide_eq_false (p:=z.length≤8) (fun h8=>h ⟨h1,h8⟩)];simp
   . rw[decide_eq_false h1];simp
 refine⟨by omega,aB (fun h1=>?_) (fun h1=>⟨by omega,aB (fun h2=>?_) (fun h2=>main (by omega) (by omega))⟩)⟩
 . rw[←f0 (by omega)];exact q H (af.refl H)
 . rw[←f0 (by omega)];exact q H (af.refl H)
def dst (cell bound mixed:Int):Nat→Int×Int×List Int
 | 0=>(cell,(cell % 2147483647*48271+11) % 2147483647,[])
 | i+1=>((dst cell bound mixed i).1 / bound,((dst cell bound mixed i).2.1*69621+40014+i) % 2147483647,
     (dst cell bound mixed i).2.2++[if mixed=0 then(dst cell bound mixed i).1 % bound else((dst cell bound mixed i).2.1*69621+40014+i) % 2147483647 / 8 % bound])
def gB (cell bound mixed:Int) (n:Nat):List Int:=(dst cell bound mixed n).2.2
theorem eO (cell bound mixed:Int):∀ n,(gB cell bound mixed n).length=n
 | 0=>rfl
 | n+1=>by
   have ih:=eO cell bound mixed n;unfold gB at ih ⊢;show((dst cell bound mixed n).2.2++_).length=n+1;rw[zY,ih];rfl
theorem ix {cell bound mixed:Int}(hb:0 < bound):∀ n,∀ x∈gB cell bound mixed n,0≤x∧x < bound
 | 0,x,h=>by cases h
 | n+1,x,h=>by
   have h':x∈(dst cell bound mixed n).2.2++[if mixed=0 then(dst cell bound mixed n).1 % bound else((dst cell bound mixed n).2.1*69621+40014+n) % 2147483647 / 8 % bound]:=h
   rcases List.mem_append.mp h' with q | q
   . exact ix hb n x q
   . rw[List.mem_singleton.mp q]
     split
     . exact⟨AW _ (by omega),AU _ hb⟩
     . exact⟨AW _ (by omega),AU _ hb⟩
def jq:Sp:=fun vs H Q _=>∃ cell many bound mixed:Int,vs=[.int cell,.int many,.int bound,.int mixed]∧0≤many∧many≤1000∧0 < bound∧bound < 2 ^ 62∧(mixed=0∨mixed=1) ∧
 ∀ l H',H l=none→af H H'→H' l=some (.lst ((gB cell bound mixed many.toNat).map V.int))→Q (.ref l) H'
theorem fm:ax ["_law_cell", "_law_many", "_law_bound", "_law_mixed", "_law_drawn", "_law_rest", "_law_spun", "_law_k"] ["_law_cell", "_law_many", "_law_bound", "_law_mixed"] (ao qi):=sM
theorem vL {f:Addr}{fd:FuncData}(F:Fun K "_law_draws" "_law_draws" qi f fd)(T:Txt mg):aU P w K mg base CX0 1 f fd ["_law_cell", "_law_many", "_law_bound", "_law_mixed"] jq:=by
 refine oq F fm fun cdv A outer s H vs Q E hr h=>?_;obtain⟨cell,many,bound,mixed,rfl,hm0,hm1,hb0,hb1,hmix,q⟩:=h
 refine⟨_,aN (pS 4 fm.nd (ba ae))
   (aN (pS 5 fm.nd (pv 0))
   (aN (pS 6 fm.nd (aA a9 (aA bU (aA fY (aA a9 (pv 0) ag) ag) ag) ag))
   (aN (bq PassesOwn.never rfl (cb rfl T.range (aa (pv 1) ae)) (pN 7 fm.nd)
     (aN (pS 6 fm.nd (aA a9 (aA bU (aA bU (aA fY (pv 6) ag) ag) (pv 7)) ag))
     (aN (aM (eI Aw AE AF bN (pv 4) (aa (pI ak (ba (aa (aA a9 (pv 5) (pv 2)) (aa (aA a9 (aA d5 (pv 6) ag) (pv 2)) ae))) (pv 3)) ae)))
     (ah (pS 5 fm.nd (aA d5 (pv 5) (pv 2)))))))
   (ah (ap (pv 4)))))),?_⟩
 try dsimp only[aF,aO]
 have hs:=aL;walk_at"";refine⟨by omega,fun l hl=>⟨by omega,.inr ⟨by omega,by omega⟩,by omega,by omega,by omega,?_⟩⟩
 refine bn (H0:=H) bu (fun i σ H'=>∃ o,σ=[some (V.int cell),some (V.int many),some (V.int bound),some (V.int mixed),some (V.ref l),some (V.int (dst cell bound mixed i).1),some (V.int (dst cell bound mixed i).2.1),o]∧af H H'∧H' l=some (.lst ((gB cell bound mixed i).map V.int)))
   ⟨none,rfl,af.updN hl,ac⟩ (fun _ _ _ _ ⟨_,_,h,_⟩=>h) ?_ ?_
 . rintro i x σ H' hi rfl ⟨o,rfl,hS,hH⟩;walk_at"";have ne:∀ p,H' p=none→l≠p:=fun p hp=>aG hH hp;refine⟨.inr ⟨by omega,by omega⟩,by omega,.inl ⟨rfl,_,SqL.of hH⟩,hb0,by omega,by omega,hb0,by omega,fun p hp=>?_⟩
   have hz:(0:Int)+(i:Int)=i:=by omega
   rw[hz];refine⟨_,SqL.of ac,(V.int (if mixed=0 then(dst cell bound mixed i).1 % bound else((dst cell bound mixed i).2.1*69621+40014+i) % 2147483647 / 8 % bound)),?_,_,by rw[ai (ne p hp)];exact hH,?_,hb0,by omega,rfl,rfl,?_,?_⟩
   . rcases hmix with rfl | rfl
     . rfl
     . rfl
   . rw[be,eO];omega
   . exact(hS.step (hS.free hp)).step hl
   . rw[ac];unfold gB;rw[show(dst cell bound mixed (i+1)).2.2=(dst cell bound mixed i).2.2++[if mixed=0 then(dst cell bound mixed i).1 % bound else((dst cell bound mixed i).2.1*69621+40014+i) % 2147483647 / 8 % bound] from rfl,z8];rfl
 . rintro σ H' ⟨o,rfl,hS,hH⟩;walk_at"";exact q l H' hl hS hH
def df (c:Nat):Prop:=97≤c∧c≤122
theorem vy:bo.cps.toList=(Ab 26).map (fun i=>97+i):=by decide
theorem wN {j:Nat}(h:j < 26):bo.cps.toList[j]?=some (97+j):=by rw[vy,zX,Cg h];rfl
theorem v6 {i:Int}(h0:0≤i)(h1:i < 26):atI bo.cps.toList i=some (97+i.toNat):=by
 obtain⟨j,rfl⟩:=Bj h0;exact bS (wN (by omega))
theorem wX {c:Nat}(h:df c):inL c=true:=by
 have key:∀ i:_root_.Fin 26,inL (97+i.val)=true:=by decide
 have:=key ⟨c - 97,by unfold df at h;omega⟩
 have e:97+(c - 97)=c:=by unfold df at h;omega
 rw[show(97+(⟨c - 97,by unfold df at h;omega⟩:_root_.Fin 26).val)=c from e] at this;exact this
theorem wf {c:Nat}(h:df c):Txt.find bo ⟨#[c]⟩=((c - 97:Nat):Int):=by
 have key:∀ i:_root_.Fin 26,Txt.find bo ⟨#[97+i.val]⟩=(i.val:Int):=by decide
 have:=key ⟨c - 97,by unfold df at h;omega⟩
 have e:97+(c - 97)=c:=by unfold df at h;omega
 rw[show(97+(⟨c - 97,by unfold df at h;omega⟩:_root_.Fin 26).val)=c from e] at this;exact this
structure Nm (z:Str):Prop where
 lo:1≤z.length
 hi:z.length≤8
 all:∀ c∈z.cps.toList,df c
theorem Nm.good {z:Str}(h:Nm z):bc z=true:=by
 unfold bc;rw[decide_eq_true h.lo,decide_eq_true h.hi,Bool.true_and,Bool.true_and];exact List.all_eq_true.mpr fun c hc=>wX (h.all c hc)
theorem Nm.of_list {z:Str}{l:List Nat}(e:z.cps.toList=l)(h1:1≤l.length)(h8:l.length≤8)(ha:∀ c∈l,df c):Nm z:=by
 have hl:z.length=l.length:=by rw[←e];exact Array.length_toList.symm
 exact⟨by omega,by omega,by rw[e];exact ha⟩
theorem jQ (a y:Str):(a++y).cps.toList=a.cps.toList++y.cps.toList:=by
 rw[Str.cps_append,Array.toList_append]
theorem w6 (a y:Str):(a++y).length=a.length+y.length:=PySem.Str.length_append a y
theorem eU (z:Str):z.length=z.cps.toList.length:=Array.length_toList.symm
theorem qu:(zV "").cps.toList=[]:=by decide
theorem jR (l:List Nat):∀ n,n≤l.length→(Ab n).filterMap (fun i=>l[i]?)=l.take n
 | 0,_=>by simp
 | n+1,h=>by
   rw[Bt,List.filterMap_append,jR l n (by omega),BI,zW (by omega)];simp[zW (show n < l.length by omega)]
theorem va (n:Nat)(h:1≤n):Builtin.Str.strSliceIndices none (some (-1)) 1 n=Ab (n - 1):=by
 rw[StrLaws.sliceIdx_neg_hi none n (by decide) (by omega)]
 have e:(-1:Int)+(n:Int)=((n - 1:Nat):Int):=by omega
 rw[e];have h0:=StrLaws.strSliceIndices_plain (a:=0) (b:=n - 1) (len:=n) (by omega) (by omega)
 have e0:Builtin.Str.strSliceIndices none (some ((n - 1:Nat):Int)) 1 n=Builtin.Str.strSliceIndices (some ((0:Nat):Int)) (some ((n - 1:Nat):Int)) 1 n:=by
   have m0:max (0:Int) (min (0:Int) (n:Int))=0:=by omega
   simp[Builtin.Str.strSliceIndices,m0]
 rw[e0,h0];simp
theorem qY (z:Str)(h:1≤z.length):(Txt.slice z none (some (-1))).cps.toList=z.cps.toList.dropLast:=by
 unfold Txt.slice;rw[va _ h,Ba]
 have hne:¬((1:Int)==1&&(z.length - 1)==z.length)=true:=by
   rw[Bool.and_eq_true];intro hh;have:=of_decide_eq_true hh.2;omega
 rw[if_neg hne];show(List.filterMap (fun i=>z.cps[i]?) (Ab (z.length - 1))).toArray.toList=_
 have e:(fun i:Nat=>z.cps[i]?)=fun i=>z.cps.toList[i]?:=by funext i;simp
 rw[e,jR _ _ (by rw[AI];exact Nat.sub_le _ _),B6,←eU]
def mkN (p:List Nat) (k:Nat):Str:=⟨(p++[97+k % 26]).toArray⟩
theorem ed (p:List Nat) (k:Nat):(mkN p k).cps.toList=p++[97+k % 26]:=by simp[mkN]
theorem rz (p:List Nat) (k:Nat):(mkN p k).length=p.length+1:=by rw[eU,ed];simp
theorem xr {p:List Nat}{j k:Nat}(h:mkN p j=mkN p k):j % 26=k % 26:=by
 have:=congrArg (fun z:Str=>z.cps.toList) h;simp only[ed] at this;have:=List.append_cancel_left this;simp at this;exact this
theorem rJ {a b:Str}(h:a.cps.toList=b.cps.toList):a=b:=by
 have e2:a.cps=b.cps:=Array.toList_inj.mp h;cases a;cases b;simp only at e2;rw[e2]
theorem Nm.toMk {z:Str}(h:Nm z):∃ p k,z=mkN p k∧p.length≤7∧∀ c∈p,df c:=by
 have hne:z.cps.toList≠[]:=by
   intro e;have:=h.lo;rw[eU,e] at this;simp at this
 have hl:=h.all _ (List.getLast_mem hne);refine⟨z.cps.toList.dropLast,z.cps.toList.getLast hne - 97,rJ ?_,?_,fun c hc=>h.all c (List.dropLast_subset _ hc)⟩
 . rw[ed]
   have e:97+(z.cps.toList.getLast hne - 97) % 26=z.cps.toList.getLast hne:=by unfold df at hl;omega
   rw[e];exact(Ap hne).symm
 . have:=h.hi;rw[eU] at this;rw[AZ];omega
theorem Nm.of_mk {p:List Nat}{k:Nat}(hp:p.length≤7)(ha:∀ c∈p,df c):Nm (mkN p k):=by
 refine Nm.of_list (ed p k) (by simp) (by simp;omega) fun c hc=>?_
 rcases List.mem_append.mp hc with hc | hc
 . exact ha c hc
 . rw[List.mem_singleton.mp hc];unfold df;omega
theorem vx:∀ {l m:List Str},l.Nodup→(∀ x∈l,x∈m)→l.length≤m.length
 | [],m,_,_=>AN _
 | a::l,m,hn,hs=>by
   obtain⟨h1,h2⟩:=List.nodup_cons.mp hn;have ham:a∈m:=hs a Ag;have:=vx (l:=l) (m:=m.erase a) h2 fun x hx=>(B9 (fun e=>h1 (by rw[←e];exact hx))).mpr (hs x (Ai _ hx));rw[BO ham] at this;have hpos:=BZ ham;rw[AK];omega
theorem ny (p:List Nat) (k:Nat)(ws:List Str)(h:ws.length≤25):∃ t,t≤25∧mkN p (k+t)∉ws:=by
 refine Classical.byContradiction fun hno=>?_;have hall:∀ t,t≤25→mkN p (k+t)∈ws:=fun t ht=>Classical.byContradiction fun hn=>hno ⟨t,ht,hn⟩
 have hnd:((Ab 26).map fun t=>mkN p (k+t)).Nodup:=by
   refine List.pairwise_map.mpr ?_;refine List.Pairwise.imp_of_mem ?_ List.nodup_range;intro a b ha hb hab e;have:=xr e;have:=List.mem_range.mp ha;have:=List.mem_range.mp hb;omega
 have:=vx hnd fun x hx=>by
   obtain⟨t,ht,rfl⟩:=List.mem_map.mp hx;exact hall t (by have:=List.mem_range.mp ht;omega)
 rw[be,Ba] at this;omega
theorem cY (x:Str):∀ ws:List Str,inV (.str x) (ws.map V.str)=decide (x∈ws)
 | []=>rfl
 | y::r=>by
   have ih:=cY x r;unfold inV at ih ⊢;rw[An,Bz,ih];show((y==x)||decide (x∈r))=decide (x∈y::r);rw[Bool.eq_iff_iff];simp only[Bool.or_eq_true,beq_iff_eq,decide_eq_true_eq,AV];constructor
   . rintro(h | h)
     . exact .inl h.symm
     . exact .inr h
   . rintro(h | h)
     . exact .inl h.symm
     . exact .inr h
theorem cT (ws:List Str):(ws.map V.str).all dG=true:=by
 rw[CT];exact List.all_eq_true.mpr fun _ _=>rfl
structure NmL (ws:List Str) (n:Nat):Prop where
 len:ws.length=n
 nd:ws.Nodup
 nm:∀ x∈ws,Nm x
def jH (H:Hp)(p:Addr)(b:Str×List Str):Prop:=∃ o,H p=some (.tup [.str b.1,.ref o])∧H o=some (.lst (b.2.map V.str))
def ig (H:Hp)(lb:Addr)(bs:List (Str×List Str)):Prop:=∃ ps:List Addr,H lb=some (.lst (ps.map V.ref))∧ps.length=bs.length∧∀ (i:Nat) p b,ps[i]?=some p→bs[i]?=some b→jH H p b
theorem af.bthAt {H H':Hp}{p:Addr}{b:Str×List Str}(S:af H H')(h:jH H p b):jH H' p b:=by
 obtain⟨o,h1,h2⟩:=h;exact⟨o,S _ _ h1,S _ _ h2⟩
theorem af.bths {H H':Hp}{lb:Addr}{bs:List (Str×List Str)}(S:af H H')(h:ig H lb bs):ig H' lb bs:=by
 obtain⟨ps,h1,h2,h3⟩:=h;exact⟨ps,S _ _ h1,h2,fun i p b hp hb=>af.bthAt S (h3 i p b hp hb)⟩
def Shw (z:Str):Prop:=z.length≤1000∧∀ c∈z.cps.toList,c < 1114112
theorem Nm.shw {z:Str}(h:Nm z):Shw z:=⟨by have:=h.hi;omega,fun c hc=>by have:=(h.all c hc).2;omega⟩
structure aP (ss:List Str)(bs:List (Str×List Str)):Prop where
 s1:1≤ss.length
 s12:ss.length≤12
 snd:ss.Nodup
 snm:∀ x∈ss,bc x=true
 snw:∀ x∈ss,Shw x
 b8:bs.length≤8
 bnd:(bs.map (·.1)).Nodup
 bnm:∀ b∈bs,bc b.1=true
 bnw:∀ b∈bs,Shw b.1
 bln:∀ b∈bs,b.2.length=ss.length
 bin:∀ b∈bs,∀ x∈b.2,x∈ss
theorem vd {ws:List Str}{n:Nat}(h:n≤ws.length):gA (ws.map V.str) none (some (n:Int))=(ws.take n).map V.str:=by
 unfold gA;have e1:HT.sIx (ws.map V.str).length 0 none=0:=rfl
 have e2:HT.sIx (ws.map V.str).length (ws.map V.str).length (some (n:Int))=n:=by
   rw[be,HT.sIx_nat];omega
 rw[e1,e2,List.drop_zero,Nat.sub_zero,CO]
theorem bZ {L:List Str}{i:Nat}{x:Str}(h:L[i]?=some x):atI (L.map V.str) (i:Int)=some (V.str x):=bS (by rw[zX,h];rfl)
theorem kq {ws:List Str}{n:Nat}{x:Str}(hd:ws.Nodup)(hx:ws[n]?=some x):x∉ws.take n:=fun hm=>by
 rw[←List.take_append_drop n ws] at hd;have hx2:x∈ws.drop n:=z6 (i:=0) (by rw[Cn];exact hx);exact(List.nodup_append.mp hd).2.2 x hm x hx2 rfl
def hide (H:Hp)(p:Addr):Hp:=fun b=>if b=p then none else H b
theorem af.hide {H H2:Hp}{p:Addr}(S:af H H2):af (hide H p) (DM.hide H2 p):=fun b o e=>by
 unfold DM.hide at e ⊢;by_cases h:b=p
 . rw[if_pos h] at e;cases e
 . rw[if_neg h] at e ⊢;exact S b o e
theorem ef {H:Hp}{p:Addr}{o:HO}:hide (upd H p o) p=hide H p:=by
 funext b;unfold hide upd;by_cases h:b=p
 . rw[if_pos h,if_pos h]
 . rw[if_neg h,if_neg h,if_neg h]
theorem bP {H:Hp}{p:Addr}:af (hide H p) H:=fun b o e=>by
 unfold hide at e;by_cases h:b=p
 . rw[if_pos h] at e;cases e
 . rw[if_neg h] at e;exact e
theorem aW {H:Hp}{p q:Addr}(h:q≠p):hide H p q=H q:=by unfold hide;rw[if_neg h]
theorem em {K:PySem.W.Frag}{H:Hp}{a:Addr}{x y:V}{i j:Nat}{σ:St}{Q:St→Hp→Prop}(h:H a=some (.tup [x,y]))(q:Q ((σ.set i (some x)).set j (some y)) H):kx K 2 (bO (bB i) (bO (bB j) iO)) (.ref a) σ H Q :=
 ⟨a,[x,y],rfl,SqT.of h,rfl,x,[y],rfl,y,[],rfl,rfl,q⟩
theorem uK {K:PySem.W.Frag}{H:Hp}{a:Addr}{x y z u:V}{i j k l:Nat}{σ:St}{Q:St→Hp→Prop}(h:H a=some (.tup [x,y,z,u]))(q:Q ((((σ.set i (some x)).set j (some y)).set k (some z)).set l (some u)) H):kx K 4 (bO (bB i) (bO (bB j) (bO (bB k) (bO (bB l) iO)))) (.ref a) σ H Q :=
 ⟨a,[x,y,z,u],rfl,SqT.of h,rfl,x,[y,z,u],rfl,y,[z,u],rfl,z,[u],rfl,u,[],rfl,rfl,q⟩
def gp (ws:List Str) (x:Int):Str:=ws.getD x.toNat ⟨#[]⟩
theorem oV {ws:List Str}{x:Int}(h0:0≤x)(h1:x.toNat < ws.length):atI (ws.map V.str) x=some (V.str (gp ws x)):=by
 have e:ws[x.toNat]?=some (gp ws x):=by
   unfold gp;rw[zZ,zW h1];rfl
 have:=bZ e
 rwa [Ch h0] at this
theorem nI {ws:List Str}{x:Int}{n:Nat}(h0:0≤x)(h1:x < n)(hn:n≤ws.length):gp ws x∈ws.take n:=by
 have hl:x.toNat < ws.length:=by omega
 refine z6 (i:=x.toNat) ?_;rw[Co,if_pos (by omega)];unfold gp;rw[zZ,zW hl];rfl
def mZ:Sp:=fun vs H Q _=>∃ cell many wide mixed:Int,vs=[.int cell,.int many,.int wide,.int mixed]∧0≤many∧many≤20∧(wide=26∨wide=2)∧(mixed=0∨mixed=1) ∧
 ∀ l (ws:List Str) H',H l=none→af H H'→H' l=some (.lst (ws.map V.str))→(ws.length:Int)=many→ws.Nodup→(∀ x∈ws,Nm x)→Q (.ref l) H'
theorem dB:ax ["_law_cell", "_law_many", "_law_wide", "_law_mixed", "_law_letters", "_law_words_here", "_law_seed", "_law_rest", "_law_word", "_law_k"] ["_law_cell", "_law_many", "_law_wide", "_law_mixed"] (ao qP):=sM
structure Cl (P:Program)(w:World)(K:PySem.W.Frag)(mg:Str→Option Value)(base:Heap)(CX:CXT) (n:Nat) (x:Str)(ps:List Str)(sp:Sp)(f:Addr)(fd:FuncData):Prop where
 g:aU P w K mg base CX n f fd ps sp
 k:Bq K (.ref f)=true
 b:eC K fd ps []
 m:mg x=some (.ref f)
structure Cm (P:Program)(w:World)(K:PySem.W.Frag)(mg:Str→Option Value)(base:Heap)(CX:CXT) (n:Nat)(C:Addr) (x:Str)(ps:List Str)(sp:Sp)(f:Addr)(fd:FuncData):Prop where
 g:aU P w K mg base CX n f fd ps sp
 h:Meth K C x f
 b:eC K fd ps []
section
variable {X:Cx}{CX:CXT}{k:Nat}{x:Str}{ps:List Str}{sp:Sp}{f C:Addr}{fd:FuncData}{E:XK}{e o:Expr}{es:List Expr}{t:TA}{ta:TE}{pos p apos:Pos}
theorem pC (G:Cl X.prog X.w X.K X.mg X.base CX k x ps sp f fd)(hr:cL k X.A)(hx:dz CX X E)(ha:PA X (e::es) t)(hg:Gl X x:=by rfl)(hdb:(x==("__debug__":Str))=false:=by decide)(he:starEach (e::es) X.env=(false,eval e X.env)::starEach es X.env:=by rfl)(hpl:(backTo pos (starEach es X.env)).any (·.1)=false:=by rfl):PE X (.Call (.Name x p) (e::es) [] pos) (rB sp [] E t):=wC G.g hr hg G.m G.k G.b .nil hx ha hdb he hpl
theorem pM {pl:Sem Bool}(he:PE X o ta)(c:Cls X.K C)(G:Cm X.prog X.w X.K X.mg X.base CX k C x ps sp f fd)(hr:cL k X.A)(hx:dz CX X E)(ha:PA X (e::es) t)(hst:starEach (e::es) X.env=(false,eval e X.env)::starEach es X.env:=by rfl)(hpl:(backTo pos (starEach es X.env)).any (·.1)=false:=by rfl)
 (ht:eval (.Call (.Attribute o x apos) (e::es) [] pos) X.env=(do
   let ov ←eval o X.env
   standAt apos.atName
   let (f,first) ←holding [ov] (getMethod ov x pl)
   callWith pos f first (backTo pos (starEach (e::es) X.env)) (backToKw pos (keywordEach [] X.env))):=by rfl):PE X (.Call (.Attribute o x apos) (e::es) [] pos) (lh C x sp [] E ta t):=ib he c G.h G.g hr G.b .nil hx ha hst hpl ht
theorem pM0 {pl:Sem Bool}(he:PE X o ta)(c:Cls X.K C)(G:Cm X.prog X.w X.K X.mg X.base CX k C x ps sp f fd)(hr:cL k X.A)(hx:dz CX X E)
 (ht:eval (.Call (.Attribute o x apos) [] [] pos) X.env=(do
   let ov ←eval o X.env
   standAt apos.atName
   let (f,first) ←holding [ov] (getMethod ov x pl)
   callWith pos f first (backTo pos (starEach [] X.env)) (backToKw pos (keywordEach [] X.env))):=by rfl):PE X (.Call (.Attribute o x apos) [] [] pos) (lh C x sp [] E ta tS):=vF he c G.h G.g hr G.b .nil hx ht
end
theorem wb {f fD:Addr}{fd fdD:FuncData}(F:Fun K "_law_words" "_law_words" qP f fd)
   (T:Txt mg)
   (GD:Cl P w K mg base CX0 1 "_law_draws" ["_law_cell", "_law_many", "_law_bound", "_law_mixed"] jq fD fdD) :
   aU P w K mg base CX0 2 f fd ["_law_cell", "_law_many", "_law_wide", "_law_mixed"] mZ:=by
 refine oq F dB fun cdv A outer s H vs Q E hr h=>?_;obtain⟨cell,many,wide,mixed,rfl,hm0,hm1,hwd,hmix,q⟩:=h;have hr1:=hr.mono (j:=1) (by omega)
 refine⟨_,(aj (pS 4 dB.nd ay)
   (aj (pS 5 dB.nd (ba ae))
   (aj (bq PassesOwn.never rfl (aY (pC GD hr1 az (aa (pv 0) (aa (pv 1) (aa (aA fY ag (aA kI ag ag)) (aa (pv 3) ae)))))) (pN 6 dB.nd) (aj (pS 7 dB.nd (aA d5 (pv 6) ag))
   (aj (pS 8 dB.nd ay)
   (aj (bq PassesOwn.never rfl (cb rfl T.range (aa (aA bU ag (aA a9 (pv 6) ag)) ae)) (pN 9 dB.nd) (aN (pS 8 dB.nd (aA fr (pv 8) (pI nq (pv 4) (aA a9 (pv 7) (pv 2)))))
   (ah (pS 7 dB.nd (aA d5 (pv 7) (pv 2))))))
   (aj (uc PassesOwn.never (aq lA (pv 8) (pv 5) (by with_unfolding_all rfl)) (ah (pS 8 dB.nd (aA fr (er yl (pv 8) gj (eG (d9 cK ag))) (pI nq (pv 4) (aA a9 (aA bU (eI PySem.F.plainAttrs_str PySem.F.slot_str_index PySem.F.type_str_index (vY rfl) (pv 4) (aa (pI nq (pv 8) (d9 cK ag)) ae)) ag) ag))))))
   (ah (aM (eI Aw AE AF bN (pv 5) (aa (pv 8) ae)))))))))
   (ah (ap (pv 5)))))),?_⟩
 try dsimp only[aF,aO]
 have hs:=aL
 have hw0:0 < wide:=by omega
 have hw26:wide≤26:=by omega
 refine ar (fun σ' H'=>σ'=[some (.int cell),some (.int many),some (.int wide),some (.int mixed),some (.str bo),none,none,none,none,none]∧H'=H) (fun R hR=>?_) ?_
 . walk_at"";exact hR _ _ ⟨rfl,rfl⟩
 rintro σ0 H0 ⟨rfl,rfl⟩;refine ar (fun σ' H'=>∃ p,σ'=[some (.int cell),some (.int many),some (.int wide),some (.int mixed),some (.str bo),some (.ref p),none,none,none,none]∧H0 p=none∧H'=upd H0 p (.lst [])) (fun R hR=>?_) ?_
 . walk_at"";exact⟨by omega,fun p hp=>hR _ _ ⟨p,rfl,hp,rfl⟩⟩
 rintro σ1 H1 ⟨p,rfl,hp,rfl⟩;refine ar (fun σ' H'=>∃ (ws:List Str)(o6 o7 o8 o9:Option V),σ'=[some (.int cell),some (.int many),some (.int wide),some (.int mixed),some (.str bo),some (.ref p),o6,o7,o8,o9]∧af H0 H'∧H' p=some (.lst (ws.map V.str))∧(ws.length:Int)=many∧ws.Nodup∧∀ x∈ws,Nm x) (fun R hR=>?_) ?_
 . walk_at"";refine⟨⟨by decide,by decide,by decide⟩,.inl ⟨by decide,by decide⟩,_,_,_,_,rfl,hm0,by omega,by decide,by decide,hmix,fun l H1 hl S1 hH1=>?_⟩
   have hpl:p≠l:=fun e=>by rw[e,ac] at hl;cases hl
   have hHl:H0 l=none:=by rw[ai (Ne.symm hpl)] at hl;exact hl
   have hL:=eO cell (8*26 ^ Bl 8) mixed many.toNat;have hLr:=ix (cell:=cell) (bound:=8*26 ^ Bl 8) (mixed:=mixed) (by decide) many.toNat;generalize gB cell (8*26 ^ Bl 8) mixed many.toNat=L at hH1 hL hLr
   have S0:af (upd H0 l (.lst (L.map V.int))) H1:=fun b o e=>by
     by_cases hb:b=l
     . rw[hb,ac] at e;rw[hb,←e];exact hH1
     . rw[ai hb] at e;exact S1 b o (by rw[ai (aG e hp)];exact e)
   have hp0:(upd H0 l (.lst (L.map V.int))) p=none:=by rw[ai hpl];exact hp
   refine⟨l,rfl,⟨_,SqL.of hH1⟩,?_⟩
   refine bn (H0:=upd H0 l (.lst (L.map V.int))) (aE (SqL.of ac)) (fun i σ' H'=>∃ (ws:List Str)(o1 o2 o3 o4:Option V),σ'=[some (.int cell),some (.int many),some (.int wide),some (.int mixed),some (.str bo),some (.ref p),o1,o2,o3,o4] ∧
     af (upd H0 l (.lst (L.map V.int))) H'∧H' p=some (.lst (ws.map V.str))∧ws.length=i∧ws.Nodup∧∀ x∈ws,Nm x)
     ⟨[],none,none,none,none,rfl,S0,S1 _ _ ac,rfl,CL,fun x hx=>by cases hx⟩ (fun _ _ _ _ ⟨_,_,_,_,_,_,h,_⟩=>h) ?_ ?_
   . rintro i x σ H' hi hx ⟨ws,o1,o2,o3,o4,rfl,hS,hH,hwl,hnd,hnm⟩;rw[zX] at hx;obtain⟨y,hy,rfl⟩:=Option.map_eq_some_iff.mp hx;rw[be] at hi;have hyr:=hLr y (z6 hy);refine ar (fun σ' H''=>σ'=[some (.int cell),some (.int many),some (.int wide),some (.int mixed),some (.str bo),some (.ref p),some (.int y),some (.int (y / 8)),o3,o4]∧H''=H') (fun R hR=>?_) ?_
     . walk_at"";exact⟨by decide,by decide,hR _ _ ⟨rfl,rfl⟩⟩
     rintro σ2 H2 ⟨rfl,rfl⟩;refine ar (fun σ' H''=>σ'=[some (.int cell),some (.int many),some (.int wide),some (.int mixed),some (.str bo),some (.ref p),some (.int y),some (.int (y / 8)),some (.str ""),o4]∧H''=H2) (fun R hR=>?_) ?_
     . walk_at"";exact hR _ _ ⟨rfl,rfl⟩
     rintro σ3 H3 ⟨rfl,rfl⟩;refine ar (fun σ' H''=>∃ z o7 o9,Nm z∧σ'=[some (.int cell),some (.int many),some (.int wide),some (.int mixed),some (.str bo),some (.ref p),some (.int y),o7,some (.str z),o9]∧H''=H3) (fun R hR=>?_) ?_
     . walk_at"";refine⟨by decide,by omega,by omega,?_⟩
       refine a8 (H0:=H3) bu (fun i σ' H''=>∃ (rr:Int)(l:List Nat) (z:Str)(o9:Option V),σ'=[some (.int cell),some (.int many),some (.int wide),some (.int mixed),some (.str bo),some (.ref p),some (.int y),some (.int rr),some (.str z),o9]∧H''=H3∧z.cps.toList=l∧l.length=i∧∀ c∈l,df c)
         ⟨_,[],_,_,rfl,rfl,qu,rfl,fun c hc=>by cases hc⟩ (fun _ _ _ _ ⟨_,_,_,_,_,h,_⟩=>by rw[h];exact af.refl _) ?_ ?_
       . rintro i x σ H'' hi rfl ⟨rr,l2,z,o9,rfl,rfl,hzl,hll,hlt⟩ R2 hR2
         have hi8:i < 8:=by omega
         have hm0:=AW rr (show wide≠0 by omega);have hm1:=AU rr hw0;walk_at""
         have hzlen:z.length=i:=by rw[eU,hzl];exact hll
         refine⟨hw0,by decide,_,v6 hm0 (by omega),by rw[hzlen];show i+1≤sizeLine;omega,hw0,by omega,hR2 _ _ ⟨_,l2++[97+(rr % wide).toNat],_,_,rfl,rfl,?_,by rw[zY,hll];rfl,fun c hc=>?_⟩⟩
         . rw[jQ,hzl]
         . rcases List.mem_append.mp hc with hc | hc
           . exact hlt c hc
           . rw[List.mem_singleton.mp hc];unfold df;omega
       . rintro σ H'' ⟨rr,l2,z,o9,rfl,rfl,hzl,hll,hlt⟩;exact hR _ _ ⟨z,_,_,Nm.of_list hzl (by omega) (by omega) hlt,rfl,rfl⟩
     rintro σ4 H4 ⟨z,o7,o9,hz,rfl,rfl⟩;refine ar (fun σ' H''=>∃ z' o7' o9',Nm z'∧z'∉ws∧σ'=[some (.int cell),some (.int many),some (.int wide),some (.int mixed),some (.str bo),some (.ref p),some (.int y),o7',some (.str z'),o9']∧H''=H4) (fun R hR=>?_) ?_
     . obtain⟨pp,k0,rfl,hp7,hpa⟩:=hz.toMk;obtain⟨t0,ht0,hfree⟩:=ny pp k0 ws (by omega);refine⟨fun m σ' H'=>∃ k t,t≤m∧mkN pp (k+t)∉ws∧σ'=[some (.int cell),some (.int many),some (.int wide),some (.int mixed),some (.str bo),some (.ref p),some (.int y),o7,some (.str (mkN pp k)),o9]∧H'=H4,⟨25,k0,t0,ht0,hfree,rfl,rfl⟩,?_⟩;rintro m σ' H' ⟨k,t,htm,hfr,rfl,rfl⟩;walk_at"";refine⟨_,.inl (SqL.of hH),rfl,cT ws,?_⟩;rw[cY];refine aB (fun hin=>?_) (fun hin=>?_)
       . have hin':mkN pp k∈ws:=of_decide_eq_true hin;have ht:t≠0:=fun e=>hfr (by rw[e];exact hin')
         have hlen8:(mkN pp k).length≤8:=by rw[rz];omega
         have hlet:df (97+k % 26):=by unfold df;omega
         have hf:=wf hlet
         have hn1:97+k % 26 - 97=k % 26:=by omega
         rw[hn1] at hf
         have hsl:(Txt.slice (mkN pp k) none (some (-1))).cps.toList=pp:=by rw[qY _ (by rw[rz];omega),ed,List.dropLast_concat]
         have hsll:(Txt.slice (mkN pp k) none (some (-1))).length=pp.length:=by rw[eU,hsl]
         have e1:(((k % 26:Nat):Int)+1) % 26=(((k+1) % 26:Nat):Int):=by omega
         have hnew:Txt.slice (mkN pp k) none (some (-1))++(⟨#[97+(((k+1) % 26:Nat):Int).toNat]⟩:Str)=mkN pp (k+1):=by
           refine rJ ?_;rw[jQ,hsl,ed,AG]
         refine⟨fun σ' H''=>σ'=[some (.int cell),some (.int many),some (.int wide),some (.int mixed),some (.str bo),some (.ref p),some (.int y),o7,some (.str (mkN pp (k+1))),o9]∧H''=H',?_,by omega,rfl,by omega,_,by rw[ed];exact eQ _ _,by rw[hf];omega,by decide,by decide,_,by rw[hf,e1];exact v6 (by omega) (by omega),?_,?_⟩
         . rintro σ' H'' ⟨rfl,rfl⟩;refine⟨m - 1,by omega,k+1,t - 1,by omega,?_,rfl,rfl⟩;rw[show k+1+(t - 1)=k+t by omega];exact hfr
         . rw[hsll];show pp.length+1≤sizeLine;omega
         . rw[hnew];exact⟨rfl,rfl⟩
       . have hin':mkN pp k∉ws:=of_decide_eq_false (by simpa using hin);exact hR _ _ ⟨mkN pp k,o7,o9,Nm.of_mk hp7 hpa,hin',rfl,rfl⟩
     rintro σ5 H5 ⟨z',o7',o9',hz',hnin,rfl,rfl⟩;walk_at"";have hnd':(ws++[z']).Nodup:=gY hnd hnin;refine⟨.inl ⟨rfl,_,SqL.of hH⟩,_,hH,by rw[be];omega,(fun b o e=>by rw[ai (aG e hp0)];exact hS b o e),ws++[z'],?_,?_,hnd',?_⟩
     . rw[ac,z8];rfl
     . rw[zY,hwl];rfl
     . intro x hx
       rcases List.mem_append.mp hx with hx | hx
       . exact hnm x hx
       . rw[List.mem_singleton.mp hx];exact hz'
   . rintro σ H' ⟨ws,o1,o2,o3,o4,rfl,hS,hH,hwl,hnd,hnm⟩;refine hR _ _ ⟨ws,o1,o2,o3,o4,rfl,fun b o e=>hS b o (by rw[ai (aG e hHl)];exact e),hH,?_,hnd,hnm⟩;rw[hwl,be];omega
 rintro σ2 H2 ⟨ws,o6,o7,o8,o9,rfl,S2,hH2,hwl,hnd,hnm⟩;walk_at"";exact q p ws H2 hp S2 hH2 hwl hnd hnm
def sw (K:PySem.W.Frag):Sp:=fun vs H Q _=>∃ (a:Addr)(ns:List Int) (c:Nat),vs=[.ref a,.int c]∧SqL K H a (ns.map V.int)∧c≤8 ∧
 ∀ p l lb (ss:List Str)(bs:List (Str×List Str)) (spare other:Str) H',af H H'→H' p=some (.tup [.ref l,.ref lb,.str spare,.str other])→H l=none→H' l=some (.lst (ss.map V.str))→H lb=none→ig H' lb bs→aP ss bs→bs.length=c→Nm spare→spare∉ss→Nm other→other∉bs.map (·.1)→Q (.ref p) H'
theorem dS:ax ["_law_script", "_law_count", "_law_many", "_law_mixed", "_law_wide", "_law_shades", "_law_titles", "_law_baths", "_law_k", "_law_outs"] ["_law_script", "_law_count"] (ao qJ):=sM
theorem vS {f fD fA fW:Addr}{fd fdD fdA fdW:FuncData}(F:Fun K "_law_plain" "_law_plain" qJ f fd)
   (T:Txt mg)
   (GD:Cl P w K mg base CX0 1 "_law_draws" ["_law_cell", "_law_many", "_law_bound", "_law_mixed"] jq fD fdD)
   (GA:Cl P w K mg base CX0 1 "_law_at" ["_law_script", "_law_k"] (t5 K) fA fdA)
   (GW:Cl P w K mg base CX0 2 "_law_words" ["_law_cell", "_law_many", "_law_wide", "_law_mixed"] mZ fW fdW) :
   aU P w K mg base CX0 4 f fd ["_law_script", "_law_count"] (sw K):=by
 refine oq F dS fun cdv A outer s H vs Q E hr h=>?_;obtain⟨a,ns,c,rfl,ha,hc8,q⟩:=h;have hr1:=hr.mono (j:=1) (by omega);have hr2:=hr.mono (j:=2) (by omega)
 refine⟨_,(aj (pS 2 dS.nd (aA bU ag (aA a9 (pC GA hr1 az (aa (pv 0) (aa ag ae))) ag)))
   (aj (pS 3 dS.nd (aA a9 (pC GA hr1 az (aa (pv 0) (aa ag ae))) ag))
   (aj (pS 4 dS.nd (pI ak (ba (aa ag (aa ag ae))) (aA a9 (aA d5 (pC GA hr1 az (aa (pv 0) (aa ag ae))) ag) ag)))
   (aj (mo (i:=5) dS.nd rfl (Or.inr rfl) (pC GW hr2 az (aa (pC GA hr1 az (aa (pv 0) (aa ag ae))) (aa (aA bU (pv 2) ag) (aa (pv 4) (aa (pv 3) ae))))))
   (aj (pS 6 dS.nd (pC GW hr2 az (aa (pC GA hr1 az (aa (pv 0) (aa ag ae))) (aa (aA bU (pv 1) ag) (aa (pv 4) (aa (pv 3) ae))))))
   (aj (pS 7 dS.nd (ba ae))
   (aj (bq PassesOwn.never rfl (cb rfl T.range (aa (pv 1) ae)) (pN 8 dS.nd) (aj (pS 9 dS.nd (pC GD hr1 az (aa (aA bU (pC GA hr1 az (aa (pv 0) (aa (aA bU ag (pv 8)) ae))) (aA fY (aA fY ag (pv 8)) (pv 3))) (aa (pv 2) (aa (pv 2) (aa (pv 3) ae))))))
   (ah (aM (eI Aw AE AF bN (pv 7) (aa (bj (aa (pI ak (pv 6) (pv 8)) (aa (fe (N':=["_law_j", "_law_shades"]) (pk:=[none,some 5]) rfl (bW.of (by rfl)) (aY (pv 9)) (fun s H ex=>(pN 0 (by show(["_law_j", "_law_shades"]:List Str).Nodup;decide))) (fun s H ex=>(pI (ak:IxR _ (gQ K)) (pv 1) (pv 0)))) ae))) ae))))))
   (ah (ap (bj (aa (er gk (pv 5) gj (eG (pv 2))) (aa (pv 7) (aa (pI ak (pv 5) (pv 2)) (aa (pI ak (pv 6) (pv 1)) ae)))))))))))))),?_⟩
 try dsimp only[aF,aO]
 have hs:=aL;refine ar (fun σ' H'=>∃ n:Nat,1≤n∧n≤12∧σ'=[some (.ref a),some (.int c),some (.int n),none,none,none,none,none,none,none]∧H'=H) (fun R hR=>?_) ?_
 . walk_at"";exact dq ha (by decide) ⟨_,rfl,by decide,hR _ _ ⟨(1+atL ns 0 % 12).toNat,by omega,by omega,by rw[Ch (by omega)],rfl⟩⟩
 rintro σ1 H1 ⟨n,hn1,hn,rfl,rfl⟩;refine ar (fun σ' H'=>∃ mixed:Int,(mixed=0∨mixed=1)∧σ'=[some (.ref a),some (.int c),some (.int n),some (.int mixed),none,none,none,none,none,none]∧H'=H1) (fun R hR=>?_) ?_
 . walk_at"";exact dq ha (by decide) ⟨_,rfl,by decide,hR _ _ ⟨_,by omega,rfl,rfl⟩⟩
 rintro σ2 H2 ⟨mixed,hmix,rfl,rfl⟩;refine ar (fun σ' H'=>∃ wd:Int,(wd=26∨wd=2)∧σ'=[some (.ref a),some (.int c),some (.int n),some (.int mixed),some (.int wd),none,none,none,none,none]∧af H2 H') (fun R hR=>?_) ?_
 . walk_at"";refine⟨by omega,fun p hp=>dq ((af.updN hp).seq ha) (by decide) ⟨_,rfl,by decide,by decide,by decide,_,SqL.of ac,?_⟩⟩;obtain⟨y,hy,e⟩:=fQ [26,2] (x:=atL ns 3 / 2 % 2) (by omega) (by show _ < (2:Int);omega);exact⟨_,e,hR _ _ ⟨y,by simpa using hy,rfl,af.updN hp⟩⟩
 rintro σ3 H3 ⟨wd,hwd,rfl,S3⟩;refine ar (fun σ' H'=>∃ l1 ws,σ'=[some (.ref a),some (.int c),some (.int n),some (.int mixed),some (.int wd),some (.ref l1),none,none,none,none]∧af H2 H'∧H' l1=some (.lst (ws.map V.str))∧NmL ws (n+1)) (fun R hR=>?_) ?_
 . walk_at"";exact dq (S3.seq ha) (by decide) ⟨_,_,_,_,rfl,by omega,by omega,hwd,hmix,fun l ws H' hl S' hH hlen hnd hnm=>hR _ _ ⟨l,ws,rfl,S3.trans S',hH,⟨by omega,hnd,hnm⟩⟩⟩
 rintro σ4 H4 ⟨l1,ws,rfl,S4,hH1,hws⟩;refine ar (fun σ' H'=>∃ l2 ts,σ'=[some (.ref a),some (.int c),some (.int n),some (.int mixed),some (.int wd),some (.ref l1),some (.ref l2),none,none,none]∧af H4 H'∧H' l2=some (.lst (ts.map V.str))∧NmL ts (c+1)) (fun R hR=>?_) ?_
 . walk_at"";exact dq (S4.seq ha) (by decide) ⟨_,_,_,_,rfl,by omega,by omega,hwd,hmix,fun l ts H' hl S' hH hlen hnd hnm=>hR _ _ ⟨l,ts,rfl,S',hH,⟨by omega,hnd,hnm⟩⟩⟩
 rintro σ5 H5 ⟨l2,ts,rfl,S5,hH2,hts⟩;have hH1:=S5 _ _ hH1;have S5:=S4.trans S5;refine ar (fun σ' H'=>∃ p,σ'=[some (.ref a),some (.int c),some (.int n),some (.int mixed),some (.int wd),some (.ref l1),some (.ref l2),some (.ref p),none,none]∧H5 p=none∧H'=upd H5 p (.lst [])) (fun R hR=>?_) ?_
 . walk_at"";exact⟨by omega,fun p hp=>hR _ _ ⟨p,rfl,hp,rfl⟩⟩
 rintro σ6 H6 ⟨p,rfl,hp,rfl⟩
 refine ar (fun σ' H'=>∃ (ps:List Addr)(bs:List (Str×List Str))(o8 o9:Option V),σ'=[some (.ref a),some (.int c),some (.int n),some (.int mixed),some (.int wd),some (.ref l1),some (.ref l2),some (.ref p),o8,o9]∧af H5 H'∧H' p=some (.lst (ps.map V.ref)) ∧
   ps.length=c∧bs.length=c∧(∀ (j:Nat) r b,ps[j]?=some r→bs[j]?=some b→jH (hide H' p) r b)∧bs.map (·.1)=ts.take c∧∀ b∈bs,b.2.length=n∧∀ x∈b.2,x∈ws.take n) (fun R hR=>?_) ?_
 . walk_at"";refine⟨by omega,by omega,?_⟩;rw[AG]
   refine a8 (H0:=H5) bu (fun i σ' H'=>∃ (ps:List Addr)(bs:List (Str×List Str))(o8 o9:Option V),σ'=[some (.ref a),some (.int c),some (.int n),some (.int mixed),some (.int wd),some (.ref l1),some (.ref l2),some (.ref p),o8,o9]∧af H5 H'∧H' p=some (.lst (ps.map V.ref)) ∧
     ps.length=i∧bs.length=i∧(∀ (j:Nat) r b,ps[j]?=some r→bs[j]?=some b→jH (hide H' p) r b)∧bs.map (·.1)=ts.take i∧∀ b∈bs,b.2.length=n∧∀ x∈b.2,x∈ws.take n)
     ⟨[],[],none,none,rfl,af.updN hp,ac,rfl,rfl,(by intro j r b h;simp at h),rfl,(by intro b h;cases h)⟩ (fun _ _ _ _ ⟨_,_,_,_,_,h,_⟩=>h) ?_ ?_
   . rintro i x σ H' hi rfl ⟨ps,bs,o8,o9,rfl,hS,hH,hpl,hbl,hB,hT,hO⟩ R2 hR2
     have ei:(0:Int)+(i:Int)=i:=by omega
     rw[ei]
     have hm9:(1009:Int)*i*mixed < 2 ^ 62:=by rcases hmix with e | e<;>(rw[e];omega)
     refine ar (fun σ' H''=>∃ (lo:Addr)(os:List Int),σ'=[some (.ref a),some (.int c),some (.int n),some (.int mixed),some (.int wd),some (.ref l1),some (.ref l2),some (.ref p),some (.int i),some (.ref lo)]∧af H' H''∧H'' lo=some (.lst (os.map V.int))∧os.length=n∧∀ y∈os,0≤y∧y < n) (fun R hR=>?_) ?_
     . walk_at"";refine dq ((S5.trans hS).seq ha) (by omega) ⟨.inl ⟨by omega,by omega⟩,.inl ⟨by omega,by omega⟩,_,rfl,_,_,_,_,rfl,by omega,by omega,by omega,by omega,hmix,fun lo H'' hlo S'' hH''=>hR _ _ ⟨lo,_,rfl,S'',hH'',by rw[eO,AG],fun y hy=>ix (by omega) _ y hy⟩⟩
     rintro σ2 H2' ⟨lo,os,rfl,S2,hlo,hosl,hosr⟩;have hH1':H2' l1=some (.lst (ws.map V.str)):=S2 _ _ (hS _ _ hH1);have hH2':H2' l2=some (.lst (ts.map V.str)):=S2 _ _ (hS _ _ hH2);have hp2:H2' p=some (.lst (ps.map V.ref)):=S2 _ _ hH;obtain⟨tt,htt⟩:∃ tt,ts[i]?=some tt:=⟨_,zW (by rw[hts.len];omega)⟩;walk_at"";refine⟨.inl ⟨rfl,_,SqL.of hp2⟩,_,SqL.of hH2',_,bZ htt,⟨_,SqL.of hlo⟩,fun D hD=>?_⟩
     have hDp:D≠p:=fun e=>by rw[e,hp2] at hD;cases hD
     refine cG (aE (SqL.of hlo)) (by rw[be,hosl];omega) hD (fun σ=>∃ o,σ=[o,some (.ref l1)]) (fun k=>V.str (gp ws (os.getD k 0))) ⟨none,rfl⟩ ?_ ?_
     . rintro k x σ' H3 hk hx ⟨o,rfl⟩ hS3 R hR;rw[zX] at hx;obtain⟨y,hy,rfl⟩:=Option.map_eq_some_iff.mp hx;have hyr:=hosr y (z6 hy);walk_at"";refine⟨_,hS3.seq (SqL.of hH1'),_,oV hyr.1 (by rw[hws.len];omega),?_⟩
       have e:os.getD k 0=y:=by rw[zZ,hy];rfl
       have:=hR [some (V.int y),some (V.ref l1)] ⟨_,rfl⟩;rw[e] at this;exact this
     . have e:(Ab (os.map V.int).length).map (fun k=>V.str (gp ws (os.getD k 0)))=(os.map (gp ws)).map V.str:=by
         rw[AH];refine cA _ os _ _ (by rw[be]) fun k x hx=>?_;rw[zZ,hx];rfl
       rw[e];refine⟨by omega,fun t ht=>?_⟩;have ht2:H2' t=none:=(af.updN hD).free ht
       have htp:t≠p:=fun e=>by rw[e,hp2] at ht2;cases ht2
       have htD:D≠t:=fun e=>by rw[←e,ac] at ht;cases ht
       have S3:af H2' (upd (upd H2' D (.lst ((os.map (gp ws)).map V.str))) t (.tup [.str tt,.ref D])):=(af.updN hD).step ht2;refine⟨_,S3 _ _ hp2,by rw[be];omega,hR2 _ _ ⟨ps++[t],bs++[(tt,os.map (gp ws))],_,_,rfl,((hS.trans S2).trans S3).step hp,?_,?_,?_,?_,?_,?_⟩⟩
       . rw[ac,z8];rfl
       . rw[zY,hpl];rfl
       . rw[zY,hbl];rfl
       . intro j r b hr hb;rw[ef];by_cases hj:j < i
         . rw[Af (by omega)] at hr hb;exact af.bthAt (af.hide (S2.trans S3)) (hB j r b hr hb)
         . have hj2:j=i:=by
             have:=(List.getElem?_eq_some_iff.mp hr).1;rw[zY,hpl] at this;simp only[Aa] at this;omega
           subst hj2;rw[z9 (by omega),hpl,AL] at hr;rw[z9 (by omega),hbl,AL] at hb;cases hr;cases hb;refine⟨D,?_,?_⟩
           . rw[aW htp];exact ac
           . rw[aW hDp,ai htD];exact ac
       . rw[z8,hT,List.take_add_one,htt];rfl
       . intro b hb
         rcases List.mem_append.mp hb with hb | hb
         . exact hO b hb
         . rw[List.mem_singleton.mp hb];refine⟨by rw[be];exact hosl,fun x hx=>?_⟩;obtain⟨y,hy,rfl⟩:=List.mem_map.mp hx;exact nI (hosr y hy).1 (hosr y hy).2 (by rw[hws.len];omega)
   . rintro σ H' ⟨ps,bs,o8,o9,rfl,hS,hH,hpl,hbl,hB,hT,hO⟩;exact hR _ _ ⟨ps,bs,o8,o9,rfl,hS,hH,hpl,hbl,hB,hT,hO⟩
 rintro σ7 H7 ⟨ps,bs,o8,o9,rfl,hS,hH,hpl,hbl,hB,hT,hO⟩;obtain⟨spare,hsp⟩:∃ x,ws[n]?=some x:=⟨_,zW (by rw[hws.len];omega)⟩;obtain⟨other,hot⟩:∃ x,ts[c]?=some x:=⟨_,zW (by rw[hts.len];omega)⟩;walk_at"";refine⟨_,SqL.of (hS _ _ hH1),fun l hl=>?_⟩;rw[vd (by rw[hws.len];omega)];have Sl:af H7 (upd H7 l (.lst ((ws.take n).map V.str))):=af.updN hl;refine⟨_,SqL.of (Sl _ _ (hS _ _ hH1)),_,bZ hsp,_,SqL.of (Sl _ _ (hS _ _ hH2)),_,bZ hot,by omega,fun t ht=>?_⟩;have St:=Sl.step (o:=.tup [.ref l,.ref p,.str spare,.str other]) (Sl.free ht)
 have hlt:l≠t:=fun e=>by rw[←e,ac] at ht;cases ht
 have htn:(ts.take c).Nodup:=hts.nd.sublist (BG _ _);refine q t l p (ws.take n) bs spare other _ ((S5.trans hS).trans St) ac ((S5.trans hS).free hl) (by rw[ai hlt];exact ac) (S5.free hp) ⟨ps,St _ _ hH,by omega,fun j r b hr hb=>af.bthAt (bP.trans St) (hB j r b hr hb)⟩ ⟨?_,?_,?_,?_,?_,?_,?_,?_,?_,?_,?_⟩ hbl ?_ ?_ ?_ ?_
 . rw[Ao,hws.len];omega
 . rw[Ao,hws.len];omega
 . exact hws.nd.sublist (BG _ _)
 . exact fun x hx=>(hws.nm x (Bx hx)).good
 . exact fun x hx=>(hws.nm x (Bx hx)).shw
 . omega
 . rw[hT];exact htn
 . intro b hb;exact(hts.nm b.1 (Bx (by rw[←hT];exact AA hb))).good
 . intro b hb;exact(hts.nm b.1 (Bx (by rw[←hT];exact AA hb))).shw
 . intro b hb;rw[(hO b hb).1,Ao,hws.len];omega
 . exact fun b hb=>(hO b hb).2
 . exact hws.nm _ (z6 hsp)
 . exact kq hws.nd hsp
 . exact hts.nm _ (z6 hot)
 . rw[hT];exact kq hts.nd hot
theorem gg (k:Str)(ks:List Str) (v:V)(vs:List V):bX (k::ks) (v::vs)=(Sum.inr k,v)::bX ks vs:=rfl
theorem dH:∀ (ks:List Str)(vs:List V) (i:Nat) (k:Str) (v:V),ks.Nodup→ks[i]?=some k→vs[i]?=some v→bG (bX ks vs) (Sum.inr k)=some v
 | [],_,_,_,_,_,h,_=>by simp at h
 | _::_,[],_,_,_,_,_,h=>by simp at h
 | k0::ks,v0::vs,0,k,v,hd,h1,h2=>by
   cases h1;cases h2;rw[gg];exact cq rfl
 | k0::ks,v0::vs,i+1,k,v,hd,h1,h2=>by
   have h1':ks[i]?=some k:=h1;have h2':vs[i]?=some v:=h2;have hm:k∈ks:=z6 h1';have hne:k0≠k:=fun e=>(List.nodup_cons.mp hd).1 (by rw[e];exact hm);rw[gg,cj (fun e=>hne (Sum.inr.inj e))];exact dH ks vs i k v (List.nodup_cons.mp hd).2 h1' h2'
theorem bV:∀ (ks:List Str)(vs:List V) (k:Str),k∉ks→bG (bX ks vs) (Sum.inr k)=none
 | [],_,_,_=>rfl
 | _::_,[],_,_=>rfl
 | k0::ks,v0::vs,k,h=>by
   rw[gg,cj (fun e=>h (by rw[←Sum.inr.inj e];exact Ag))];exact bV ks vs k (fun hm=>h (Ai _ hm))
theorem eT {ks:List Str}{vs:List V} (k:Str) (v:V)(h:ks.length=vs.length):bX (ks++[k]) (vs++[v])=bX ks vs++[(Sum.inr k,v)]:=by
 unfold bX;rw[z8,List.zip_append (by rw[be];exact h)];rfl
theorem fL {ks:List Str}{vs:List V}(h:ks.length=vs.length):(bX ks vs).length=ks.length:=by
 unfold bX;rw[BF,be,h];simp
theorem lP {ks:List Str}{vs:List V}(h:ks.length=vs.length):(bX ks vs).map (·.1)=ks.map Sum.inr:=by
 unfold bX;rw[List.map_fst_zip (by rw[be];omega)]
def il (ss:List Str)(b:Str×List Str):List (Key×V):=bX ss (b.2.map V.str)
def ik (H:Hp)(d:Addr)(ss:List Str)(bs:List (Str×List Str)):Prop :=
 ∃ ds:List Addr,Rd H d (.dK (bX (bs.map (·.1)) (ds.map V.ref)))∧ds.length=bs.length∧∀ (i:Nat) r b,ds[i]?=some r→bs[i]?=some b→Rd H r (.dK (il ss b))
theorem af.rd {H H':Hp}{a:Addr}{o:HO}(S:af H H')(h:Rd H a o):Rd H' a o:=by
 rcases h with h | ⟨u,h⟩
 . exact .inl (S _ _ h)
 . exact .inr ⟨u,S _ _ h⟩
theorem af.tabs {H H':Hp}{d:Addr}{ss:List Str}{bs:List (Str×List Str)}(S:af H H')(h:ik H d ss bs):ik H' d ss bs:=by
 obtain⟨ds,h1,h2,h3⟩:=h;exact⟨ds,af.rd S h1,h2,fun i r b hr hb=>af.rd S (h3 i r b hr hb)⟩
theorem bw {α:Type}{l:List α}{i:Nat}{x:α}(h:l[i]?=some x):l.take (i+1)=l.take i++[x]:=by rw[List.take_add_one,h];rfl
theorem eS {l:List Str}{i:Nat}{x:Str}(hd:l.Nodup)(h:l[i]?=some x):x∉l.take i:=kq hd h
theorem f8:ax ["_law_shades", "_law_baths", "_law_tables_here", "_law_title", "_law_outs", "_law_k"] ["_law_shades", "_law_baths"] (ao ml):=sM
structure v4 (mg:Str→Option Value):Prop where
 mostS:∃ t,mg "MOST_SHADES"=some (.int 12 t)
 mostB:∃ t,mg "MOST_BATHS"=some (.int 8 t)
theorem rT:∀ (l acc:List Str),(acc++l).Nodup→l.foldl ej acc=acc++l
 | [],acc,_=>by simp
 | x::l,acc,h=>by
   have hx:x∉acc:=fun hm=>(List.nodup_append.mp h).2.2 x hm x Ag rfl
   have e:ej acc x=acc++[x]:=by unfold ej;rw[if_neg hx]
   rw[BQ,e,rT l (acc++[x]) (by rw[Bv];exact h),Bv];rfl
theorem sx {l:List Str}(h:l.Nodup):dP l=l:=by unfold dP;rw[rT l [] h];rfl
theorem vv {z:Str}(h:bc z=true):z.length≤8:=by
 unfold bc at h;rw[Bool.and_eq_true,Bool.and_eq_true] at h;exact of_decide_eq_true h.1.2
def jy (K:PySem.W.Frag):Sp:=fun vs H Q _=>∃ (l:Addr)(ws:List Str),vs=[.ref l]∧SqL K H l (ws.map V.str)∧ws.length≤100∧ws.Nodup∧(∀ x∈ws,bc x=true)∧∀ H',af H H'→Q .non H'
theorem gU:ax ["texts", "text"] ["texts"] (ao jt):=sM
theorem tW {f fG:Addr}{fd fdG:FuncData}(F:Fun K "check_names" "check_names" jt f fd)(T:Txt mg)(GG:Cl P w K mg base CX0 1 "good_name" ["text"] l4 fG fdG) :
   aU P w K mg base CX0 2 f fd ["texts"] (jy K):=by
 refine oq F gU fun cdv A outer s H vs Q E hr h=>?_;obtain⟨l,ws,rfl,hl,hlen,hnd,hnm,q⟩:=h
 refine⟨_,aN (bq PassesOwn.never rfl (aY (pv 0)) (pN 1 gU.nd)
     (ah (aC (cf (bL (pC GG hr az (aa (pv 1) ae)))) cE am)))
   (ah (aC (aq jc (al lL (by rfl) T.len Ac (aa (cu (nH rfl) (by rfl) T.set (by decide) (aa (pv 0) ae)) ae)) (al au (by rfl) T.len Ac (aa (pv 0) ae)) (aw _)) cE am)),?_⟩
 try dsimp only[aF,aO]
 have hs:=aL;walk_at"";refine⟨⟨_,hl⟩,?_⟩;refine bn (H0:=H) (aE hl) (fun i σ' H'=>∃ o,σ'=[some (.ref l),o]∧af H H') ⟨none,rfl,af.refl H⟩ (fun _ _ _ _ ⟨_,_,h⟩=>h) ?_ ?_
 . rintro i x σ H' hi hx ⟨o,rfl,hS⟩;rw[zX] at hx;obtain⟨z,hz,rfl⟩:=Option.map_eq_some_iff.mp hx;have hzm:=hnm z (z6 hz);have h8:=vv hzm;walk_at"";refine⟨z,rfl,by omega,fun H2 S2=>?_⟩;rw[hzm];exact⟨_,rfl,hS.trans S2⟩
 . rintro σ H' ⟨o,rfl,hS⟩;walk_at"";refine⟨_,hS.seq hl,by omega,fun p hp=>⟨_,ac,_,.inl ((hS.step (hS.free hp)).seq hl),rfl,?_⟩⟩;rw[be,sx hnd];refine aB (fun h=>absurd rfl h) (fun _=>q _ (hS.step (hS.free hp)))
def lK (K:PySem.W.Frag):Sp:=fun vs H Q _=>∃ (l:Addr)(ws:List Str),vs=[.ref l]∧SqL K H l (ws.map V.str)∧1≤ws.length∧ws.length≤12∧ws.Nodup∧(∀ x∈ws,bc x=true)∧∀ H',af H H'→Q .non H'
theorem lH:ax ["shades"] ["shades"] (ao ii):=sM
theorem qD {f fG:Addr}{fd fdG:FuncData}(F:Fun K "check_shades" "check_shades" ii f fd)(T:Txt mg)(TB:v4 mg)(GG:Cl P w K mg base CX0 2 "check_names" ["texts"] (jy K) fG fdG) :
   aU P w K mg base CX0 3 f fd ["shades"] (lK K):=by
 refine oq F lH fun cdv A outer s H vs Q E hr h=>?_;obtain⟨l,ws,rfl,hl,hlen1,hlen,hnd,hnm,q⟩:=h;obtain⟨tg,hms⟩:=TB.mostS
 refine⟨_,aN (aC (aq cW (al au (by rfl) T.len Ac (aa (pv 0) ae)) ag (aw _)) cE am)
   (aN (aC (aq fE (al au (by rfl) T.len Ac (aa (pv 0) ae)) (bi (v:=.int 12) rfl hms ⟨_,rfl⟩) (aw _)) cE am)
   (ah (aM (pC GG hr az (aa (pv 0) ae))))),?_⟩
 try dsimp only[aF,aO]
 have hs:=aL;walk_at"";refine⟨_,.inl hl,?_⟩;rw[be];refine aB (fun h=>absurd h (by omega)) (fun _=>⟨_,.inl hl,?_⟩);rw[be];refine aB (fun h=>absurd h (by omega)) (fun _=>⟨l,ws,rfl,hl,by omega,hnd,hnm,q⟩)
def rq (K:PySem.W.Frag):Sp:=fun vs H Q _=>∃ (l lo:Addr)(ss os:List Str),vs=[.ref l,.ref lo]∧SqL K H l (ss.map V.str)∧SqL K H lo (os.map V.str)∧os.length=ss.length∧ss.length≤100∧(∀ x∈os,x∈ss)∧∀ H',af H H'→Q .non H'
theorem jv:ax ["shades", "outs", "shade"] ["shades", "outs"] (ao l7):=sM
theorem uh {f:Addr}{fd:FuncData}(F:Fun K "check_outs" "check_outs" l7 f fd)(T:Txt mg) :
   aU P w K mg base CX0 1 f fd ["shades", "outs"] (rq K):=by
 refine oq F jv fun cdv A outer s H vs Q E hr h=>?_;obtain⟨l,lo,ss,os,rfl,hl,hlo,hlen,hlen2,hin,q⟩:=h
 refine⟨_,aN (aC (aq jc (al au (by rfl) T.len Ac (aa (pv 1) ae)) (al au (by rfl) T.len Ac (aa (pv 0) ae)) (aw _)) cE am)
   (ah (bq PassesOwn.never rfl (aY (pv 1)) (pN 2 jv.nd)
     (ah (aC (aq cC (pv 2) (pv 0) (by with_unfolding_all rfl)) cE am)))),?_⟩
 try dsimp only[aF,aO]
 have hs:=aL;walk_at"";refine⟨_,.inl hlo,_,.inl hl,rfl,?_⟩;rw[be,be];refine aB (fun h=>absurd (by rw[hlen]) h) (fun _=>⟨⟨_,hlo⟩,?_⟩);refine bn (H0:=H) (aE hlo) (fun i σ' H'=>∃ o,σ'=[some (.ref l),some (.ref lo),o]∧H'=H) ⟨none,rfl,rfl⟩ (fun _ _ _ _ ⟨_,_,h⟩=>by rw[h];exact af.refl _) ?_ ?_
 . rintro i x σ H' hi hx ⟨o,rfl,rfl⟩;rw[zX] at hx;obtain⟨z,hz,rfl⟩:=Option.map_eq_some_iff.mp hx;walk_at"";refine⟨_,.inl hl,rfl,cT ss,?_⟩;rw[cY,decide_eq_true (hin z (z6 hz))];exact⟨_,rfl⟩
 . rintro σ H' ⟨o,rfl,rfl⟩;exact q _ (af.refl _)
def om (K:PySem.W.Frag):Sp:=fun vs H Q _=>∃ (l lb:Addr)(ss:List Str)(bs:List (Str×List Str)),vs=[.ref l,.ref lb]∧SqL K H l (ss.map V.str)∧ig H lb bs∧aP ss bs∧∀ H',af H H'→Q .non H'
theorem eY:ax ["shades", "baths", "name", "outs"] ["shades", "baths"] (ao jp):=sM
theorem sV {f fG fO:Addr}{fd fdG fdO:FuncData}(F:Fun K "check_baths" "check_baths" jp f fd)(T:Txt mg)(TB:v4 mg)(GG:Cl P w K mg base CX0 2 "check_names" ["texts"] (jy K) fG fdG)
   (GO:Cl P w K mg base CX0 1 "check_outs" ["shades", "outs"] (rq K) fO fdO) :
   aU P w K mg base CX0 3 f fd ["shades", "baths"] (om K):=by
 refine oq F eY fun cdv A outer s H vs Q E hr h=>?_;obtain⟨l,lb,ss,bs,rfl,hl,⟨ps,hlb,hpl,hB⟩,B,q⟩:=h;obtain⟨tg,hms⟩:=TB.mostB;have hr1:=hr.mono (j:=1) (by omega)
 refine⟨_,aN (aC (aq fE (al au (by rfl) T.len Ac (aa (pv 1) ae)) (bi (v:=.int 8) rfl hms ⟨_,rfl⟩) (aw _)) cE am)
   (aj (aM (pC GG hr az (aa (fe (N':=["name", "outs"]) (pk:=[none,none]) rfl (bW.of (by rfl)) (aY (pv 1)) (fun s H ex=>(cz (n:=2) rfl (aH (pN 0 (by show(["name", "outs"]:List Str).Nodup;decide)) (aH (pN 1 (by show(["name", "outs"]:List Str).Nodup;decide)) bT)):PG _ _ (kx K 2 (bO (bB 0) (bO (bB 1) iO)))))
       (fun s H ex=>pv 0)) ae)))
   (ah (bq PassesOwn.never rfl (aY (pv 1)) (cz (n:=2) rfl (aH (pN 2 eY.nd) (aH (pN 3 eY.nd) bT)))
     (ah (aM (pC GO hr1 az (aa (pv 0) (aa (pv 3) ae)))))))),?_⟩
 try dsimp only[aF,aO]
 have hs:=aL;walk_at"";have hb8:=B.b8;have hs12:=B.s12;refine⟨_,.inl (SqL.of hlb),?_⟩;rw[be];refine aB (fun h=>absurd h (by omega)) (fun _=>?_);refine cut (fun σ' H'=>σ'=[some (.ref l),some (.ref lb),none,none]∧af H H') ?_ ?_
 . walk_at"";refine⟨⟨_,SqL.of hlb⟩,fun D hD=>?_⟩;refine cG (aE (SqL.of hlb)) (by rw[be];omega) hD (fun σ=>∃ o1 o2,σ=[o1,o2]) (fun k=>V.str (bs.getD k (⟨#[]⟩,[])).1) ⟨none,none,rfl⟩ ?_ ?_
   . rintro k x σ' H3 hk hx ⟨o1,o2,rfl⟩ hS3 R hR;rw[zX] at hx;obtain⟨y,hy,rfl⟩:=Option.map_eq_some_iff.mp hx;obtain⟨b,hb⟩:∃ b,bs[k]?=some b:=⟨_,zW (by rw[be] at hk;omega)⟩;obtain⟨lo,ht,hlo⟩:=hB k y b hy hb;refine em (hS3 _ _ ht) ?_;walk_at""
     have e:(bs.getD k (⟨#[]⟩,[]))=b:=by rw[zZ,hb];rfl
     have:=hR [some (V.str b.1),some (V.ref lo)] ⟨_,_,rfl⟩;rw[e] at this;exact this
   . have e:(Ab (ps.map V.ref).length).map (fun k=>V.str (bs.getD k (⟨#[]⟩,[])).1)=(bs.map (·.1)).map V.str:=by
       rw[AH];refine cA _ bs _ _ (by rw[be,hpl]) fun k x hx=>?_;rw[zZ,hx];rfl
     rw[e];refine⟨D,bs.map (·.1),rfl,SqL.of ac,by rw[be];omega,B.bnd,fun x hx=>?_,fun H' S'=>(af.updN hD).trans S'⟩;obtain⟨b,hb,rfl⟩:=List.mem_map.mp hx;exact B.bnm b hb
 rintro σ1 H1 ⟨rfl,S1⟩;walk_at"";refine⟨⟨_,SqL.of (S1 _ _ hlb)⟩,?_⟩;refine bn (H0:=H) (aE (SqL.of hlb)) (fun i σ' H'=>∃ o2 o3,σ'=[some (.ref l),some (.ref lb),o2,o3]∧af H H') ⟨none,none,rfl,S1⟩ (fun _ _ _ _ ⟨_,_,_,h⟩=>h) ?_ ?_
 . rintro i x σ H' hi hx ⟨o2,o3,rfl,hS⟩;rw[zX] at hx;obtain⟨y,hy,rfl⟩:=Option.map_eq_some_iff.mp hx;obtain⟨b,hb⟩:∃ b,bs[i]?=some b:=⟨_,zW (by rw[be] at hi;omega)⟩;obtain⟨lo,ht,hlo⟩:=hB i y b hy hb;have hbm:b∈bs:=z6 hb;refine em (hS _ _ ht) ?_;walk_at"";exact⟨l,lo,ss,b.2,rfl,hS.seq hl,SqL.of (hS _ _ hlo),B.bln b hbm,by omega,B.bin b hbm,fun H2 S2=>hS.trans S2⟩
 . rintro σ H' ⟨o2,o3,rfl,hS⟩;exact q _ hS
def bx (H:Hp)(C x:Addr)(ss:List Str)(bs:List (Str×List Str)):Prop :=
 ∃ (dx t d:Addr)(so:List Str),H x=some (.ins C dx [("order",.ref t),("tables",.ref d)])∧H t=some (.tup (so.map V.str))∧so.Perm ss∧AC so=true∧ik H d ss bs
theorem af.book {H H':Hp}{C x:Addr}{ss:List Str}{bs:List (Str×List Str)}(S:af H H')(h:bx H C x ss bs):bx H' C x ss bs:=by
 obtain⟨dx,t,d,so,h1,h2,h3,h4,h5⟩:=h;exact⟨dx,t,d,so,S _ _ h1,S _ _ h2,h3,h4,af.tabs S h5⟩
theorem rZ {H:Hp}{x C dx l:Addr}{fs:List (Str×V)}{xs:List V}(hx:H x=some (.ins C dx fs))(h:SqL K H l xs):SqL K (hide H x) l xs:=by
 rcases h with (h | ⟨o,h⟩) | h
 . exact .inl (.inl (by rw[aW (fun e=>by rw[e,hx] at h;cases h)];exact h))
 . exact .inl (.inr ⟨o,by rw[aW (fun e=>by rw[e,hx] at h;cases h)];exact h⟩)
 . exact .inr h
theorem lN {H:Hp}{x C dx lb:Addr}{fs:List (Str×V)}{bs:List (Str×List Str)}(hx:H x=some (.ins C dx fs))(h:ig H lb bs):ig (hide H x) lb bs:=by
 obtain⟨ps,h1,h2,h3⟩:=h;refine⟨ps,by rw[aW (fun e=>by rw[e,hx] at h1;cases h1)];exact h1,h2,fun i p b hp hb=>?_⟩;obtain⟨o,e1,e2⟩:=h3 i p b hp hb;exact⟨o,by rw[aW (fun e=>by rw[e,hx] at e1;cases e1)];exact e1,by rw[aW (fun e=>by rw[e,hx] at e2;cases e2)];exact e2⟩
theorem jZ {u:V}:cM (zV "order") u []=[(zV "order",u)]:=rfl
theorem iX {u v:V}:cM (zV "tables") v [(zV "order",u)]=[(zV "order",u),(zV "tables",v)]:=by
 unfold cM;rw[if_neg (by decide)];rfl
theorem f7 {u v:V}:Au (zV "order") [(zV "order",u),(zV "tables",v)]=some u:=by
 rw[Ax,show(zV "order"==zV "order")=true by decide]
theorem cR {u v:V}:Au (zV "tables") [(zV "order",u),(zV "tables",v)]=some v:=by
 rw[Ax,show(zV "tables"==zV "order")=false by decide];show Au _ [(zV "tables",v)]=some v;rw[Ax,show(zV "tables"==zV "tables")=true by decide]
theorem lp:∀ (ks:List Str)(vs:List V)(acc:List (Key×V)),ks.Nodup→(∀ k∈ks,bG acc (Sum.inr k)=none)→cP acc (bX ks vs)=acc++bX ks vs
 | [],vs,acc,_,_=>by
   show cP acc []=acc++[];rw[A2];rfl
 | k::ks,[],acc,_,_=>by
   show cP acc []=acc++[];rw[A2];rfl
 | k::ks,v::vs,acc,hd,hn=>by
   rw[gg];show cP (dj acc (Sum.inr k) v) (bX ks vs)=_;rw[cU _ (hn k Ag),lp ks vs _ (List.nodup_cons.mp hd).2 (fun y hy=>?_),Bv]
   . rfl
   . have hne:¬(Sum.inr y:Key)=Sum.inr k:=fun e=>(List.nodup_cons.mp hd).1 (by rw[←Sum.inr.inj e];exact hy);rw[im _ _ _ _ (hn k Ag),if_neg hne];exact hn y (Ai _ hy)
theorem jM {ks:List Str}{vs:List V}(h:ks.Nodup):cP [] (bX ks vs)=bX ks vs:=by
 rw[lp ks vs [] h (fun _ _=>rfl)];rfl
def yM (K:PySem.W.Frag)(C:Addr):Sp:=fun vs H Q _=>∃ (x dx l lb:Addr)(ss:List Str)(bs:List (Str×List Str)),vs=[.ref x,.ref l,.ref lb]∧H x=some (.ins C dx [])∧SqL K H l (ss.map V.str)∧ig H lb bs∧aP ss bs ∧
 ∀ H',af (hide H x) H'→bx H' C x ss bs→Q .non H'
theorem iV:ax ["self", "shades", "baths", "name", "outs"] ["self", "shades", "baths"] (ao rW):=sM
theorem eM {A:Around}{k:Nat}(hr:cL k A):A.units+1 < cLine:=Ck (Nat.add_le_add_left (by decide:1≤64) _) hr.units
theorem xt {C f fS fB:Addr}{fd fdS fdB:FuncData}(F:Fun K "__init__" "Book.__init__" rW f fd)(T:Txt mg)(c:Cls K C)(nO:NoAttr K C "order")(nT:NoAttr K C "tables")
   (GS:Cl P w K mg base CX0 3 "check_shades" ["shades"] (lK K) fS fdS)
   (GB:Cl P w K mg base CX0 3 "check_baths" ["shades", "baths"] (om K) fB fdB) :
   aU P w K mg base CX0 4 f fd ["self", "shades", "baths"] (yM K C):=by
 refine oq F iV fun cdv A outer s H vs Q E hr h=>?_;obtain⟨x,dx,l,lb,ss,bs,rfl,hx,hl,hb,B,q⟩:=h;have hu:=eM hr
 refine⟨_,aj (aM (pC GS hr az (aa (pv 1) ae)))
   (aj (aM (pC GB hr az (aa (pv 1) (aa (pv 2) ae))))
   (aj (eJ (pv 0) (cu gu (by rfl) T.tuple (by decide) (aa (al dR (by rfl) T.sorted (by decide) (aa (pv 1) ae)) ae)) rfl)
   (aj (eJ (pv 0) ee rfl)
   (ah (bq PassesOwn.never rfl (aY (pv 2)) (cz (n:=2) rfl (aH (pN 3 iV.nd) (aH (pN 4 iV.nd) bT)))
     (ah (dF hu (bD (pv 0) rfl) (pv 3) (km rfl (by rfl) T.dict (by rfl) T.zip (aa (pv 1) (aa (pv 4) ae))) rfl))))))),?_⟩
 try dsimp only[aF,aO]
 have hs:=aL;have hl0:=rZ hx hl;have hb0:=lN hx hb;generalize hH0:hide H x=H0 at hl0 hb0 q
 have SH:af H0 H:=by rw[←hH0];exact bP
 have hx0:H0 x=none:=by rw[←hH0];unfold hide;rw[if_pos rfl]
 refine cut (fun σ' H'=>σ'=[some (.ref x),some (.ref l),some (.ref lb),none,none]∧af H H') ?_ ?_
 . walk_at"";exact⟨l,ss,rfl,hl,B.s1,B.s12,B.snd,B.snm,fun H' S'=>S'⟩
 rintro σ1 H1 ⟨rfl,S1⟩;refine cut (fun σ' H'=>σ'=[some (.ref x),some (.ref l),some (.ref lb),none,none]∧af H H') ?_ ?_
 . walk_at"";exact⟨l,lb,ss,bs,rfl,S1.seq hl,af.bths S1 hb,B,fun H' S'=>S1.trans S'⟩
 rintro σ2 H2 ⟨rfl,S2⟩;have hs12:=B.s12;refine cut (fun σ' H'=>∃ t so,σ'=[some (.ref x),some (.ref l),some (.ref lb),none,none]∧af H0 H'∧H' x=some (.ins C dx [("order",.ref t)])∧H' t=some (.tup (so.map V.str))∧so.Perm ss∧AC so=true) ?_ ?_
 . walk_at"";have S02:af H0 H2:=SH.trans S2;have hx2:=S2 _ _ hx;refine⟨ss,S2.seq hl,by omega,fun p so hp hpm hso=>⟨_,.inl ⟨SqL.of ac,fun t ht=>?_⟩⟩⟩
   have hxp:x≠p:=fun e=>by rw[←e,hx2] at hp;cases hp
   have ht2:H2 t=none:=(af.updN hp).free ht
   have hxt:x≠t:=fun e=>by rw[←e,hx2] at ht2;cases ht2
   refine⟨C,dx,[],by rw[ai hxt,ai hxp];exact hx2,c,nO,by decide,((S02.step (S02.free hp)).step (S02.free ht2)).step hx0,t,by rw[ac,jZ],so,?_,hpm,hso⟩;rw[ai (Ne.symm hxt)];exact ac
 rintro σ3 H3 ⟨t,so,rfl,S3,hx3,ht3,hpm,hso⟩;refine cut (fun σ' H'=>∃ d,σ'=[some (.ref x),some (.ref l),some (.ref lb),none,none]∧H3 d=none∧H'=upd (upd H3 d (.dK [])) x (.ins C dx [("order",.ref t),("tables",.ref d)])) ?_ ?_
 . walk_at"";intro d hd
   have hxd:x≠d:=fun e=>by rw[←e,hx3] at hd;cases hd
   exact⟨C,dx,_,by rw[ai hxd];exact hx3,c,nT,by rw[Aa];decide,d,hd,by rw[iX]⟩
 rintro σ4 H4 ⟨d,rfl,hd3,rfl⟩
 have hxd:x≠d:=fun e=>by rw[←e,hx3] at hd3;cases hd3
 have htx:t≠x:=fun e=>by rw[e,hx3] at ht3;cases ht3
 have htd:t≠d:=fun e=>by rw[←e,ht3] at hd3;cases hd3
 have hd0:H0 d=none:=S3.free hd3;obtain⟨ps,hlb,hpl,hB⟩:=hb0;have hb8:=B.b8;have S4:af H0 (upd (upd H3 d (.dK [])) x (.ins C dx [("order",.ref t),("tables",.ref d)])):=(S3.step hd0).step hx0;walk_at"";refine⟨⟨_,SqL.of (S4 _ _ hlb)⟩,?_⟩
 refine bn (H0:=H0) (aE (SqL.of hlb)) (fun i σ' H'=>∃ (ds:List Addr)(o3 o4:Option V),σ'=[some (.ref x),some (.ref l),some (.ref lb),o3,o4]∧af H0 H'∧H' x=some (.ins C dx [("order",.ref t),("tables",.ref d)])∧H' t=some (.tup (so.map V.str)) ∧
   H' d=some (.dK (bX ((bs.map (·.1)).take i) (ds.map V.ref)))∧ds.length=i∧∀ (j:Nat) r b,ds[j]?=some r→bs[j]?=some b→hide H' d r=some (.dK (il ss b)))
   ⟨[],none,none,rfl,S4,ac,(by rw[ai htx,ai htd];exact ht3),(by rw[ai (Ne.symm hxd)];exact ac),rfl,(by intro j r b h;simp at h)⟩ (fun _ _ _ _ ⟨_,_,_,_,h,_⟩=>h) ?_ ?_
 . rintro i y σ H' hi hy ⟨ds,o3,o4,rfl,hS,hHx,hHt,hHd,hdl,hD⟩;rw[zX] at hy;obtain⟨pr,hpr,rfl⟩:=Option.map_eq_some_iff.mp hy;rw[be,hpl] at hi;obtain⟨b,hb⟩:∃ b,bs[i]?=some b:=⟨_,zW hi⟩;obtain⟨lo,ht,hlo⟩:=hB i pr b hpr hb;have hbm:b∈bs:=z6 hb
   have hk:(bs.map (·.1))[i]?=some b.1:=by rw[zX,hb];rfl
   have hnk:b.1∉(bs.map (·.1)).take i:=eS B.bnd hk
   have hln:((bs.map (·.1)).take i).length=(ds.map V.ref).length:=by rw[Ao,be,be,hdl];omega
   have hbl:b.2.length=ss.length:=B.bln b hbm;refine em (hS _ _ ht) ?_;walk_at"";refine⟨ss,hS.seq hl0,_,SqL.of (hS _ _ hlo),by rw[be];exact hbl.symm,by omega,fun r hr=>?_⟩;rw[jM B.snd]
   have hxr:x≠r:=fun e=>by rw[←e,hHx] at hr;cases hr
   have htr:t≠r:=fun e=>by rw[←e,hHt] at hr;cases hr
   have hrd:r≠d:=fun e=>by rw[e,hHd] at hr;cases hr
   refine⟨C,dx,_,by rw[ai hxr];exact hHx,c,nT,_,cR,d,rfl,_,.inl ⟨_,Sum.inr b.1,by rw[ai (Ne.symm hrd)];exact hHd,rfl,by rw[fL hln,Ao];omega,rfl⟩,(hS.step (hS.free hr)).step hd0,by rw[ai hxd,ai hxr];exact hHx,by rw[ai htd,ai htr];exact hHt,ds++[r],?_,by rw[zY,hdl];rfl,fun j r2 b2 hr2 hb2=>?_⟩
   . rw[ac,cU _ (bV _ _ _ hnk),bw hk,z8];exact congrArg (fun z=>some (HO.dK z)) (eT b.1 (V.ref r) hln).symm
   . rw[ef];by_cases hj:j < i
     . rw[Af (by omega)] at hr2;exact af.hide (af.updN hr) _ _ (hD j r2 b2 hr2 hb2)
     . have hj2:j=i:=by
         have:=(List.getElem?_eq_some_iff.mp hr2).1;rw[zY,hdl] at this;simp only[Aa] at this;omega
       subst hj2;rw[z9 (by omega),hdl,AL] at hr2;cases hr2;rw[hb] at hb2;cases hb2;rw[aW hrd,ac];rfl
 . rintro σ H' ⟨ds,o3,o4,rfl,hS,hHx,hHt,hHd,hdl,hD⟩;rw[be,hpl] at hHd hdl;refine q H' hS ⟨dx,t,d,so,hHx,hHt,hpm,hso,ds,.inl ?_,hdl,fun j r b hr hb=>.inl (bP _ _ (hD j r b hr hb))⟩;rw[hHd,AQ (by rw[be];exact z7 _)]
def lkV (ss:List Str)(b:Str×List Str) (z:Str):Str:=match bG (il ss b) (Sum.inr z) with
 | some (.str y)=>y
 | _=>⟨#[]⟩
theorem mn {ss:List Str}{b:Str×List Str}{z:Str}(hd:ss.Nodup)(hl:b.2.length=ss.length)(hz:z∈ss):bG (il ss b) (Sum.inr z)=some (V.str (lkV ss b z)):=by
 obtain⟨i,hi⟩:=AX hz
 have hil:i < b.2.length:=by rw[hl];exact(List.getElem?_eq_some_iff.mp hi).1
 have e:bG (il ss b) (Sum.inr z)=some (V.str b.2[i]):=dH ss (b.2.map V.str) i z _ hd hi (by rw[zX,zW hil];rfl);unfold lkV;rw[e]
theorem ik.get {H:Hp}{d:Addr}{ss:List Str}{bs:List (Str×List Str)}(B:aP ss bs)(h:ik H d ss bs){b:Str×List Str}(hb:b∈bs):∃ r,kT H d (.str b.1) (some (.ref r))∧Rd H r (.dK (il ss b)):=by
 obtain⟨ds,h1,h2,h3⟩:=h;obtain⟨i,hi⟩:=AX hb
 have hil:i < ds.length:=by rw[h2];exact(List.getElem?_eq_some_iff.mp hi).1
 have hr:=zW hil;refine⟨ds[i],.inl ⟨_,Sum.inr b.1,h1,rfl,?_⟩,h3 i _ b hr hi⟩;exact(dH _ _ i _ _ B.bnd (by rw[zX,hi];rfl) (by rw[zX,hr];rfl)).symm
theorem bQ {m:Str}{u v:V}(h1:(m==zV "order")=false)(h2:(m==zV "tables")=false):Au m [(zV "order",u),(zV "tables",v)]=none:=by
 rw[Ax,h1];show Au m [(zV "tables",v)]=none;rw[Ax,h2];rfl
def jU (C:Addr):Sp:=fun vs H Q _=>∃ (x:Addr)(ss:List Str)(bs:List (Str×List Str))(b:Str×List Str),vs=[.ref x,.str b.1]∧bx H C x ss bs∧aP ss bs∧b∈bs∧Q .non H
theorem oA:ax ["self", "bath"] ["self", "bath"] (ao js):=sM
theorem sX {C f:Addr}{fd:FuncData}(F:Fun K "check_bath" "Book.check_bath" js f fd)(c:Cls K C)(nT:NoAttr K C "tables"):aU P w K mg base CX0 1 f fd ["self", "bath"] (jU C):=by
 refine oq F oA fun cdv A outer s H vs Q E hr h=>?_;obtain⟨x,ss,bs,b,rfl,⟨dx,t,d,so,h1,h2,h3,h4,h5⟩,B,hb,q⟩:=h;have hu:=eM hr;refine⟨_,ah (aC (fu (dw hu (pv 1) (bD (pv 0) rfl))) cE am),?_⟩
 try dsimp only[aF,aO]
 obtain⟨r,hg,hr⟩:=ik.get B h5 hb;walk_at"";exact⟨C,dx,_,h1,c,nT,_,cR,d,rfl,_,hg,q⟩
def ir (C:Addr):Sp:=fun vs H Q _=>∃ (x:Addr)(ss:List Str)(bs:List (Str×List Str)),vs=[.ref x]∧bx H C x ss bs∧aP ss bs∧∀ l so,H l=none→so.Perm ss→AC so=true→Q (.ref l) (upd H l (.lst (so.map V.str)))
theorem tz:ax ["self"] ["self"] (ao jW):=sM
theorem qt {C f:Addr}{fd:FuncData}(F:Fun K "shades" "Book.shades" jW f fd)(T:Txt mg)(c:Cls K C)(nO:NoAttr K C "order"):aU P w K mg base CX0 1 f fd ["self"] (ir C):=by
 refine oq F tz fun cdv A outer s H vs Q E hr h=>?_;obtain⟨x,ss,bs,rfl,⟨dx,t,d,so,h1,h2,h3,h4,h5⟩,B,q⟩:=h;refine⟨_,ah (ap (cu dW (by rfl) T.list (by decide) (aa (bD (pv 0) rfl) ae))),?_⟩
 try dsimp only[aF,aO]
 walk_at"";exact⟨C,dx,_,h1,c,nO,_,f7,t,rfl,_,.inr (SqT.of h2),fun l hl=>q l so hl h3 h4⟩
def kC (C:Addr):Sp:=fun vs H Q _=>∃ (x:Addr)(ss:List Str)(bs:List (Str×List Str)),vs=[.ref x]∧bx H C x ss bs∧aP ss bs∧∀ l ns,H l=none→ns.Perm (bs.map (·.1))→AC ns=true→Q (.ref l) (upd H l (.lst (ns.map V.str)))
theorem vo:ax ["self"] ["self"] (ao mX):=sM
theorem sI {C f:Addr}{fd:FuncData}(F:Fun K "baths" "Book.baths" mX f fd)(T:Txt mg)(c:Cls K C)(nT:NoAttr K C "tables"):aU P w K mg base CX0 1 f fd ["self"] (kC C):=by
 refine oq F vo fun cdv A outer s H vs Q E hr h=>?_;obtain⟨x,ss,bs,rfl,⟨dx,t,d,so,h1,h2,h3,h4,ds,h5,h6,h7⟩,B,q⟩:=h;have hb8:=B.b8;refine⟨_,ah (ap (al (dU rfl) (by rfl) T.sorted (by decide) (aa (bD (pv 0) rfl) ae))),?_⟩
 try dsimp only[aF,aO]
 walk_at"";refine⟨C,dx,_,h1,c,nT,_,cR,d,rfl,bs.map (·.1),_,h5,lP (by rw[be,be,h6]),by rw[be];omega,fun l ns hl hp hs=>q l ns hl hp hs⟩
def jT (C:Addr):Sp:=fun vs H Q _=>∃ (x:Addr)(ss:List Str)(bs:List (Str×List Str))(b:Str×List Str),vs=[.ref x,.str b.1]∧bx H C x ss bs∧aP ss bs∧b∈bs ∧
 ∀ l so,H l=none→so.Perm ss→AC so=true→Q (.ref l) (upd H l (.lst ((so.map (lkV ss b)).map V.str)))
theorem uk:ax ["self", "bath"] ["self", "bath"] (ao ms):=sM
theorem tJ {C f fC:Addr}{fd fdC:FuncData}(F:Fun K "table" "Book.table" ms f fd)(c:Cls K C)(nO:NoAttr K C "order")(nT:NoAttr K C "tables")
   (GC:Cm P w K mg base CX0 1 C "check_bath" ["self", "bath"] (jU C) fC fdC):aU P w K mg base CX0 2 f fd ["self", "bath"] (jT C):=by
 refine oq F uk fun cdv A outer s H vs Q E hr h=>?_;obtain⟨x,ss,bs,b,rfl,hbk,B,hb,q⟩:=h;have hu:=eM hr
 refine⟨_,aN (aM (pM (pv 0) c GC hr az (aa (pv 1) ae)))
   (ah (ap (fe (N':=["shade", "self", "bath"]) (pk:=[none,some 0,some 1]) rfl (bW.of (by rfl)) (yu (bD (pv 0) rfl)) (fun s H ex=>pN 0 (by show(["shade", "self", "bath"]:List Str).Nodup;decide))
       (fun s H ex=>cx hu (cx hu ((bD (pv 1) rfl):PE _ _ (wF K (k4 1) "tables")) (pv 2) (fun _ _=>rfl)) (pv 0) (fun _ _=>rfl))))),?_⟩
 try dsimp only[aF,aO]
 obtain⟨dx,t,d,so,h1,h2,h3,h4,h5⟩:=hbk;have hs:=aL;walk_at"";refine⟨dx,_,h1,bQ (by decide) (by decide),x,ss,bs,b,rfl,⟨dx,t,d,so,h1,h2,h3,h4,h5⟩,B,hb,C,dx,_,h1,c,nO,_,f7,t,rfl,⟨_,SqT.of h2⟩,fun D hD=>?_⟩;have hsl:so.length=ss.length:=h3.length_eq;have hs12:=B.s12;refine cG (qK (SqT.of h2)) (by rw[be];omega) hD (fun σ=>∃ o,σ=[o,some (.ref x),some (.str b.1)]) (fun k=>V.str (lkV ss b (so.getD k ⟨#[]⟩))) ⟨none,rfl⟩ ?_ ?_
 . rintro k y σ' H3 hk hy ⟨o,rfl⟩ hS3 R hR;rw[zX] at hy;obtain⟨z,hz,rfl⟩:=Option.map_eq_some_iff.mp hy;have hzs:z∈ss:=h3.mem_iff.mp (z6 hz);obtain⟨r,hg,hr⟩:=ik.get B (af.tabs hS3 h5) hb;walk_at"";refine⟨C,dx,_,hS3 _ _ h1,c,nT,_,cR,d,rfl,_,hg,r,rfl,V.str (lkV ss b z),.inl ⟨_,Sum.inr z,hr,rfl,(mn B.snd (B.bln b hb) hzs).symm⟩,?_⟩
   have e:so.getD k ⟨#[]⟩=z:=by rw[zZ,hz];rfl
   have:=hR [some (V.str z),some (V.ref x),some (V.str b.1)] ⟨_,rfl⟩;rw[e] at this;exact this
 . have e:(Ab (so.map V.str).length).map (fun k=>V.str (lkV ss b (so.getD k ⟨#[]⟩)))=(so.map (lkV ss b)).map V.str:=by
     rw[AH];refine cA _ so _ _ (by rw[be]) fun k y hy=>?_;rw[zZ,hy];rfl
   rw[e];exact q D so hD h3 h4
def k6 (C:Addr):Sp:=fun vs H Q _=>∃ (x:Addr)(ss:List Str)(bs:List (Str×List Str)) (z:Str),vs=[.ref x,.str z]∧bx H C x ss bs∧z∈ss∧Q .non H
theorem lS:ax ["self", "shade"] ["self", "shade"] (ao g9):=sM
theorem qy {C f:Addr}{fd:FuncData}(F:Fun K "check_shade" "Book.check_shade" g9 f fd)(c:Cls K C)(nO:NoAttr K C "order"):aU P w K mg base CX0 1 f fd ["self", "shade"] (k6 C):=by
 refine oq F lS fun cdv A outer s H vs Q E hr h=>?_;obtain⟨x,ss,bs,z,rfl,⟨dx,t,d,so,h1,h2,h3,h4,h5⟩,hz,q⟩:=h;refine⟨_,ah (aC (aq cC (pv 1) (bD (pv 0) rfl) (by with_unfolding_all rfl)) cE am),?_⟩
 try dsimp only[aF,aO]
 have hzo:z∈so:=h3.mem_iff.mpr hz;walk_at"";refine⟨C,dx,_,h1,c,nO,_,f7,t,rfl,_,.inr (SqT.of h2),rfl,cT so,?_⟩;rw[cY,decide_eq_true hzo];exact q
def qv (C:Addr):Sp:=fun vs H Q _=>∃ (x:Addr)(ss:List Str)(bs:List (Str×List Str))(b:Str×List Str) (z:Str),vs=[.ref x,.str b.1,.str z]∧bx H C x ss bs∧aP ss bs∧b∈bs∧z∈ss∧Q (.str (lkV ss b z)) H
theorem yG:ax ["self", "bath", "shade"] ["self", "bath", "shade"] (ao uA):=sM
theorem wE {C f fC fS:Addr}{fd fdC fdS:FuncData}(F:Fun K "out" "Book.out" uA f fd)(c:Cls K C)(nT:NoAttr K C "tables")
   (GC:Cm P w K mg base CX0 1 C "check_bath" ["self", "bath"] (jU C) fC fdC)
   (GS:Cm P w K mg base CX0 1 C "check_shade" ["self", "shade"] (k6 C) fS fdS):aU P w K mg base CX0 2 f fd ["self", "bath", "shade"] (qv C):=by
 refine oq F yG fun cdv A outer s H vs Q E hr h=>?_;obtain⟨x,ss,bs,b,z,rfl,hbk,B,hb,hz,q⟩:=h;have hu:=eM hr
 refine⟨_,aN (aM (pM (pv 0) c GC hr az (aa (pv 1) ae)))
   (aN (aM (pM (pv 0) c GS hr az (aa (pv 2) ae)))
   (ah (ap (cx hu (cx hu (bD (pv 0) rfl) (pv 1) (fun _ _=>rfl)) (pv 2) (fun _ _=>rfl))))),?_⟩
 try dsimp only[aF,aO]
 obtain⟨dx,t,d,so,h1,h2,h3,h4,h5⟩:=hbk;obtain⟨r,hg,hr⟩:=ik.get B h5 hb;walk_at"";refine⟨dx,_,h1,bQ (by decide) (by decide),x,ss,bs,b,rfl,⟨dx,t,d,so,h1,h2,h3,h4,h5⟩,B,hb,dx,_,h1,bQ (by decide) (by decide),x,ss,bs,z,rfl,⟨dx,t,d,so,h1,h2,h3,h4,h5⟩,hz,?_⟩;exact⟨C,dx,_,h1,c,nT,_,cR,d,rfl,_,hg,r,rfl,_,.inl ⟨_,Sum.inr z,hr,rfl,(mn B.snd (B.bln b hb) hz).symm⟩,q⟩
theorem uT:ax ["_law_shades", "_law_baths"] ["_law_shades", "_law_baths"] (ao mY):=sM
def Fz (H H':Hp):Prop:=(∀ b o,H b=some o→(∀ kvs,o≠.dK kvs)→H' b=some o)∧(∀ b o,Rd H b o→Rd H' b o)
theorem af.fz {H H':Hp}(S:af H H'):Fz H H':=⟨fun b o h _=>S b o h,fun b o h=>af.rd S h⟩
theorem Fz.refl (H:Hp):Fz H H:=⟨fun _ _ h _=>h,fun _ _ h=>h⟩
theorem Fz.trans {H H1 H2:Hp}(a:Fz H H1)(b:Fz H1 H2):Fz H H2:=⟨fun c o h n=>b.1 c o (a.1 c o h n) n,fun c o h=>b.2 c o (a.2 c o h)⟩
theorem tI {H:Hp}{d:Addr}{kvs:List (Key×V)}{u:Obj}(h:H d=some (.dK kvs)):Fz H (upd H d (.frz u (.dK kvs))):=by
 refine⟨fun b o hb n=>?_,fun b o hb=>?_⟩
 . have hne:b≠d:=fun e=>n kvs (by rw[e,h] at hb;cases hb;rfl);rw[ai hne];exact hb
 . by_cases e:b=d
   . subst e
     rcases hb with hb | ⟨v,hb⟩
     . rw[h] at hb;cases hb;exact .inr ⟨u,ac⟩
     . rw[h] at hb;cases hb
   . rcases hb with hb | ⟨v,hb⟩
     . exact .inl (by rw[ai e];exact hb)
     . exact .inr ⟨v,by rw[ai e];exact hb⟩
theorem Fz.tabs {H H':Hp}{d:Addr}{ss:List Str}{bs:List (Str×List Str)}(S:Fz H H')(h:ik H d ss bs):ik H' d ss bs:=by
 obtain⟨ds,h1,h2,h3⟩:=h;exact⟨ds,S.2 _ _ h1,h2,fun i r b hr hb=>S.2 _ _ (h3 i r b hr hb)⟩
theorem Fz.book {H H':Hp}{C x:Addr}{ss:List Str}{bs:List (Str×List Str)}(S:Fz H H')(h:bx H C x ss bs):bx H' C x ss bs:=by
 obtain⟨dx,t,d,so,h1,h2,h3,h4,h5⟩:=h;exact⟨dx,t,d,so,S.1 _ _ h1 (fun _ e=>by cases e),S.1 _ _ h2 (fun _ e=>by cases e),h3,h4,Fz.tabs S h5⟩
theorem Fz.seq {H H':Hp}{a:Addr}{xs:List V}(S:Fz H H')(h:SqL K H a xs):SqL K H' a xs:=by
 rcases h with h | h
 . exact .inl (S.2 _ _ h)
 . exact .inr h
def de (H:Hp)(d:Addr)(ss ns:List Str)(lk:Str→Str→Str):Prop :=
 ∃ kvs:List (Key×V),Rd H d (.dK kvs)∧kvs.map (·.1)=ns.map Sum.inr∧∀ n∈ns,∃ r kv,bG kvs (Sum.inr n)=some (.ref r)∧Rd H r (.dK kv)∧∀ z∈ss,bG kv (Sum.inr z)=some (.str (lk n z))
theorem Fz.tabG {H H':Hp}{d:Addr}{ss ns:List Str}{lk:Str→Str→Str}(S:Fz H H')(h:de H d ss ns lk):de H' d ss ns lk:=by
 obtain⟨kvs,h1,h2,h3⟩:=h;refine⟨kvs,S.2 _ _ h1,h2,fun n hn=>?_⟩;obtain⟨r,kv,e1,e2,e3⟩:=h3 n hn;exact⟨r,kv,e1,S.2 _ _ e2,e3⟩
theorem de.get {H:Hp}{d:Addr}{ss ns:List Str}{lk:Str→Str→Str}(h:de H d ss ns lk){n z:Str}(hn:n∈ns)(hz:z∈ss):∃ r,kT H d (.str n) (some (.ref r))∧kT H r (.str z) (some (.str (lk n z))):=by
 obtain⟨kvs,h1,h2,h3⟩:=h;obtain⟨r,kv,e1,e2,e3⟩:=h3 n hn;exact⟨r,.inl ⟨_,Sum.inr n,h1,rfl,e1.symm⟩,.inl ⟨_,Sum.inr z,e2,rfl,(e3 z hz).symm⟩⟩
def lkB (ss:List Str)(bs:List (Str×List Str)) (n z:Str):Str:=match bs.find? (fun b=>decide (b.1=n)) with
 | some b=>lkV ss b z
 | none=>⟨#[]⟩
theorem fk {ss:List Str}:∀ {bs:List (Str×List Str)}{b:Str×List Str} (z:Str),(bs.map (·.1)).Nodup→b∈bs→lkB ss bs b.1 z=lkV ss b z
 | [],_,_,_,h=>by cases h
 | a::bs,b,z,hd,h=>by
   unfold lkB;by_cases e:a.1=b.1
   . rw[List.find?_cons_of_pos (by simp[e])]
     rcases List.mem_cons.mp h with rfl | hm
     . rfl
     . exact absurd (AA (f:=(·.1)) hm) (by rw[An,BS] at hd;rw[←e];exact hd.1)
   . rw[List.find?_cons_of_neg (by simp[e])]
     have hm:b∈bs:=by
       rcases List.mem_cons.mp h with rfl | hm
       . exact absurd rfl e
       . exact hm
     rw[An,BS] at hd;exact fk z hd.2 hm
theorem ik.toG {H:Hp}{d:Addr}{ss:List Str}{bs:List (Str×List Str)}(B:aP ss bs)(h:ik H d ss bs):de H d ss (bs.map (·.1)) (lkB ss bs):=by
 obtain⟨ds,h1,h2,h3⟩:=h;refine⟨_,h1,lP (by rw[be,be,h2]),fun n hn=>?_⟩;obtain⟨b,hb,rfl⟩:=List.mem_map.mp hn;obtain⟨i,hi⟩:=AX hb
 have hil:i < ds.length:=by rw[h2];exact(List.getElem?_eq_some_iff.mp hi).1
 have hr:=zW hil;refine⟨ds[i],_,dH _ _ i _ _ B.bnd (by rw[zX,hi];rfl) (by rw[zX,hr];rfl),h3 i _ b hr hi,fun z hz=>?_⟩;rw[fk z B.bnd hb];exact mn B.snd (B.bln b hb) hz
theorem wl {ss:List Str}{bs:List (Str×List Str)}{b:Str×List Str}{z:Str}(B:aP ss bs)(hb:b∈bs)(hz:z∈ss):lkV ss b z∈ss:=by
 obtain⟨i,hi⟩:=AX hz;have hl:=B.bln b hb
 have hil:i < b.2.length:=by rw[hl];exact(List.getElem?_eq_some_iff.mp hi).1
 have e:bG (il ss b) (Sum.inr z)=some (V.str b.2[i]):=dH ss (b.2.map V.str) i z _ B.snd hi (by rw[zX,zW hil];rfl)
 have e2:lkV ss b z=b.2[i]:=by unfold lkV;rw[e]
 rw[e2];exact B.bin b hb _ (A4 hil)
theorem rM {ss:List Str}{bs:List (Str×List Str)}(B:aP ss bs):∀ n∈bs.map (·.1),∀ z∈ss,lkB ss bs n z∈ss:=fun n hn z hz=>by
 obtain⟨b,hb,rfl⟩:=List.mem_map.mp hn;rw[fk z B.bnd hb];exact wl B hb hz
theorem fh {J:It}{n:Nat}{vs:Nat→V→Prop}{g:TG}{tc:TT}{te:TE}{D:Addr}{Q:Hp→Prop}{σ:St}{H:Hp}(S:d6 J H n vs)(hn:n≤sizeLine)(hD:H D=none)(Pσ:St→Prop)(bt:Nat→Bool)(out:Nat→V)
   (h0:Pσ σ)(step:∀ i x σ' H',i < n→vs i x→Pσ σ'→af H H'→∀ (R1:V→St→Hp→Prop)(R0:St→Hp→Prop),(bt i=true→∀ σ2,Pσ σ2→R1 (out i) σ2 H')→(bt i=false→∀ σ2,Pσ σ2→R0 σ2 H')→g x σ' H' fun σ2 H3=>tc σ2 H3 fun b H3'=>if b=true then te σ2 H3' fun v H4=>R1 v σ2 H4 else R0 σ2 H3')
   (fin:Q (upd H D (.lst (((Ab n).filter bt).map out)))):mq J g tc te D Q σ (upd H D (.lst [])):=by
 refine⟨fun i m σ' H'=>m=n - i∧i≤n∧Pσ σ'∧H'=upd H D (.lst (((Ab i).filter bt).map out)),⟨n,by simp,AN _,h0,rfl⟩,?_⟩;rintro i m σ' H' ⟨rfl,hi,p,rfl⟩;have sm:af H (upd H D (.lst (((Ab i).filter bt).map out))):=af.updN hD;by_cases hlt:i < n
 . refine .inr ⟨S.go i _ hlt sm,fun σ2 H2=>Pσ σ2∧H2=upd H D (.lst (((Ab (i+1)).filter bt).map out)),fun σ2 H2 ⟨p',e⟩=>⟨n - (i+1),by omega,rfl,hlt,p',e⟩,fun x H2 y=>?_⟩;obtain⟨e,hv⟩:=S.yld i _ x H2 hlt sm y;subst e
   have hlen:((Ab i).filter bt).length≤i:=by
     have:=Bf bt (Ab i)
     rwa [Ba] at this
   refine step i x σ' _ hlt hv p sm (fun v σ2 H4=>∃ xs,H4 D=some (.lst xs)∧xs.length < sizeLine∧Pσ σ2∧upd H4 D (.lst (xs++[v]))=upd H D (.lst (((Ab (i+1)).filter bt).map out))) (fun σ2 H4=>Pσ σ2∧H4=upd H D (.lst (((Ab (i+1)).filter bt).map out))) (fun hb σ2 p2=>?_) (fun hb σ2 p2=>⟨p2,?_⟩)
   . refine⟨((Ab i).filter bt).map out,ac,by rw[be];omega,p2,?_⟩;rw[ic,Bt,A7,A9 (by simpa using hb),Bu,z8,BE]
   . rw[Bt,A7,BV (by simpa using hb),Bu,A2]
 . have e:i=n:=by omega
   subst e;exact .inl ⟨S.stop _ sm,fin⟩
def cn (H:Hp)(ps:List Addr)(L:List (List V)):Prop:=ps.length=L.length∧∀ (i:Nat) p e,ps[i]?=some p→L[i]?=some e→H p=some (.tup e)
theorem cn.same {H H':Hp}{ps:List Addr}{L:List (List V)}(S:af H H')(h:cn H ps L):cn H' ps L:=⟨h.1,fun i p e hp he=>S _ _ (h.2 i p e hp he)⟩
theorem cn.snoc {H:Hp}{ps:List Addr}{L:List (List V)}{t:Addr}{e:List V}(h:cn H ps L)(ht:H t=some (.tup e)):cn H (ps++[t]) (L++[e]):=by
 refine⟨by rw[zY,zY,h.1];rfl,fun i p e2 hp he=>?_⟩;by_cases hi:i < ps.length
 . rw[Af hi] at hp;rw[Af (by rw[←h.1];exact hi)] at he;exact h.2 i p e2 hp he
 . have hj:i=ps.length:=by
     have:=(List.getElem?_eq_some_iff.mp hp).1;rw[zY,Aa] at this;omega
   subst hj;rw[z9 (z7 _),AL] at hp;rw[z9 (by rw[h.1];exact z7 _),h.1,AL] at he;cases hp;cases he;exact ht
theorem iW {J:It}{n:Nat}{vs:Nat→V→Prop}{g:TG}{tc:TT}{te:TE}{D:Addr}{Q:Hp→Prop}{σ:St}{H:Hp}(S:d6 J H n vs)(hn:n≤sizeLine)(hD:H D=none)(Pσ:St→Prop)(bt:Nat→Bool)(out:Nat→List V)
   (h0:Pσ σ)(step:∀ i x σ' H',i < n→vs i x→Pσ σ'→af H H'→∀ (R1:V→St→Hp→Prop)(R0:St→Hp→Prop),(bt i=true→∀ t σ2,Pσ σ2→H' t=none→R1 (.ref t) σ2 (upd H' t (.tup (out i))))→(bt i=false→∀ σ2,Pσ σ2→R0 σ2 H')→g x σ' H' fun σ2 H3=>tc σ2 H3 fun b H3'=>if b=true then te σ2 H3' fun v H4=>R1 v σ2 H4 else R0 σ2 H3')
   (fin:∀ ps H',af H H'→H' D=some (.lst (ps.map V.ref))→cn H' ps (((Ab n).filter bt).map out)→Q H'):mq J g tc te D Q σ (upd H D (.lst [])):=by
 refine⟨fun i m σ' H'=>m=n - i∧i≤n∧Pσ σ'∧∃ ps,af H H'∧H' D=some (.lst (ps.map V.ref))∧cn (hide H' D) ps (((Ab i).filter bt).map out),⟨n,by simp,AN _,h0,[],af.updN hD,ac,rfl,by intro i p e h;simp at h⟩,?_⟩;rintro i m σ' H' ⟨rfl,hi,p,ps,sm,hHD,hT⟩;by_cases hlt:i < n
 . refine .inr ⟨S.go i _ hlt sm,fun σ2 H2=>Pσ σ2∧∃ ps,af H H2∧H2 D=some (.lst (ps.map V.ref))∧cn (hide H2 D) ps (((Ab (i+1)).filter bt).map out),fun σ2 H2 ⟨p',e⟩=>⟨n - (i+1),by omega,rfl,hlt,p',e⟩,fun x H2 y=>?_⟩;obtain⟨e,hv⟩:=S.yld i _ x H2 hlt sm y;subst e
   have hlen:ps.length≤i:=by
     have:=Bf bt (Ab i);rw[Ba] at this;rw[hT.1,be];exact this
   refine step i x σ' _ hlt hv p sm (fun v σ2 H4=>∃ xs,H4 D=some (.lst xs)∧xs.length < sizeLine∧Pσ σ2∧∃ ps,af H (upd H4 D (.lst (xs++[v])))∧upd H4 D (.lst (xs++[v])) D=some (.lst (ps.map V.ref))∧cn (hide (upd H4 D (.lst (xs++[v]))) D) ps (((Ab (i+1)).filter bt).map out)) (fun σ2 H4=>Pσ σ2∧∃ ps,af H H4∧H4 D=some (.lst (ps.map V.ref))∧cn (hide H4 D) ps (((Ab (i+1)).filter bt).map out)) (fun hb t σ2 p2 ht=>?_) (fun hb σ2 p2=>⟨p2,ps,sm,hHD,?_⟩)
   . have htD:t≠D:=fun e=>by rw[e,hHD] at ht;cases ht
     refine⟨ps.map V.ref,by rw[ai (Ne.symm htD)];exact hHD,by rw[be];omega,p2,ps++[t],(sm.step (sm.free ht)).step hD,by rw[ac,z8];rfl,?_⟩;rw[Bt,A7,A9 (by simpa using hb),Bu,z8,BE,ef];exact(cn.same (af.hide (af.updN ht)) hT).snoc (by rw[aW htD];exact ac)
   . rw[Bt,A7,BV (by simpa using hb),Bu,A2];exact hT
 . have e:i=n:=by omega
   subst e;exact .inl ⟨S.stop _ sm,fin ps H' sm hHD (hT.same bP)⟩
def iC (C cN:Addr):Sp:=fun vs H Q E=>∃ (x:Addr)(ss:List Str)(bs:List (Str×List Str)) (z:Str),vs=[.ref x,.str z]∧bx H C x ss bs∧aP ss bs∧Shw z∧(z∈bs.map (·.1)→Q .non H)∧(z∉bs.map (·.1)→E (.ref cN) none H)
theorem oqX {P:Program}{w:World}{K:PySem.W.Frag}{mg:Str→Option Value}{base:Heap}{x qual:Str}{st:Stmt}{f:Addr}{fd:FuncData}{N ps:List Str}{k:Nat}{sp:Sp}(F:Fun K x qual st f fd)(S:ax N ps (ao st))(hbody:∀ (cdv:Value)(A:Around)(outer:List Env)(s:Shared)(H:Hp)(vs:List V)(Q:VK)(E:XK),cL k (A.deeper (CM qual (ao st) s.heap.objs.size f cdv))→sp vs H Q E→∃ t,PSs (eV (CX1 P w) P w K mg base N qual (ao st) f cdv A outer s H E) (dC st) t∧t { nx:=fun _ H'=>Q .non H',rt:=Q } (start N vs) H)(len:∀ vs H Q E,sp vs H Q E→vs.length=ps.length:=by intro vs H Q E h;repeat (first | (obtain⟨rfl,_⟩:=h;rfl) | obtain⟨_,h⟩:=h)):aU P w K mg base (CX1 P w) (k+1) f fd ps sp:=F.okX S len hbody
theorem qj {C f cN:Addr}{fd:FuncData}(F:Fun K "check_bath" "Book.check_bath" js f fd)(c:Cls K C)(nT:NoAttr K C "tables")(XN:ExcC K cN)(mN:mg "NoBath"=some (.ref cN)):aU P w K mg base (CX1 P w) 1 f fd ["self", "bath"] (iC C cN):=by
 refine oqX F oA fun cdv A outer s H vs Q E hr h=>?_;obtain⟨x,ss,bs,z,rfl,⟨dx,t,d,so,h1,h2,h3,h4,h5⟩,B,hz,q,qe⟩:=h;have hu:=eM hr;refine⟨_,ah (aC (fu (dw hu (pv 1) (bD (pv 0) rfl))) (ah (bC rfl rfl mN XN.exc Aj (aa (fj (pv 1)) ae) dh)) am),?_⟩
 try dsimp only[aF,aO]
 by_cases hm:z∈bs.map (·.1)
 . obtain⟨b,hb,rfl⟩:=List.mem_map.mp hm;obtain⟨r,hg,hr⟩:=ik.get B h5 hb;walk_at"";exact⟨C,dx,_,h1,c,nT,_,cR,d,rfl,_,hg,q hm⟩
 . obtain⟨ds,e1,e2,e3⟩:=h5;walk_at"";refine⟨C,dx,_,h1,c,nT,_,cR,d,rfl,none,.inl ⟨_,Sum.inr z,e1,rfl,(bV _ _ _ hm).symm⟩,?_⟩;exact⟨hz.1,hz.2,fun y=>⟨by decide,qe hm⟩⟩
def kn (C cS:Addr):Sp:=fun vs H Q E=>∃ (x:Addr)(ss:List Str)(bs:List (Str×List Str)) (y:Str),vs=[.ref x,.str y]∧bx H C x ss bs∧Shw y∧(y∈ss→Q .non H)∧(y∉ss→E (.ref cS) none H)
theorem og {C f cS:Addr}{fd:FuncData}(F:Fun K "check_shade" "Book.check_shade" g9 f fd)(c:Cls K C)(nO:NoAttr K C "order")(XS:ExcC K cS)(mS:mg "NoShade"=some (.ref cS)):aU P w K mg base (CX1 P w) 1 f fd ["self", "shade"] (kn C cS):=by
 refine oqX F lS fun cdv A outer s H vs Q E hr h=>?_;obtain⟨x,ss,bs,y,rfl,⟨dx,t,d,so,h1,h2,h3,h4,h5⟩,hy,q,qe⟩:=h;refine⟨_,ah (aC (aq cC (pv 1) (bD (pv 0) rfl) (by with_unfolding_all rfl)) (ah (bC rfl rfl mS XS.exc Aj (aa (fj (pv 1)) ae) dh)) am),?_⟩
 try dsimp only[aF,aO]
 by_cases hm:y∈ss
 . have hyo:y∈so:=h3.mem_iff.mpr hm;walk_at"";refine⟨C,dx,_,h1,c,nO,_,f7,t,rfl,_,.inr (SqT.of h2),rfl,cT so,?_⟩;rw[cY,decide_eq_true hyo];exact q hm
 . have hyo:y∉so:=fun h=>hm (h3.mem_iff.mp h);walk_at"";refine⟨C,dx,_,h1,c,nO,_,f7,t,rfl,_,.inr (SqT.of h2),rfl,cT so,?_⟩;rw[cY,decide_eq_false hyo];exact⟨hy.1,hy.2,fun w=>⟨by decide,qe hm⟩⟩
def GN (ws:List Str):Prop:=ws.Nodup∧∀ x∈ws,bc x=true
def GO (ss os:List Str):Prop:=os.length=ss.length∧∀ x∈os,x∈ss
structure GB (ss:List Str)(bs:List (Str×List Str)):Prop where
 b8:bs.length≤8
 gn:GN (bs.map (·.1))
 go:∀ b∈bs,GO ss b.2
structure GS (ss:List Str):Prop where
 s1:1≤ss.length
 s12:ss.length≤12
 gn:GN ss
structure nS (ss:List Str)(bs:List (Str×List Str)):Prop where
 sl:ss.length≤100
 sh:∀ x∈ss,Shw x
 bl:bs.length≤100
 bh:∀ b∈bs,Shw b.1
 ol:∀ b∈bs,b.2.length≤100
 oh:∀ b∈bs,∀ x∈b.2,Shw x
theorem aP.of {ss:List Str}{bs:List (Str×List Str)}(X:nS ss bs)(a:GS ss)(b:GB ss bs):aP ss bs :=
 ⟨a.s1,a.s12,a.gn.1,a.gn.2,X.sh,b.b8,b.gn.1,fun x hx=>b.gn.2 _ (AA hx),X.bh,fun x hx=>(b.go x hx).1,fun x hx=>(b.go x hx).2⟩
theorem aP.txt {ss:List Str}{bs:List (Str×List Str)}(B:aP ss bs):nS ss bs :=
 ⟨by have:=B.s12;omega,B.snw,by have:=B.b8;omega,B.bnw,fun b hb=>by have:=B.s12;rw[B.bln b hb];omega,fun b hb x hx=>B.snw x (B.bin b hb x hx)⟩
theorem aP.gs {ss:List Str}{bs:List (Str×List Str)}(B:aP ss bs):GS ss:=⟨B.s1,B.s12,B.snd,B.snm⟩
theorem aP.gb {ss:List Str}{bs:List (Str×List Str)}(B:aP ss bs):GB ss bs :=
 ⟨B.b8,⟨B.bnd,fun x hx=>by obtain⟨b,hb,rfl⟩:=List.mem_map.mp hx;exact B.bnm b hb⟩,fun b hb=>⟨B.bln b hb,B.bin b hb⟩⟩
theorem nE:∀ (l acc:List Str),(∀ x∈l.foldl ej acc,x∈acc∨x∈l)∧(acc.Nodup→(l.foldl ej acc).Nodup)∧(l.foldl ej acc).length≤acc.length+l.length
 | [],acc=>⟨fun x hx=>.inl hx,fun h=>h,z7 _⟩
 | y::l,acc=>by
   obtain⟨h1,h2,h3⟩:=nE l (ej acc y);rw[BQ];refine⟨fun x hx=>?_,fun hd=>h2 ?_,?_⟩
   . rcases h1 x hx with q | q
     . unfold ej at q
       split at q
       . exact .inl q
       . rcases List.mem_append.mp q with q | q
         . exact .inl q
         . rw[List.mem_singleton.mp q];exact .inr Ag
     . exact .inr (Ai _ q)
   . unfold ej
     split
     . exact hd
     . rename_i hn;exact gY hd hn
   . have:=oM acc y;rw[AK];omega
theorem xi {l:List Str}(h:¬l.Nodup):(dP l).length≠l.length:=fun e=>h (by
 have key:∀ (l acc:List Str),acc.Nodup→(l.foldl ej acc).length=acc.length+l.length→(acc++l).Nodup:=by
   intro l
   induction l with
   | nil=>intro acc hd _;rw[A2];exact hd
   | cons y l ih =>
     intro acc hd he;rw[BQ,AK] at he;by_cases hy:y∈acc
     . have e1:ej acc y=acc:=by unfold ej;rw[if_pos hy]
       rw[e1] at he;have:=(nE l acc).2.2;omega
     . have e1:ej acc y=acc++[y]:=by unfold ej;rw[if_neg hy]
       rw[e1] at he;have:=ih (acc++[y]) (gY hd hy) (by rw[he,zY,Aa];omega);rw[Bv] at this;exact this
 exact key l [] CL (by unfold dP at e;rw[e,Cb,Nat.zero_add]))
def iJ (K:PySem.W.Frag)(cB:Addr):Sp:=fun vs H Q E=>∃ (l:Addr)(ws:List Str),vs=[.ref l]∧SqL K H l (ws.map V.str)∧ws.length≤100∧(∀ x∈ws,Shw x)∧(GN ws→∀ H',af H H'→Q .non H')∧(¬GN ws→∀ H',af H H'→E (.ref cB) none H')
theorem qo {f fG cB:Addr}{fd fdG:FuncData}(F:Fun K "check_names" "check_names" jt f fd)(T:Txt mg)(XB:ExcC K cB)(mB:mg "BadBook"=some (.ref cB))(GG:Cl P w K mg base CX0 1 "good_name" ["text"] l4 fG fdG) :
   aU P w K mg base (CX1 P w) 2 f fd ["texts"] (iJ K cB):=by
 refine oqX F gU fun cdv A outer s H vs Q E hr h=>?_;obtain⟨l,ws,rfl,hl,hlen,hsh,q,qe⟩:=h
 refine⟨_,aN (bq PassesOwn.leaving rfl (aY (pv 0)) (pN 1 gU.nd)
     (ah (aC (cf (bL (pC GG hr az (aa (pv 1) ae)))) (ah (bC rfl rfl mB XB.exc Aj (aa (fj (pv 1)) ae) dh)) am)))
   (ah (aC (aq jc (al lL (by rfl) T.len Ac (aa (cu (nH rfl) (by rfl) T.set (by decide) (aa (pv 0) ae)) ae)) (al au (by rfl) T.len Ac (aa (pv 0) ae)) (aw _)) (ah (bC rfl rfl mB XB.exc Aj (aa ay ae) dh)) am)),?_⟩
 try dsimp only[aF,aO]
 have hs:=aL;walk_at"";refine⟨⟨_,hl⟩,?_⟩;refine bn (H0:=H) (aE hl) (fun i σ' H'=>∃ o,σ'=[some (.ref l),o]∧af H H'∧∀ x∈ws.take i,bc x=true) ⟨none,rfl,af.refl H,fun x hx=>by simp at hx⟩ (fun _ _ _ _ ⟨_,_,h,_⟩=>h) ?_ ?_
 . rintro i x σ H' hi hx ⟨o,rfl,hS,hb⟩;rw[zX] at hx;obtain⟨z,hz,rfl⟩:=Option.map_eq_some_iff.mp hx;have hzm:=z6 hz;have hzs:=hsh z hzm;walk_at"";refine⟨z,rfl,hzs.1,fun H2 S2=>?_⟩;by_cases hg:bc z=true
   . rw[hg];refine⟨_,rfl,aB (fun h=>by cases h) (fun _=>⟨hS.trans S2,fun x hx=>?_⟩)⟩;rw[bw hz] at hx
     rcases List.mem_append.mp hx with hx | hx
     . exact hb x hx
     . rw[List.mem_singleton.mp hx];exact hg
   . have hg':bc z=false:=by simpa using hg
     rw[hg'];exact⟨_,rfl,aB (fun _=>⟨hzs.1,hzs.2,fun y=>⟨by decide,qe (fun g=>hg (g.2 z hzm)) _ (hS.trans S2)⟩⟩) (fun h=>absurd rfl h)⟩
 . rintro σ H' ⟨o,rfl,hS,hb⟩;rw[be,AR] at hb;walk_at"";refine⟨_,hS.seq hl,by omega,fun p hp=>⟨_,ac,_,.inl ((hS.step (hS.free hp)).seq hl),rfl,?_⟩⟩;rw[be];by_cases hnd:ws.Nodup
   . rw[sx hnd];exact aB (fun h=>absurd rfl h) (fun _=>q ⟨hnd,hb⟩ _ (hS.step (hS.free hp)))
   . have:=xi hnd;exact aB (fun _=>⟨by decide,qe (fun g=>hnd g.1) _ (hS.step (hS.free hp))⟩) (fun h=>absurd (by omega:(dP ws).length=ws.length) this)
def jJ (K:PySem.W.Frag)(cB:Addr):Sp:=fun vs H Q E=>∃ (l:Addr)(ws:List Str),vs=[.ref l]∧SqL K H l (ws.map V.str)∧ws.length≤100∧(∀ x∈ws,Shw x)∧(GS ws→∀ H',af H H'→Q .non H')∧(¬GS ws→∀ H',af H H'→E (.ref cB) none H')
theorem oE {f fG cB:Addr}{fd fdG:FuncData}(F:Fun K "check_shades" "check_shades" ii f fd)(T:Txt mg)(TB:v4 mg)(XB:ExcC K cB)(mB:mg "BadBook"=some (.ref cB))(GG:Cl P w K mg base (CX1 P w) 2 "check_names" ["texts"] (iJ K cB) fG fdG) :
   aU P w K mg base (CX1 P w) 3 f fd ["shades"] (jJ K cB):=by
 refine oqX F lH fun cdv A outer s H vs Q E hr h=>?_;obtain⟨l,ws,rfl,hl,hlen,hsh,q,qe⟩:=h;obtain⟨tg,hms⟩:=TB.mostS
 refine⟨_,aN (aC (aq cW (al au (by rfl) T.len Ac (aa (pv 0) ae)) ag (aw _)) (ah (bC rfl rfl mB XB.exc Aj (aa ay ae) dh)) am)
   (aN (aC (aq fE (al au (by rfl) T.len Ac (aa (pv 0) ae)) (bi (v:=.int 12) rfl hms ⟨_,rfl⟩) (aw _)) (ah (bC rfl rfl mB XB.exc Aj (aa ay ae) dh)) am)
   (ah (aM (pC GG hr bE (aa (pv 0) ae))))),?_⟩
 try dsimp only[aF,aO]
 have hs:=aL;walk_at"";refine⟨_,.inl hl,?_⟩;rw[be];refine aB (fun h=>⟨by decide,qe (fun g=>by have:=g.s1;omega) H (af.refl H)⟩) (fun h1=>⟨_,.inl hl,?_⟩);rw[be];refine aB (fun h=>⟨by decide,qe (fun g=>by have:=g.s12;omega) H (af.refl H)⟩) (fun h2=>?_);exact⟨l,ws,rfl,hl,hlen,hsh,fun g H' S=>q ⟨by omega,by omega,g⟩ H' S,fun g H' S=>qe (fun g2=>g g2.gn) H' S⟩
def nP (K:PySem.W.Frag)(cB:Addr):Sp:=fun vs H Q E=>∃ (l lo:Addr)(ss os:List Str),vs=[.ref l,.ref lo]∧SqL K H l (ss.map V.str)∧SqL K H lo (os.map V.str)∧os.length≤100∧(∀ x∈os,Shw x)∧(GO ss os→∀ H',af H H'→Q .non H')∧(¬GO ss os→∀ H',af H H'→E (.ref cB) none H')
theorem tj {f cB:Addr}{fd:FuncData}(F:Fun K "check_outs" "check_outs" l7 f fd)(T:Txt mg)(XB:ExcC K cB)(mB:mg "BadBook"=some (.ref cB)) :
   aU P w K mg base (CX1 P w) 1 f fd ["shades", "outs"] (nP K cB):=by
 refine oqX F jv fun cdv A outer s H vs Q E hr h=>?_;obtain⟨l,lo,ss,os,rfl,hl,hlo,hlen,hsh,q,qe⟩:=h
 refine⟨_,aN (aC (aq jc (al au (by rfl) T.len Ac (aa (pv 1) ae)) (al au (by rfl) T.len Ac (aa (pv 0) ae)) (aw _)) (ah (bC rfl rfl mB XB.exc Aj (aa ay ae) dh)) am)
   (ah (bq PassesOwn.leaving rfl (aY (pv 1)) (pN 2 jv.nd)
     (ah (aC (aq cC (pv 2) (pv 0) (by with_unfolding_all rfl)) (ah (bC rfl rfl mB XB.exc Aj (aa (fj (pv 2)) ae) dh)) am)))),?_⟩
 try dsimp only[aF,aO]
 have hs:=aL;walk_at"";refine⟨_,.inl hlo,_,.inl hl,rfl,?_⟩;rw[be,be];refine aB (fun h=>⟨by decide,qe (fun g=>h (by rw[g.1])) H (af.refl H)⟩) (fun hle=>⟨⟨_,hlo⟩,?_⟩)
 have hle':os.length=ss.length:=by omega
 refine bn (H0:=H) (aE hlo) (fun i σ' H'=>∃ o,σ'=[some (.ref l),some (.ref lo),o]∧H'=H∧∀ x∈os.take i,x∈ss) ⟨none,rfl,rfl,fun x hx=>by simp at hx⟩ (fun _ _ _ _ ⟨_,_,h,_⟩=>by rw[h];exact af.refl _) ?_ ?_
 . rintro i x σ H' hi hx ⟨o,rfl,rfl,hb⟩;rw[zX] at hx;obtain⟨z,hz,rfl⟩:=Option.map_eq_some_iff.mp hx;have hzm:=z6 hz;walk_at"";refine⟨_,.inl hl,rfl,cT ss,?_⟩;rw[cY];by_cases hin:z∈ss
   . rw[decide_eq_true hin];intro x hx;rw[bw hz] at hx
     rcases List.mem_append.mp hx with hx | hx
     . exact hb x hx
     . rw[List.mem_singleton.mp hx];exact hin
   . rw[decide_eq_false hin];exact⟨(hsh z hzm).1,(hsh z hzm).2,fun y=>⟨by decide,qe (fun g=>hin (g.2 z hzm)) _ (af.refl _)⟩⟩
 . rintro σ H' ⟨o,rfl,rfl,hb⟩;rw[be,AR] at hb;exact q ⟨hle',hb⟩ _ (af.refl _)
def lW (K:PySem.W.Frag)(cB:Addr):Sp:=fun vs H Q E=>∃ (l lb:Addr)(ss:List Str)(bs:List (Str×List Str)),vs=[.ref l,.ref lb]∧SqL K H l (ss.map V.str)∧ig H lb bs∧nS ss bs∧(GB ss bs→∀ H',af H H'→Q .non H')∧(¬GB ss bs→∀ H',af H H'→E (.ref cB) none H')
theorem pH {f fG fO cB:Addr}{fd fdG fdO:FuncData}(F:Fun K "check_baths" "check_baths" jp f fd)(T:Txt mg)(TB:v4 mg)(XB:ExcC K cB)(mB:mg "BadBook"=some (.ref cB))(GG:Cl P w K mg base (CX1 P w) 2 "check_names" ["texts"] (iJ K cB) fG fdG)
   (GO_:Cl P w K mg base (CX1 P w) 1 "check_outs" ["shades", "outs"] (nP K cB) fO fdO) :
   aU P w K mg base (CX1 P w) 3 f fd ["shades", "baths"] (lW K cB):=by
 refine oqX F eY fun cdv A outer s H vs Q E hr h=>?_;obtain⟨l,lb,ss,bs,rfl,hl,⟨ps,hlb,hpl,hB⟩,X,q,qe⟩:=h;obtain⟨tg,hms⟩:=TB.mostB;have hr1:=hr.mono (j:=1) (by omega)
 refine⟨_,aN (aC (aq fE (al au (by rfl) T.len Ac (aa (pv 1) ae)) (bi (v:=.int 8) rfl hms ⟨_,rfl⟩) (aw _)) (ah (bC rfl rfl mB XB.exc Aj (aa ay ae) dh)) am)
   (aj (aM (pC GG hr bE (aa (fe (N':=["name", "outs"]) (pk:=[none,none]) rfl (bW.of (by rfl)) (aY (pv 1)) (fun s H ex=>(cz (n:=2) rfl (aH (pN 0 (by show(["name", "outs"]:List Str).Nodup;decide)) (aH (pN 1 (by show(["name", "outs"]:List Str).Nodup;decide)) bT)):PG _ _ (kx K 2 (bO (bB 0) (bO (bB 1) iO)))))
       (fun s H ex=>pv 0)) ae)))
   (ah (bq PassesOwn.leaving rfl (aY (pv 1)) (cz (n:=2) rfl (aH (pN 2 eY.nd) (aH (pN 3 eY.nd) bT)))
     (ah (aM (pC GO_ hr1 bE (aa (pv 0) (aa (pv 3) ae)))))))),?_⟩
 try dsimp only[aF,aO]
 have hs:=aL;have hbl:=X.bl;walk_at"";refine⟨_,.inl (SqL.of hlb),?_⟩;rw[be];refine aB (fun h=>⟨by decide,qe (fun g=>by have:=g.b8;omega) H (af.refl H)⟩) (fun h8=>?_)
 have hb8:bs.length≤8:=by omega
 refine cut (fun σ' H'=>σ'=[some (.ref l),some (.ref lb),none,none]∧af H H'∧GN (bs.map (·.1))) ?_ ?_
 . walk_at"";refine⟨⟨_,SqL.of hlb⟩,fun D hD=>?_⟩;refine cG (aE (SqL.of hlb)) (by rw[be];omega) hD (fun σ=>∃ o1 o2,σ=[o1,o2]) (fun k=>V.str (bs.getD k (⟨#[]⟩,[])).1) ⟨none,none,rfl⟩ ?_ ?_
   . rintro k x σ' H3 hk hx ⟨o1,o2,rfl⟩ hS3 R hR;rw[zX] at hx;obtain⟨y,hy,rfl⟩:=Option.map_eq_some_iff.mp hx;obtain⟨b,hb⟩:∃ b,bs[k]?=some b:=⟨_,zW (by rw[be] at hk;omega)⟩;obtain⟨lo,ht,hlo⟩:=hB k y b hy hb;refine em (hS3 _ _ ht) ?_;walk_at""
     have e:(bs.getD k (⟨#[]⟩,[]))=b:=by rw[zZ,hb];rfl
     have:=hR [some (V.str b.1),some (V.ref lo)] ⟨_,_,rfl⟩;rw[e] at this;exact this
   . have e:(Ab (ps.map V.ref).length).map (fun k=>V.str (bs.getD k (⟨#[]⟩,[])).1)=(bs.map (·.1)).map V.str:=by
       rw[AH];refine cA _ bs _ _ (by rw[be,hpl]) fun k x hx=>?_;rw[zZ,hx];rfl
     rw[e];refine⟨D,bs.map (·.1),rfl,SqL.of ac,by rw[be];omega,fun x hx=>?_,fun g H' S'=>⟨(af.updN hD).trans S',g⟩,fun g H' S'=>qe (fun g2=>g g2.gn) H' ((af.updN hD).trans S')⟩;obtain⟨b,hb,rfl⟩:=List.mem_map.mp hx;exact X.bh b hb
 rintro σ1 H1 ⟨rfl,S1,hgn⟩;walk_at"";refine⟨⟨_,SqL.of (S1 _ _ hlb)⟩,?_⟩;refine bn (H0:=H) (aE (SqL.of hlb)) (fun i σ' H'=>∃ o2 o3,σ'=[some (.ref l),some (.ref lb),o2,o3]∧af H H'∧∀ b∈bs.take i,GO ss b.2) ⟨none,none,rfl,S1,fun x hx=>by simp at hx⟩ (fun _ _ _ _ ⟨_,_,_,h,_⟩=>h) ?_ ?_
 . rintro i x σ H' hi hx ⟨o2,o3,rfl,hS,hall⟩;rw[zX] at hx;obtain⟨y,hy,rfl⟩:=Option.map_eq_some_iff.mp hx;obtain⟨b,hb⟩:∃ b,bs[i]?=some b:=⟨_,zW (by rw[be] at hi;omega)⟩;obtain⟨lo,ht,hlo⟩:=hB i y b hy hb;have hbm:b∈bs:=z6 hb;refine em (hS _ _ ht) ?_;walk_at"";refine⟨l,lo,ss,b.2,rfl,hS.seq hl,SqL.of (hS _ _ hlo),X.ol b hbm,X.oh b hbm,fun g H2 S2=>⟨hS.trans S2,fun x hx=>?_⟩,fun g H2 S2=>qe (fun g2=>g (g2.go b hbm)) H2 (hS.trans S2)⟩;rw[bw hb] at hx
   rcases List.mem_append.mp hx with hx | hx
   . exact hall x hx
   . rw[List.mem_singleton.mp hx];exact g
 . rintro σ H' ⟨o2,o3,rfl,hS,hall⟩;rw[be,hpl,AR] at hall;exact q ⟨hb8,hgn,hall⟩ _ hS
def cZ (H H':Hp):Hp:=fun a=>match H a with | none=>H' a | some _=>none
theorem eR {H H':Hp}{a:Addr}(h:H a=none):cZ H H' a=H' a:=by
 unfold cZ;rw[h]
theorem lV {H H':Hp}:af (cZ H H') H':=fun a o e=>by
 unfold cZ at e
 split at e
 . exact e
 . cases e
theorem gC {H G H':Hp}(S:af H G):af (cZ G H') (cZ H H'):=fun a o e=>by
 cases hG:G a with
 | none=>rw[eR hG] at e;rw[eR (S.free hG)];exact e
 | some u=>unfold cZ at e;rw[hG] at e;cases e
def mK (K:PySem.W.Frag)(C cB:Addr):Sp:=fun vs H Q E=>∃ (x dx l lb:Addr)(ss:List Str)(bs:List (Str×List Str)),vs=[.ref x,.ref l,.ref lb]∧H x=some (.ins C dx [])∧SqL K H l (ss.map V.str)∧ig H lb bs∧nS ss bs ∧
 (aP ss bs→∀ H',af (hide H x) H'→bx (cZ (hide H x) H') C x ss bs→Q .non H')∧(¬aP ss bs→∀ H',af H H'→E (.ref cB) none H')
theorem u5 {C f fS fB cB:Addr}{fd fdS fdB:FuncData}(F:Fun K "__init__" "Book.__init__" rW f fd)(T:Txt mg)(c:Cls K C)(nO:NoAttr K C "order")(nT:NoAttr K C "tables")
   (GS:Cl P w K mg base (CX1 P w) 3 "check_shades" ["shades"] (jJ K cB) fS fdS)
   (GB:Cl P w K mg base (CX1 P w) 3 "check_baths" ["shades", "baths"] (lW K cB) fB fdB) :
   aU P w K mg base (CX1 P w) 4 f fd ["self", "shades", "baths"] (mK K C cB):=by
 refine oqX F iV fun cdv A outer s H vs Q E hr h=>?_;obtain⟨x,dx,l,lb,ss,bs,rfl,hx,hl,hb,X,q,qe⟩:=h;have hu:=eM hr
 refine⟨_,aj (aM (pC GS hr bE (aa (pv 1) ae)))
   (aj (aM (pC GB hr bE (aa (pv 1) (aa (pv 2) ae))))
   (aj (eJ (pv 0) (cu gu (by rfl) T.tuple (by decide) (aa (al dR (by rfl) T.sorted (by decide) (aa (pv 1) ae)) ae)) rfl)
   (aj (eJ (pv 0) ee rfl)
   (ah (bq PassesOwn.leaving rfl (aY (pv 2)) (cz (n:=2) rfl (aH (pN 3 iV.nd) (aH (pN 4 iV.nd) bT)))
     (ah (dF hu (bD (pv 0) rfl) (pv 3) (km rfl (by rfl) T.dict (by rfl) T.zip (aa (pv 1) (aa (pv 4) ae))) rfl))))))),?_⟩
 try dsimp only[aF,aO]
 have hs:=aL;have hl0:=rZ hx hl;have hb0:=lN hx hb;generalize hH0:hide H x=H0 at hl0 hb0 q
 have SH:af H0 H:=by rw[←hH0];exact bP
 have hx0:H0 x=none:=by rw[←hH0];unfold hide;rw[if_pos rfl]
 refine cut (fun σ' H'=>σ'=[some (.ref x),some (.ref l),some (.ref lb),none,none]∧af H H'∧DM.GS ss) ?_ ?_
 . walk_at"";exact⟨l,ss,rfl,hl,X.sl,X.sh,fun g H' S'=>⟨S',g⟩,fun g H' S'=>qe (fun B=>g B.gs) H' S'⟩
 rintro σ1 H1 ⟨rfl,S1,hgs⟩;refine cut (fun σ' H'=>σ'=[some (.ref x),some (.ref l),some (.ref lb),none,none]∧af H H'∧DM.GB ss bs) ?_ ?_
 . walk_at"";exact⟨l,lb,ss,bs,rfl,S1.seq hl,af.bths S1 hb,X,fun g H' S'=>⟨S1.trans S',g⟩,fun g H' S'=>qe (fun B=>g B.gb) H' (S1.trans S')⟩
 rintro σ2 H2 ⟨rfl,S2,hgb⟩;have B:aP ss bs:=aP.of X hgs hgb;have q:=q B;have hs12:=B.s12;refine cut (fun σ' H'=>∃ t so,σ'=[some (.ref x),some (.ref l),some (.ref lb),none,none]∧af H0 H'∧H' x=some (.ins C dx [("order",.ref t)])∧H' t=some (.tup (so.map V.str))∧so.Perm ss∧AC so=true∧H0 t=none) ?_ ?_
 . walk_at"";have S02:af H0 H2:=SH.trans S2;have hx2:=S2 _ _ hx;refine⟨ss,S2.seq hl,by omega,fun p so hp hpm hso=>⟨_,.inl ⟨SqL.of ac,fun t ht=>?_⟩⟩⟩
   have hxp:x≠p:=fun e=>by rw[←e,hx2] at hp;cases hp
   have ht2:H2 t=none:=(af.updN hp).free ht
   have hxt:x≠t:=fun e=>by rw[←e,hx2] at ht2;cases ht2
   refine⟨C,dx,[],by rw[ai hxt,ai hxp];exact hx2,c,nO,by decide,((S02.step (S02.free hp)).step (S02.free ht2)).step hx0,t,by rw[ac,jZ],so,?_,hpm,hso,S02.free ht2⟩;rw[ai (Ne.symm hxt)];exact ac
 rintro σ3 H3 ⟨t,so,rfl,S3,hx3,ht3,hpm,hso,ht0⟩;refine cut (fun σ' H'=>∃ d,σ'=[some (.ref x),some (.ref l),some (.ref lb),none,none]∧H3 d=none∧H'=upd (upd H3 d (.dK [])) x (.ins C dx [("order",.ref t),("tables",.ref d)])) ?_ ?_
 . walk_at"";intro d hd
   have hxd:x≠d:=fun e=>by rw[←e,hx3] at hd;cases hd
   exact⟨C,dx,_,by rw[ai hxd];exact hx3,c,nT,by rw[Aa];decide,d,hd,by rw[iX]⟩
 rintro σ4 H4 ⟨d,rfl,hd3,rfl⟩
 have hxd:x≠d:=fun e=>by rw[←e,hx3] at hd3;cases hd3
 have htx:t≠x:=fun e=>by rw[e,hx3] at ht3;cases ht3
 have htd:t≠d:=fun e=>by rw[←e,ht3] at hd3;cases hd3
 have hd0:H0 d=none:=S3.free hd3;obtain⟨ps,hlb,hpl,hB⟩:=hb0;have hb8:=B.b8;have S4:af H0 (upd (upd H3 d (.dK [])) x (.ins C dx [("order",.ref t),("tables",.ref d)])):=(S3.step hd0).step hx0;walk_at"";refine⟨⟨_,SqL.of (S4 _ _ hlb)⟩,?_⟩
 refine bn (H0:=H0) (aE (SqL.of hlb)) (fun i σ' H'=>∃ (ds:List Addr)(o3 o4:Option V),σ'=[some (.ref x),some (.ref l),some (.ref lb),o3,o4]∧af H0 H'∧H' x=some (.ins C dx [("order",.ref t),("tables",.ref d)])∧H' t=some (.tup (so.map V.str)) ∧
   H' d=some (.dK (bX ((bs.map (·.1)).take i) (ds.map V.ref)))∧ds.length=i∧∀ (j:Nat) r b,ds[j]?=some r→bs[j]?=some b→hide H' d r=some (.dK (il ss b))∧H0 r=none)
   ⟨[],none,none,rfl,S4,ac,(by rw[ai htx,ai htd];exact ht3),(by rw[ai (Ne.symm hxd)];exact ac),rfl,(by intro j r b h;simp at h)⟩ (fun _ _ _ _ ⟨_,_,_,_,h,_⟩=>h) ?_ ?_
 . rintro i y σ H' hi hy ⟨ds,o3,o4,rfl,hS,hHx,hHt,hHd,hdl,hD⟩;rw[zX] at hy;obtain⟨pr,hpr,rfl⟩:=Option.map_eq_some_iff.mp hy;rw[be,hpl] at hi;obtain⟨b,hb⟩:∃ b,bs[i]?=some b:=⟨_,zW hi⟩;obtain⟨lo,ht,hlo⟩:=hB i pr b hpr hb;have hbm:b∈bs:=z6 hb
   have hk:(bs.map (·.1))[i]?=some b.1:=by rw[zX,hb];rfl
   have hnk:b.1∉(bs.map (·.1)).take i:=eS B.bnd hk
   have hln:((bs.map (·.1)).take i).length=(ds.map V.ref).length:=by rw[Ao,be,be,hdl];omega
   have hbl:b.2.length=ss.length:=B.bln b hbm;refine em (hS _ _ ht) ?_;walk_at"";refine⟨ss,hS.seq hl0,_,SqL.of (hS _ _ hlo),by rw[be];exact hbl.symm,by omega,fun r hr=>?_⟩;rw[jM B.snd]
   have hxr:x≠r:=fun e=>by rw[←e,hHx] at hr;cases hr
   have htr:t≠r:=fun e=>by rw[←e,hHt] at hr;cases hr
   have hrd:r≠d:=fun e=>by rw[e,hHd] at hr;cases hr
   refine⟨C,dx,_,by rw[ai hxr];exact hHx,c,nT,_,cR,d,rfl,_,.inl ⟨_,Sum.inr b.1,by rw[ai (Ne.symm hrd)];exact hHd,rfl,by rw[fL hln,Ao];omega,rfl⟩,(hS.step (hS.free hr)).step hd0,by rw[ai hxd,ai hxr];exact hHx,by rw[ai htd,ai htr];exact hHt,ds++[r],?_,by rw[zY,hdl];rfl,fun j r2 b2 hr2 hb2=>?_⟩
   . rw[ac,cU _ (bV _ _ _ hnk),bw hk,z8];exact congrArg (fun z=>some (HO.dK z)) (eT b.1 (V.ref r) hln).symm
   . rw[ef];by_cases hj:j < i
     . rw[Af (by omega)] at hr2;exact⟨af.hide (af.updN hr) _ _ (hD j r2 b2 hr2 hb2).1,(hD j r2 b2 hr2 hb2).2⟩
     . have hj2:j=i:=by
         have:=(List.getElem?_eq_some_iff.mp hr2).1;rw[zY,hdl] at this;simp only[Aa] at this;omega
       subst hj2;rw[z9 (by omega),hdl,AL] at hr2;cases hr2;rw[hb] at hb2;cases hb2;refine⟨?_,hS.free hr⟩;rw[aW hrd,ac];rfl
 . rintro σ H' ⟨ds,o3,o4,rfl,hS,hHx,hHt,hHd,hdl,hD⟩;rw[be,hpl] at hHd hdl;refine q H' hS ⟨dx,t,d,so,(eR hx0).trans hHx,(eR ht0).trans hHt,hpm,hso,ds,.inl ?_,hdl,fun j r b hr hb=>.inl ((eR (hD j r b hr hb).2).trans (bP _ _ (hD j r b hr hb).1))⟩;rw[eR hd0,hHd,AQ (by rw[be];exact z7 _)]
theorem wR {so:List Str}{n z:Str}{f:Str→Str}(hd:so.Nodup)(hz:z∈so):lkV so (n,so.map f) z=f z:=by
 obtain⟨i,hi⟩:=AX hz;have e:bG (il so (n,so.map f)) (Sum.inr z)=some (V.str (f z)):=dH so ((so.map f).map V.str) i z _ hd hi (by rw[zX,zX,hi];rfl);unfold lkV;rw[e]
def chB (ss so:List Str)(bs:List (Str×List Str)) (t:Str)(os:List Str) (n:Str):Str×List Str:=(n,if n=t then os else so.map (lkB ss bs n))
structure kS (ss so ns:List Str)(bs:List (Str×List Str)):Prop where
 ps:so.Perm ss
 ts:AC so=true
 pn:ns.Perm (bs.map (·.1))
 tn:AC ns=true
theorem t8 {ss:List Str}{b:Str×List Str}{z:Str}(hd:ss.Nodup)(hl:b.2.length=ss.length)(hz:z∈ss):lkV ss b z∈b.2:=by
 obtain⟨i,hi⟩:=AX hz
 have hil:i < b.2.length:=by rw[hl];exact(List.getElem?_eq_some_iff.mp hi).1
 have e:bG (il ss b) (Sum.inr z)=some (V.str b.2[i]):=dH ss (b.2.map V.str) i z _ hd hi (by rw[zX,zW hil];rfl);unfold lkV;rw[e];exact A4 hil
theorem sP {ss so ns:List Str}{bs:List (Str×List Str)}{t:Str}{os:List Str}(B:aP ss bs)(h:kS ss so ns bs)(hl:os.length=ss.length)(hin:∀ x∈os,x∈ss):aP so (ns.map (chB ss so bs t os)):=by
 have hsl:=h.ps.length_eq
 have hnl:ns.length=bs.length:=by rw[h.pn.length_eq,be]
 have e:(ns.map (chB ss so bs t os)).map (·.1)=ns:=by
   rw[AH];exact List.map_id ns
 refine⟨by rw[hsl];exact B.s1,by rw[hsl];exact B.s12,h.ps.nodup_iff.mpr B.snd,fun x hx=>B.snm x (h.ps.mem_iff.mp hx),fun x hx=>B.snw x (h.ps.mem_iff.mp hx),by rw[be,hnl];exact B.b8,by rw[e];exact h.pn.nodup_iff.mpr B.bnd,fun b hb=>?_,fun b hb=>?_,fun b hb=>?_,fun b hb=>?_⟩
 . obtain⟨n,hn,rfl⟩:=List.mem_map.mp hb;obtain⟨b2,hb2,e2⟩:=List.mem_map.mp (h.pn.mem_iff.mp hn);show bc n=true;rw[←e2];exact B.bnm b2 hb2
 . obtain⟨n,hn,rfl⟩:=List.mem_map.mp hb;obtain⟨b2,hb2,e2⟩:=List.mem_map.mp (h.pn.mem_iff.mp hn);show Shw n;rw[←e2];exact B.bnw b2 hb2
 . obtain⟨n,hn,rfl⟩:=List.mem_map.mp hb;unfold chB;by_cases c:n=t
   . rw[if_pos c,hl,hsl]
   . rw[if_neg c,be]
 . obtain⟨n,hn,rfl⟩:=List.mem_map.mp hb;obtain⟨b2,hb2,e2⟩:=List.mem_map.mp (h.pn.mem_iff.mp hn);unfold chB;by_cases c:n=t
   . rw[if_pos c];exact fun x hx=>h.ps.mem_iff.mpr (hin x hx)
   . rw[if_neg c];intro x hx;obtain⟨z,hz,rfl⟩:=List.mem_map.mp hx;rw[←e2,fk z B.bnd hb2];exact h.ps.mem_iff.mpr (B.bin b2 hb2 _ (t8 B.snd (B.bln b2 hb2) (h.ps.mem_iff.mp hz)))
theorem w8 {ss so ns:List Str}{bs:List (Str×List Str)}{t:Str}{os:List Str}(B:aP ss bs)(h:kS ss so ns bs){n z:Str}(hz:z∈so):lkV so (chB ss so bs t os n) z=if n=t then lkV so (t,os) z else lkB ss bs n z:=by
 unfold chB;by_cases c:n=t
 . rw[if_pos c,if_pos c,c]
 . rw[if_neg c,if_neg c];exact wR (h.ps.nodup_iff.mpr B.snd) hz
theorem lF:ax ["self", "bath", "outs", "baths"] ["self", "bath", "outs"] (ao iq):=sM
def j8 (K:PySem.W.Frag)(C cN cB:Addr):Sp:=fun vs H Q E=>∃ (x lu:Addr)(ss os:List Str)(bs:List (Str×List Str)) (z:Str),vs=[.ref x,.str z,.ref lu]∧bx H C x ss bs∧aP ss bs∧Shw z∧H lu=some (.lst (os.map V.str))∧os.length≤100∧(∀ v∈os,Shw v) ∧
 (z∉bs.map (·.1)→E (.ref cN) none H)∧(z∈bs.map (·.1)→¬GO ss os→∀ H',af H H'→E (.ref cB) none H')∧(z∈bs.map (·.1)→GO ss os→∀ y so ns H',H y=none→af H H'→kS ss so ns bs→aP so (ns.map (chB ss so bs z os))→bx (cZ H H') C y so (ns.map (chB ss so bs z os))→Q (.ref y) H')
theorem nW {C f fI fC fS fB fTb cN cB:Addr}{fd fdI fdC fdS fdB fdTb:FuncData}(F:Fun K "changed" "Book.changed" iq f fd)(T:Txt mg)(c:Cls K C)(M:Mk K C fI)
   (GI:aU P w K mg base (CX1 P w) 4 fI fdI ["self", "shades", "baths"] (mK K C cB))(bI:eC K fdI ["self", "shades", "baths"] [])(mC:mg "Book"=some (.ref C))
   (GC:Cm P w K mg base (CX1 P w) 1 C "check_bath" ["self", "bath"] (iC C cN) fC fdC)
   (GS:Cm P w K mg base CX0 1 C "shades" ["self"] (ir C) fS fdS)
   (GB:Cm P w K mg base CX0 1 C "baths" ["self"] (kC C) fB fdB)
   (GTb:Cm P w K mg base CX0 2 C "table" ["self", "bath"] (jT C) fTb fdTb) :
   aU P w K mg base (CX1 P w) 6 f fd ["self", "bath", "outs"] (j8 K C cN cB):=by
 refine oqX F lF fun cdv A outer s H vs Q E hr h=>?_;obtain⟨x,lu,ss,os,bs,z,rfl,hbk,B,hz,hlu,hol,hsh,qn,qe,q⟩:=h;have hr1:=hr.mono (j:=1) (by omega);have hr2:=hr.mono (j:=2) (by omega)
 refine⟨_,aj (aM (pM (pv 0) c GC hr1 bE (aa (pv 1) ae)))
   (aj (jm (i:=3) (N':=["name", "outs", "bath", "self"]) (pk:=[none,some 2,some 1,some 0]) lF.nd rfl (Or.inl rfl) rfl (bW.of (by rfl)) (aY (pM0 (pv 0) c GB hr1 az)) (fun s H ex=>pN 0 (by show(["name", "outs", "bath", "self"]:List Str).Nodup;decide))
       (fun s H ex=>bj (aa (pv 0) (aa (vw (aq bK (pv 0) (pv 2) (aw _)) (pv 1) (pM (pv 3) c GTb hr2 az (aa (pv 0) ae))) ae))))
   (ah (ap (mr M GI hr rfl mC bI .nil bE (aa (pM0 (pv 0) c GS hr1 az) (aa (pv 3) ae)))))),?_⟩
 try dsimp only[aF,aO]
 have hs:=aL;have hb8:=B.b8;have hs12:=B.s12;obtain⟨dx,t,d',so,h1,h2,h3,h4,h5⟩:=hbk;have hbk:bx H C x ss bs:=⟨dx,t,d',so,h1,h2,h3,h4,h5⟩;refine cut (fun σ' H'=>σ'=[some (.ref x),some (.str z),some (.ref lu),none]∧H'=H∧z∈bs.map (·.1)) ?_ ?_
 . walk_at"";refine⟨dx,_,h1,bQ (by decide) (by decide),x,ss,bs,z,rfl,hbk,B,hz,fun h=>⟨rfl,h⟩,qn⟩
 rintro σ1 H1 ⟨rfl,rfl,hzm⟩;obtain⟨b0,hb0,rfl⟩:=List.mem_map.mp hzm;refine cut (fun σ' H'=>∃ lb ns,σ'=[some (.ref x),some (.str b0.1),some (.ref lu),some (.ref lb)]∧af H1 H'∧ns.Perm (bs.map (·.1))∧AC ns=true∧ig H' lb (ns.map (chB ss so bs b0.1 os))) ?_ ?_
 . walk_at"";refine⟨dx,_,h1,bQ (by decide) (by decide),x,ss,bs,rfl,hbk,B,fun l ns hl hp2 hs2=>?_⟩
   have hnl:ns.length=bs.length:=by rw[hp2.length_eq,be]
   have Sa:af H1 (upd H1 l (.lst (ns.map V.str))):=af.updN hl;refine⟨l,rfl,⟨_,SqL.of ac⟩,fun D hD=>?_⟩;generalize hGG:upd H1 l (.lst (ns.map V.str))=G at Sa hD
   have hGl:G l=some (.lst (ns.map V.str)):=by rw[←hGG];exact ac
   have hD1:H1 D=none:=Sa.free hD
   refine rh (H0:=G) (aE (SqL.of hGl)) (by rw[be];omega) (fun i xs σ' H'=>(∃ o,σ'=[o,some (.ref lu),some (.str b0.1),some (.ref x)])∧af G H'∧H' D=some (.lst xs)∧∃ qs:List Addr,xs=qs.map V.ref∧qs.length=i∧∀ (j:Nat) p n,qs[j]?=some p→ns[j]?=some n→jH (hide H' D) p (chB ss so bs b0.1 os n))
     ⟨⟨none,rfl⟩,af.updN hD,ac,[],rfl,rfl,(by intro j p b h;simp at h)⟩ (fun i xs σ' H' ⟨_,h1,_,qs,h2,h3,_⟩=>⟨h1,by rw[h2,be];exact h3⟩) ?_ ?_
   . rintro i xs σ' H' y hi hy ⟨⟨o1,rfl⟩,hS,hHD,qs,rfl,hql,hqB⟩ R hR;rw[zX] at hy;obtain⟨n,hn,rfl⟩:=Option.map_eq_some_iff.mp hy;have hnm:n∈ns:=z6 hn;obtain⟨b,hb,rfl⟩:=List.mem_map.mp (hp2.mem_iff.mp hnm);have S1':af H1 H':=Sa.trans hS
     have last:∀ (v8:Addr)(H3:Hp)(t:Addr),af H' H3→H3 t=none→H3 v8=some (.lst ((chB ss so bs b0.1 os b.1).2.map V.str))→v8≠D→R (.ref t) [some (.str b.1),some (.ref lu),some (.str b0.1),some (.ref x)] (upd H3 t (.tup [.str b.1,.ref v8])):=fun v8 H3 t S3 ht hv hvD=>by
       have ht':H' t=none:=S3.free ht;have S4:=S3.step (o:=.tup [.str b.1,.ref v8]) ht'
       have htD:t≠D:=fun e=>by rw[e,hHD] at ht';cases ht'
       have hvt:v8≠t:=fun e=>by rw[←e,hv] at ht;cases ht
       refine hR _ _ _ (S4 _ _ hHD) ⟨⟨_,rfl⟩,(hS.trans S4).step hD,ac,qs++[t],by rw[z8];rfl,by rw[zY,hql];rfl,fun j p2 n2 hp2 hn2=>?_⟩;rw[ef];by_cases hj:j < i
       . rw[Af (by omega)] at hp2;exact af.bthAt (af.hide S4) (hqB j p2 n2 hp2 hn2)
       . have hj2:j=i:=by
           have:=(List.getElem?_eq_some_iff.mp hp2).1;rw[zY,hql] at this;simp only[Aa] at this;omega
         subst hj2;rw[z9 (by omega),hql,AL] at hp2;cases hp2;rw[hn] at hn2;cases hn2;refine⟨v8,?_,?_⟩
         . rw[aW htD];exact ac
         . rw[aW hvD,ai hvt];exact hv
     walk_at"";refine⟨rfl,aB (fun hc=>⟨by omega,fun t ht=>?_⟩) (fun hc=>?_)⟩
     . refine last lu H' t (af.refl _) ht ?_ (fun e=>by rw[e,hD1] at hlu;cases hlu);unfold chB;rw[if_pos hc];exact S1' _ _ hlu
     . refine⟨dx,_,S1' _ _ h1,bQ (by decide) (by decide),x,ss,bs,b,rfl,af.book S1' hbk,B,hb,fun l2 so2 hl2 hp3 hs3=>⟨by omega,fun t ht=>?_⟩⟩;have e2:so2=so:=cy hs3 h4 (hp3.trans h3.symm);subst e2;refine last l2 _ t (af.updN hl2) ht ?_ (fun e=>by rw[e,hHD] at hl2;cases hl2);unfold chB;rw[if_neg hc,ac];have e3:lkB ss bs b.1=lkV ss b:=funext fun z=>fk z B.bnd hb;rw[e3]
   . rintro xs σ' H' ⟨_,hS,hHD,qs,rfl,hql,hqB⟩;rw[be] at hql;refine⟨Sa.trans hS,ns,hp2,hs2,qs,hHD,by rw[be];exact hql,fun i p b hp hb=>?_⟩;rw[zX] at hb;obtain⟨n,hn,rfl⟩:=Option.map_eq_some_iff.mp hb;exact af.bthAt bP (hqB i p n hp hn)
 rintro σ2 H2 ⟨lb,ns,rfl,S2,hns,hsn,hB2⟩;have CI:kS ss so ns bs:=⟨h3,h4,hns,hsn⟩;walk_at"";refine⟨dx,_,S2 _ _ h1,bQ (by decide) (by decide),x,ss,bs,rfl,af.book S2 hbk,B,fun l so2 hl hp3 hs3 y dy hy hdy hne=>?_⟩;have e2:so2=so:=cy hs3 h4 (hp3.trans h3.symm);subst e2;generalize hGG:upd H2 l (.lst (so2.map V.str))=G at hy hdy
 have hGl:G l=some (.lst (so2.map V.str)):=by rw[←hGG];exact ac
 have Sa:af H2 G:=by rw[←hGG];exact af.updN hl
 have S5:af G (upd (upd G dy (.own y)) y (.ins C dy [])):=(af.updN hdy).step hy;have hsl:so2.length=ss.length:=h3.length_eq
 have hnl:ns.length=bs.length:=by rw[hns.length_eq,be]
 have XT:nS so2 (ns.map (chB ss so2 bs b0.1 os)):=by
   refine⟨by omega,fun v hv=>B.snw v (h3.mem_iff.mp hv),by rw[be];omega,fun b hb=>?_,fun b hb=>?_,fun b hb v hv=>?_⟩
   . obtain⟨n,hn,rfl⟩:=List.mem_map.mp hb;obtain⟨b2,hb2,e2⟩:=List.mem_map.mp (hns.mem_iff.mp hn);show Shw n;rw[←e2];exact B.bnw b2 hb2
   . obtain⟨n,hn,rfl⟩:=List.mem_map.mp hb;unfold chB;by_cases e:n=b0.1
     . rw[if_pos e];exact hol
     . rw[if_neg e,be];omega
   . obtain⟨n,hn,rfl⟩:=List.mem_map.mp hb;unfold chB at hv;by_cases e:n=b0.1
     . rw[if_pos e] at hv;exact hsh v hv
     . rw[if_neg e] at hv;obtain⟨u,hu,rfl⟩:=List.mem_map.mp hv;obtain⟨b2,hb2,rfl⟩:=List.mem_map.mp (hns.mem_iff.mp hn);rw[fk u B.bnd hb2];exact B.snw _ (B.bin b2 hb2 _ (t8 B.snd (B.bln b2 hb2) (h3.mem_iff.mp hu)))
 have S6:af H1 (hide (upd (upd G dy (.own y)) y (.ins C dy [])) y):=(S2.trans Sa).trans (fun u o e=>by
   rw[aW (aG e hy)];exact S5 u o e)
 have hgo:aP so2 (ns.map (chB ss so2 bs b0.1 os))→GO ss os:=fun B2=>by
   have hm:(chB ss so2 bs b0.1 os b0.1)∈ns.map (chB ss so2 bs b0.1 os):=AA (hns.mem_iff.mpr (AA hb0))
   have e1:(chB ss so2 bs b0.1 os b0.1).2=os:=by unfold chB;rw[if_pos rfl]
   have l1:=B2.bln _ hm;have l2:=B2.bin _ hm;rw[e1] at l1 l2;exact⟨by omega,fun v hv=>h3.mem_iff.mp (l2 v hv)⟩
 refine⟨y,dy,l,lb,so2,ns.map (chB ss so2 bs b0.1 os),rfl,ac,SqL.of (S5 _ _ hGl),af.bths (Sa.trans S5) hB2,XT,fun B2 H3 S3 hbk=>⟨rfl,q hzm (hgo B2) y so2 ns H3 ((S2.trans Sa).free hy) (S6.trans S3) CI B2 (af.book (gC S6) hbk)⟩,fun nB H3 S3=>qe hzm (fun g=>nB (sP B CI g.1 g.2)) H3 ((S2.trans (Sa.trans S5)).trans S3)⟩
abbrev Bk:=List Str×List (Str×List Str)
structure Hs where
 cl:List (Str×Str)
 day:Int
 dp:List (Int×Str×Str×Str)
 bk:List (Int×Bk)
def clV (cl:List (Str×Str)):List (Key×V):=cl.map fun c=>(Sum.inr c.1,V.str c.2)
def bkV (bk:List (Int×Bk))(rs:List Addr):List (Key×V):=(bk.zip rs).map fun e=>(Sum.inl e.1.1,V.ref e.2)
structure Ad where
 x:Addr
 dx:Addr
 d1:Addr
 ls:Addr
 db:Addr
def hid (H:Hp)(A:Ad):Hp:=fun b=>if b=A.x∨b=A.d1∨b=A.ls∨b=A.db then none else H b
theorem bp {H:Hp}{A:Ad}:af (hid H A) H:=fun b o e=>by
 unfold hid at e
 split at e
 . cases e
 . exact e
theorem ck {H H':Hp}{A:Ad}(S:af H H'):af (hid H A) (hid H' A):=fun b o e=>by
 unfold hid at e ⊢
 split at e
 . cases e
 . rename_i h;rw[if_neg h];exact S b o e
def hfs (A:Ad) (day:Int):List (Str×V):=[("first_shades",.ref A.d1),("day_now",.int day),("standing",.ref A.ls),("books_from",.ref A.db)]
structure aJ (H:Hp)(C CB:Addr)(A:Ad)(W:Hp)(ss:List Str) (h:Hs):Prop where
 ins:H A.x=some (.ins C A.dx (hfs A h.day))
 cl:H A.d1=some (.dK (clV h.cl))
 dp:∃ ps:List Addr,H A.ls=some (.lst (ps.map V.ref))∧ps.length=h.dp.length∧∀ (i:Nat) p e,ps[i]?=some p→h.dp[i]?=some e→W p=some (.tup [.int e.1,.str e.2.1,.str e.2.2.1,.str e.2.2.2])
 bk:∃ rs:List Addr,H A.db=some (.dK (bkV h.bk rs))∧rs.length=h.bk.length∧∀ (i:Nat) r e,rs[i]?=some r→h.bk[i]?=some e→bx W CB r e.2.1 e.2.2
 ne:A.d1≠A.db
 sub:af W (hid H A)
def d7 (H W W':Hp):Prop:=af W W'∧∀ b o,W b=none→H b=some o→W' b=none
theorem d7.refl (H W:Hp):d7 H W W:=⟨af.refl W,fun _ _ h _=>h⟩
structure bH (ss:List Str)(names:List Str) (h:Hs):Prop where
 cnd:(h.cl.map (·.1)).Nodup
 csh:∀ c∈h.cl,c.2∈ss
 cnm:∀ c∈h.cl,bc c.1=true
 d1:1≤h.day
 d4:h.day≤400
 dl:h.dp.length≤1000
 dd:∀ e∈h.dp,1≤e.1∧e.1≤h.day
 ds:∀ e∈h.dp,e.2.2.2∈ss
 k1:∃ b r,h.bk=(1,b)::r
 ks:h.bk.Pairwise (fun a b=>a.1 < b.1)
 kd:∀ e∈h.bk,1≤e.1∧e.1≤h.day
 kl:h.bk.length≤400
 kb:∀ e∈h.bk,aP e.2.1 e.2.2∧(∀ n,n∈e.2.2.map (·.1)↔n∈names)∧∀ z,z∈e.2.1↔z∈ss
def aR:List (Int×Bk)→Int→Bk
 | [],_=>([],[])
 | [e],_=>e.2
 | e::e2::r,d=>if e2.1≤d then aR (e2::r) d else e.2
theorem jo:∀ (bk:List (Int×Bk)) (d M:Int)(b:Bk),bk.Pairwise (fun a b=>a.1 < b.1)→(M,b)∈bk→M≤d→(∀ e∈bk,e.1≤d→e.1≤M)→aR bk d=b
 | [],_,_,_,_,h,_,_=>by cases h
 | [e],d,M,b,_,h,_,_=>by rw[List.mem_singleton] at h;rw[←h];rfl
 | e::e2::r,d,M,b,hp,h,hM,hx=>by
   have hp2:=List.pairwise_cons.mp hp;unfold aR;by_cases h2:e2.1≤d
   . rw[if_pos h2]
     rcases List.mem_cons.mp h with h | h
     . have h3:=hp2.1 e2 Ag;have h4:=hx e2 (Ai _ Ag) h2;rw[←h] at h3;exact absurd h3 (by show ¬(M < e2.1);omega)
     . exact jo (e2::r) d M b hp2.2 h hM fun e he=>hx e (Ai _ he)
   . rw[if_neg h2]
     rcases List.mem_cons.mp h with h | h
     . rw[←h]
     . rcases List.mem_cons.mp h with h | h
       . rw[←h] at h2;exact absurd hM h2
       . have:=(List.pairwise_cons.mp hp2.2).1 _ h;exact absurd hM (by show ¬(M≤d);have h5:e2.1 < M:=this;omega)
theorem eB {cl:List (Str×Str)}{c:Str×Str}(hd:(cl.map (·.1)).Nodup)(h:c∈cl):bG (clV cl) (Sum.inr c.1)=some (V.str c.2):=by
 induction cl with
 | nil=>cases h
 | cons a r ih =>
   rw[An,BS] at hd;unfold clV bG;rw[An,Bn];by_cases e:a.1=c.1
   . rcases List.mem_cons.mp h with h | h
     . rw[h];simp
     . exact absurd (AA (f:=(·.1)) h) (by rw[←e];exact hd.1)
   . rcases List.mem_cons.mp h with h | h
     . exact absurd (by rw[h]) e
     . have:=ih hd.2 h;unfold clV bG at this;simp only[Sum.inr.injEq,e,decide_false];exact this
theorem bM {cl:List (Str×Str)}{z:Str}(h:z∉cl.map (·.1)):bG (clV cl) (Sum.inr z)=none:=by
 unfold bG clV;rw[Option.map_eq_none_iff,List.find?_eq_none];intro kv hkv;obtain⟨c,hc,rfl⟩:=List.mem_map.mp hkv;simp only[Sum.inr.injEq,decide_eq_true_eq];exact fun e=>h (by rw[←e];exact AA hc)
theorem gD {H:Hp}{A:Ad}{b:Addr}{o:HO}(h:hid H A b=some o):H b=some o∧b≠A.x∧b≠A.d1∧b≠A.ls∧b≠A.db:=by
 unfold hid at h
 split at h
 . cases h
 . rename_i hn;exact⟨h,fun e=>hn (.inl e),fun e=>hn (.inr (.inl e)),fun e=>hn (.inr (.inr (.inl e))),fun e=>hn (.inr (.inr (.inr e)))⟩
theorem af.house {H H':Hp}{C CB:Addr}{A:Ad}{W:Hp}{ss:List Str}{h:Hs}(S:af H H')(hh:aJ H C CB A W ss h):aJ H' C CB A W ss h:=by
 obtain⟨h1,h2,⟨ps,h3,h4,h5⟩,⟨rs,h6,h7,h8⟩,h9,h10⟩:=hh;exact⟨S _ _ h1,S _ _ h2,⟨ps,S _ _ h3,h4,h5⟩,⟨rs,S _ _ h6,h7,h8⟩,h9,h10.trans (ck S)⟩
theorem lY {H:Hp}{A:Ad}{b:Addr}{o:HO}(b1:b≠A.x)(b2:b≠A.d1)(b3:b≠A.ls)(b4:b≠A.db):hid (upd H b o) A=upd (hid H A) b o:=by
 funext y;unfold hid;by_cases hy:y=A.x∨y=A.d1∨y=A.ls∨y=A.db
 . rw[if_pos hy]
   have hyb:y≠b:=fun e=>by rw[e] at hy;rcases hy with z | z | z | z;exact b1 z;exact b2 z;exact b3 z;exact b4 z
   rw[ai hyb,if_pos hy]
 . rw[if_neg hy];by_cases e:y=b
   . rw[e,ac,ac]
   . rw[ai e,ai e,if_neg hy]
theorem aJ.upd {H:Hp}{C CB:Addr}{A:Ad}{W:Hp}{ss:List Str}{h:Hs}{b:Addr}{u o:HO}(hh:aJ H C CB A W ss h)(hb:hid H A b=some u)(hw:W b=none):aJ (L2.upd H b o) C CB A W ss h:=by
 obtain⟨hb0,b1,b2,b3,b4⟩:=gD hb;obtain⟨h1,h2,⟨ps,h3,h4,h5⟩,⟨rs,h6,h7,h8⟩,h9,h10⟩:=hh;refine⟨by rw[ai (Ne.symm b1)];exact h1,by rw[ai (Ne.symm b2)];exact h2,⟨ps,by rw[ai (Ne.symm b3)];exact h3,h4,h5⟩,⟨rs,by rw[ai (Ne.symm b4)];exact h6,h7,h8⟩,h9,?_⟩;rw[lY b1 b2 b3 b4]
 exact fun y v e=>by rw[ai (aG e hw)];exact h10 y v e
theorem aJ.up {H:Hp}{C CB:Addr}{A:Ad}{W:Hp}{ss:List Str}{h:Hs}(hh:aJ H C CB A W ss h):af W H:=hh.sub.trans bp
theorem dI {A:Ad}{d:Int}:Au (zV "first_shades") (hfs A d)=some (.ref A.d1):=rfl
theorem wg {A:Ad}{d:Int}:Au (zV "day_now") (hfs A d)=some (.int d):=rfl
theorem gc {A:Ad}{d:Int}:Au (zV "standing") (hfs A d)=some (.ref A.ls):=rfl
theorem jz {A:Ad}{d:Int}:Au (zV "books_from") (hfs A d)=some (.ref A.db):=rfl
theorem eu {A:Ad}{d:Int}{m:Str}(h1:(m==zV "first_shades")=false)(h2:(m==zV "day_now")=false)(h3:(m==zV "standing")=false)(h4:(m==zV "books_from")=false):Au m (hfs A d)=none:=by
 unfold hfs;rw[Ax,h1];show Au m [(zV "day_now",V.int d),(zV "standing",V.ref A.ls),(zV "books_from",V.ref A.db)]=none;rw[Ax,h2];show Au m [(zV "standing",V.ref A.ls),(zV "books_from",V.ref A.db)]=none;rw[Ax,h3];show Au m [(zV "books_from",V.ref A.db)]=none;rw[Ax,h4];rfl
structure Hx (K:PySem.W.Frag)(mg:Str→Option Value)(C:Addr):Prop where
 c:Cls K C
 n1:NoAttr K C "first_shades"
 n2:NoAttr K C "day_now"
 n3:NoAttr K C "standing"
 n4:NoAttr K C "books_from"
 fd:∃ t,mg "FIRST_DAY"=some (.int 1 t)
 ld:∃ t,mg "LAST_DAY"=some (.int 400 t)
 mc:∃ t,mg "MOST_CLOTHS"=some (.int 50 t)
 md:∃ t,mg "MOST_DIPS"=some (.int 1000 t)
 max:mg "max"=none
def kN (cND:Addr):Sp:=fun vs H Q E=>∃ d:Int,vs=[.int d]∧((1≤d∧d≤400)→Q .non H)∧(¬(1≤d∧d≤400)→E (.ref cND) none H)
theorem yQ:ax ["day"] ["day"] (ao uz):=sM
theorem wS {f:Addr}{fd:FuncData}{CH CB cND:Addr}(F:Fun K "check_day" "check_day" uz f fd)
   (T:Txt mg)(hX:Hx K mg CH)(cB:Cls K CB)(XND:ExcC K cND)(mND:mg "NoDay"=some (.ref cND)) :
   aU P w K mg base (CX1 P w) 1 f fd ["day"] (kN cND):=by
 refine oqX F yQ fun cdv A outer s H vs Q E hr h=>?_;obtain⟨d,rfl,q,qe⟩:=h;obtain⟨_,hfd⟩:=hX.fd;obtain⟨_,hld⟩:=hX.ld;refine⟨_,(ah (aC (PW.pt (eE (aq cW (pv 0) (bi (v:=.int 1) rfl hfd ⟨_,rfl⟩) (aw _)) (dc (aq fE (pv 0) (bi (v:=.int 400) rfl hld ⟨_,rfl⟩) (aw _))))) (ah (bC rfl rfl mND XND.exc Aj (aa ay ae) dh)) am)),?_⟩
 try dsimp only[aF,aO]
 walk_at"";refine aB (fun h=>⟨by decide,qe (by omega)⟩) (fun h1=>aB (fun h=>⟨by decide,qe (by omega)⟩) (fun h2=>q (by omega)))
def ub (CH CB cNC:Addr):Sp:=fun vs H Q E=>∃ (A:Ad)(W:Hp)(ss:List Str) (h:Hs) (z:Str),vs=[.ref A.x,.str z]∧aJ H CH CB A W ss h∧Shw z∧(h.cl.map (·.1)).Nodup∧(z∈h.cl.map (·.1)→Q .non H)∧(z∉h.cl.map (·.1)→E (.ref cNC) none H)
theorem zB:ax ["self", "cloth"] ["self", "cloth"] (ao ky):=sM
theorem yc {f:Addr}{fd:FuncData}{CH CB cNC:Addr}(F:Fun K "check_cloth" "House.check_cloth" ky f fd)
   (T:Txt mg)(hX:Hx K mg CH)(cB:Cls K CB)(XNC:ExcC K cNC)(mNC:mg "NoCloth"=some (.ref cNC)) :
   aU P w K mg base (CX1 P w) 1 f fd ["self", "cloth"] (ub CH CB cNC):=by
 refine oqX F zB fun cdv A outer s H vs Q E hr h=>?_;obtain⟨A0,W,ss,h,z,rfl,hh,hz,hnd,q,qe⟩:=h;have hu:=eM hr;refine⟨_,(ah (aC (fu (dw hu (pv 1) (bD (pv 0) rfl))) (ah (bC rfl rfl mNC XNC.exc Aj (aa (fj (pv 1)) ae) dh)) am)),?_⟩
 try dsimp only[aF,aO]
 by_cases hm:z∈h.cl.map (·.1)
 . obtain⟨c,hc,rfl⟩:=List.mem_map.mp hm;walk_at"";exact⟨CH,A0.dx,_,hh.ins,hX.c,hX.n1,_,dI,A0.d1,rfl,_,.inl ⟨_,Sum.inr c.1,.inl hh.cl,rfl,(eB hnd hc).symm⟩,q hm⟩
 . walk_at"";exact⟨CH,A0.dx,_,hh.ins,hX.c,hX.n1,_,dI,A0.d1,rfl,none,.inl ⟨_,Sum.inr z,.inl hh.cl,rfl,(bM hm).symm⟩,hz.1,hz.2,fun y=>⟨by decide,qe hm⟩⟩
def rL (CH CB cND cLa:Addr):Sp:=fun vs H Q E=>∃ (A:Ad)(W:Hp)(ss:List Str) (h:Hs) (d:Int),vs=[.ref A.x,.int d]∧aJ H CH CB A W ss h∧((1≤d∧d≤400)→h.day≤d→Q .non H)∧(¬(1≤d∧d≤400)→E (.ref cND) none H)∧((1≤d∧d≤400)→d < h.day→E (.ref cLa) none H)
theorem zk:ax ["self", "day"] ["self", "day"] (ao pL):=sM
theorem yD {f fCD:Addr}{fd fdCD:FuncData}{CH CB cLa cND:Addr}(F:Fun K "check_day_to_do" "House.check_day_to_do" pL f fd)
   (T:Txt mg)(hX:Hx K mg CH)(cB:Cls K CB)(XLa:ExcC K cLa)(mLa:mg "Late"=some (.ref cLa))
   (GCD:Cl P w K mg base (CX1 P w) 1 "check_day" ["day"] (kN cND) fCD fdCD) :
   aU P w K mg base (CX1 P w) 2 f fd ["self", "day"] (rL CH CB cND cLa):=by
 refine oqX F zk fun cdv A outer s H vs Q E hr h=>?_;obtain⟨A0,W,ss,h,d,rfl,hh,q,qd,ql⟩:=h;have hr1:=hr.mono (j:=1) (by omega)
 refine⟨_,(aj (aM (pC GCD hr1 bE (aa (pv 1) ae)))
   (ah (aC (aq cW (pv 1) (bD (pv 0) rfl) (aw _)) (ah (bC rfl rfl mLa XLa.exc Aj (aa ay ae) dh)) am))),?_⟩
 try dsimp only[aF,aO]
 refine ar (fun σ' H'=>(1≤d∧d≤400)∧σ'=[some (.ref A0.x),some (.int d)]∧H'=H) (fun R hR=>?_) ?_
 . walk_at"";exact⟨d,rfl,fun hd=>hR _ _ ⟨hd,rfl,rfl⟩,qd⟩
 rintro σ1 H1 ⟨hd,rfl,rfl⟩;walk_at"";exact⟨CH,A0.dx,_,hh.ins,hX.c,hX.n2,_,wg,_,rfl,aB (fun h1=>⟨by decide,ql hd h1⟩) (fun h1=>q hd (by omega))⟩
theorem l6 {bk:List (Int×Bk)}{rs:List Addr}(h:rs.length=bk.length):(bkV bk rs).length=bk.length:=by
 unfold bkV;rw[be,BF,h,CU]
theorem rb:∀ {bk:List (Int×Bk)}{rs:List Addr}{i:Nat}{e:Int×Bk}{r:Addr},bk.Pairwise (fun a b=>a.1 < b.1)→bk[i]?=some e→rs[i]?=some r→bG (bkV bk rs) (Sum.inl e.1)=some (V.ref r)
 | [],_,i,_,_,_,h,_=>by simp at h
 | a::bk,[],i,_,_,_,_,h=>by simp at h
 | a::bk,r0::rs,0,e,r,_,h1,h2=>by
   simp only[List.getElem?_cons_zero,Option.some.injEq] at h1 h2;subst h1 h2;unfold bkV bG;simp
 | a::bk,r0::rs,i+1,e,r,hp,h1,h2=>by
   simp only[List.getElem?_cons_succ] at h1 h2;have hp2:=List.pairwise_cons.mp hp;have hlt:=hp2.1 e (z6 h1);have ih:=rb hp2.2 h1 h2;unfold bkV bG at ih ⊢;rw[Bg,An,Bn]
   have hne:¬(a.1=e.1):=by omega
   simp only[Sum.inl.injEq,hne,decide_false];exact ih
def gR (CH CB cND:Addr):Sp:=fun vs H Q E=>∃ (A:Ad)(W:Hp)(ss names:List Str) (h:Hs) (d:Int),vs=[.ref A.x,.int d]∧aJ H CH CB A W ss h∧bH ss names h∧((1≤d∧d≤400)→∀ r H',af H H'→bx W CB r (aR h.bk d).1 (aR h.bk d).2→Q (.ref r) H')∧(¬(1≤d∧d≤400)→E (.ref cND) none H)
theorem xo:ax ["self", "day"] ["self", "day"] (ao pq):=sM
theorem uP {f fCD:Addr}{fd fdCD:FuncData}{CH CB cND:Addr}(F:Fun K "book" "House.book" pq f fd)
   (T:Txt mg)(hX:Hx K mg CH)(cB:Cls K CB)
   (GCD:Cl P w K mg base (CX1 P w) 1 "check_day" ["day"] (kN cND) fCD fdCD) :
   aU P w K mg base (CX1 P w) 2 f fd ["self", "day"] (gR CH CB cND):=by
 refine oqX F xo fun cdv A outer s H vs Q E hr h=>?_;obtain⟨A0,W,ss,names,h,d,rfl,hh,ho,q,qd⟩:=h;have hu:=eM hr;have hr1:=hr.mono (j:=1) (by omega)
 refine⟨_,(aj (aM (pC GCD hr1 bE (aa (pv 1) ae)))
   (ah (ap (cx hu (bD (pv 0) rfl) (al (sF rfl) (by rfl) hX.max (by decide) (aa (xm (eP (N':=["start", "day"]) (pk:=[none,some 1]) rfl (bW.of (by rfl)) (mQ (bD (pv 0) rfl)) (fun s H ex=>(pN 0 (by show(["start", "day"]:List Str).Nodup;decide))) (fun s H ex=>(aq rj (pv 0) (pv 1) (aw _))) (fun s H ex=>(pv 0)))) ae)) (fun _ _=>rfl))))),?_⟩
 try dsimp only[aF,aO]
 have hs:=aL;refine ar (fun σ' H'=>(1≤d∧d≤400)∧σ'=[some (.ref A0.x),some (.int d)]∧H'=H) (fun R hR=>?_) ?_
 . walk_at"";exact⟨d,rfl,fun hd=>hR _ _ ⟨hd,rfl,rfl⟩,qd⟩
 rintro σ1 H1 ⟨hd,rfl,rfl⟩;obtain⟨rs,hdb,hrl,hrB⟩:=hh.bk;have hkl:=ho.kl
 have hnf:∀ o u,H1 A0.db≠some (.frz o u):=fun o u e=>by rw[hdb] at e;cases e
 have hkm:(bkV h.bk rs).map (·.1)=h.bk.map (fun e=>Sum.inl e.1):=by
   unfold bkV;rw[AH];have:(fun e:(Int×Bk)×Addr=>(Sum.inl e.1.1:Key))=(fun e=>(Sum.inl e.1:Key))∘Prod.fst:=rfl;show(h.bk.zip rs).map (fun e=>(Sum.inl e.1.1:Key))=_;rw[this,←AH,List.map_fst_zip (by omega)]
 walk_at"";refine⟨CH,A0.dx,_,hh.ins,hX.c,hX.n4,_,jz,CH,A0.dx,_,hh.ins,hX.c,hX.n4,_,jz,A0.db,rfl,_,.inl ⟨hdb,fun o D hD=>?_⟩⟩
 have hDb:D≠A0.db:=fun e=>by rw[e,ac] at hD;cases hD
 refine fh (fM (H1:=upd H1 A0.db (.frz o (.dK (bkV h.bk rs)))) ac) (by rw[l6 hrl];omega) hD (fun σ=>∃ o,σ=[o,some (.int d)]) (fun i=>decide ((h.bk.getD i (0,([],[]))).1≤d)) (fun i=>V.int (h.bk.getD i (0,([],[]))).1) ⟨none,rfl⟩ ?_ ?_
 . rintro i x σ' H3 hi ⟨k,v,hk,rfl⟩ ⟨o2,rfl⟩ hS R1 R0 h1 h0;rw[l6 hrl] at hi;obtain⟨e,he⟩:∃ e,h.bk[i]?=some e:=⟨_,zW hi⟩
   have ek:k=Sum.inl e.1:=by
     have:=congrArg (fun l=>l[i]?) hkm;simp only[zX,hk,he] at this
     simpa using this
   subst ek
   have eg:h.bk.getD i (0,([],[]))=e:=by rw[zZ,he];rfl
   rw[eg] at h1 h0;walk_at"";refine⟨_,rfl,aB (fun hle=>h1 (decide_eq_true (by simpa using hle)) _ ⟨_,rfl⟩) (fun hle=>h0 (decide_eq_false (by simpa using hle)) _ ⟨_,rfl⟩)⟩
 . refine .inr ⟨A0.db,o,_,by rw[ai (Ne.symm hDb)];exact ac,hnf,?_⟩
   have hD1:H1 D=none:=by rw[ai hDb] at hD;exact hD
   have SF:∀ L:List V,af H1 (upd (upd (upd H1 A0.db (.frz o (.dK (bkV h.bk rs)))) D (.lst L)) A0.db (.dK (bkV h.bk rs))):=fun L b ob e=>by
     by_cases hb:b=A0.db
     . rw[hb,hdb] at e;rw[hb,ac];exact e
     . rw[ai hb,ai (aG e hD1),ai hb];exact e
   rw[l6 hrl]
   have eL:((Ab h.bk.length).filter (fun i=>decide ((h.bk.getD i (0,([],[]))).1≤d))).map (fun i=>V.int (h.bk.getD i (0,([],[]))).1)=(((Ab h.bk.length).filter (fun i=>decide ((h.bk.getD i (0,([],[]))).1≤d))).map (fun i=>(h.bk.getD i (0,([],[]))).1)).map V.int:=by rw[AH];rfl
   rw[eL]
   have mem:∀ M,M∈((Ab h.bk.length).filter (fun i=>decide ((h.bk.getD i (0,([],[]))).1≤d))).map (fun i=>(h.bk.getD i (0,([],[]))).1)↔∃ (i:Nat)(e:Int×Bk),h.bk[i]?=some e∧e.1≤d∧e.1=M:=fun M=>by
     rw[List.mem_map];constructor
     . rintro⟨i,hi,rfl⟩;obtain⟨h1,h2⟩:=List.mem_filter.mp hi;have hl:=List.mem_range.mp h1;refine⟨i,h.bk.getD i (0,([],[])),?_,by simpa using h2,rfl⟩;rw[zZ,zW hl];rfl
     . rintro⟨i,e,h1,h2,rfl⟩
       have eg:h.bk.getD i (0,([],[]))=e:=by rw[zZ,h1];rfl
       exact⟨i,List.mem_filter.mpr ⟨List.mem_range.mpr (List.getElem?_eq_some_iff.mp h1).1,by rw[eg];exact decide_eq_true h2⟩,by rw[eg]⟩
   refine⟨_,SqL.of (by rw[ai hDb];exact ac),?_,fun M hM hmax=>?_⟩
   . obtain⟨b0,r0,hb0⟩:=ho.k1;exact BZ ((mem 1).mpr ⟨0,(1,b0),by rw[hb0];rfl,hd.1,rfl⟩)
   . obtain⟨i,e,he,hle,rfl⟩:=(mem M).mp hM;obtain⟨r,hr0⟩:∃ r,rs[i]?=some r:=⟨_,zW (by rw[hrl];exact(List.getElem?_eq_some_iff.mp he).1)⟩;refine⟨A0.db,rfl,V.ref r,.inl ⟨_,Sum.inl e.1,.inl ac,rfl,(rb ho.ks he hr0).symm⟩,q hd r _ (SF _) ?_⟩
     rw[jo h.bk d e.1 e.2 ho.ks (z6 he) hle fun e2 he2 hle2=>by
       obtain⟨j,hj⟩:=AX he2
       exact hmax _ ((mem e2.1).mpr ⟨j,e2,hj,hle2,rfl⟩)]
     exact hrB i r e hr0 he
def mL (CH CB:Addr):Sp:=fun vs H Q E=>∃ (A:Ad)(W:Hp)(ss names:List Str) (h:Hs),vs=[.ref A.x]∧aJ H CH CB A W ss h∧bH ss names h∧(∀ r H',af H H'→bx W CB r (aR h.bk 400).1 (aR h.bk 400).2→Q (.ref r) H')
theorem yw:ax ["self"] ["self"] (ao jN):=sM
theorem w5 {f fHB:Addr}{fd fdHB:FuncData}{CH CB cND:Addr}(F:Fun K "newest_book" "House.newest_book" jN f fd)
   (T:Txt mg)(hX:Hx K mg CH)(cB:Cls K CB)
   (GHB:Cm P w K mg base (CX1 P w) 2 CH "book" ["self", "day"] (gR CH CB cND) fHB fdHB) :
   aU P w K mg base (CX1 P w) 3 f fd ["self"] (mL CH CB):=by
 refine oqX F yw fun cdv A outer s H vs Q E hr h=>?_;obtain⟨A0,W,ss,names,h,rfl,hh,ho,q⟩:=h;obtain⟨_,hld⟩:=hX.ld;have cH:=hX.c;have hr2:=hr.mono (j:=2) (by omega);refine⟨_,(ah (ap (pM (pv 0) cH GHB hr2 bE (aa (bi (v:=.int 400) rfl hld ⟨_,rfl⟩) ae)))),?_⟩
 try dsimp only[aF,aO]
 walk_at"";exact⟨A0.dx,_,hh.ins,eu (by decide) (by decide) (by decide) (by decide),A0,W,ss,names,h,400,rfl,hh,ho,fun _=>q,fun hn=>absurd (by omega) hn⟩
def aX (dp:List (Int×Str×Str×Str)) (c:Str) (d:Int):List (Int×Str×Str):=(dp.filter fun e=>decide (e.2.1=c)&&decide (e.1≤d)).map fun e=>(e.1,e.2.2.1,e.2.2.2)
def bf (dp:List (Int×Str×Str×Str)) (d:Int):List (Str×Str):=(dp.filter fun e=>decide (e.1=d)).map fun e=>(e.2.1,e.2.2.1)
def aV (h:Hs) (c:Str) (d:Int):Str:=match (aX h.dp c d).getLast? with
 | some e=>e.2.2
 | none=>((h.cl.lookup c).getD ⟨#[]⟩)
abbrev d0:Int×Str×Str×Str:=(0,⟨#[]⟩,⟨#[]⟩,⟨#[]⟩)
theorem fq {α β:Type}(l:List α)(dflt:α)(p:α→Bool)(f:α→β):(((Ab l.length).filter (fun i=>p (l.getD i dflt))).map (fun i=>f (l.getD i dflt)))=(l.filter p).map f:=by
 have e:l=(Ab l.length).map (fun i=>l.getD i dflt):=by
   refine Cu fun i=>?_;rw[zX];by_cases hi:i < l.length
   . rw[Cg hi,zW hi];show _=some (l.getD i dflt);rw[zZ,zW hi];rfl
   . rw[Br (by omega),Br (by simpa using hi)];rfl
 conv=>rhs;rw[e]
 rw[List.filter_map,AH];rfl
def hV (CH CB cNC cND:Addr):Sp:=fun vs H Q E=>∃ (A:Ad)(W:Hp)(ss names:List Str) (h:Hs) (z:Str) (d:Int),vs=[.ref A.x,.str z,.int d]∧aJ H CH CB A W ss h∧bH ss names h∧Shw z∧(z∈h.cl.map (·.1)→(1≤d∧d≤400)→∀ l ps H',af H H'→H l=none→H' l=some (.lst (ps.map V.ref))→cn H' ps ((aX h.dp z d).map fun e=>[.int e.1,.str e.2.1,.str e.2.2])→Q (.ref l) H')∧(z∉h.cl.map (·.1)→E (.ref cNC) none H)∧(z∈h.cl.map (·.1)→¬(1≤d∧d≤400)→E (.ref cND) none H)
theorem vR:ax ["self", "cloth", "day"] ["self", "cloth", "day"] (ao mV):=sM
theorem tf {f fHC fCD:Addr}{fd fdHC fdCD:FuncData}{CH CB cNC cND:Addr}(F:Fun K "trail" "House.trail" mV f fd)
   (T:Txt mg)(hX:Hx K mg CH)(cB:Cls K CB)
   (GHC:Cm P w K mg base (CX1 P w) 1 CH "check_cloth" ["self", "cloth"] (ub CH CB cNC) fHC fdHC)
   (GCD:Cl P w K mg base (CX1 P w) 1 "check_day" ["day"] (kN cND) fCD fdCD) :
   aU P w K mg base (CX1 P w) 2 f fd ["self", "cloth", "day"] (hV CH CB cNC cND):=by
 refine oqX F vR fun cdv A outer s H vs Q E hr h=>?_;obtain⟨A0,W,ss,names,h,z,d,rfl,hh,ho,hz,q,qc,qd⟩:=h;have cH:=hX.c;have hr1:=hr.mono (j:=1) (by omega)
 refine⟨_,(aj (aM (pM (pv 0) cH GHC hr1 bE (aa (pv 1) ae)))
   (aj (aM (pC GCD hr1 bE (aa (pv 2) ae)))
   (ah (ap (eP (N':=["when", "dipped", "bath", "out", "cloth", "day"]) (pk:=[none,none,none,none,some 1,some 2]) rfl (bW.of (by rfl)) (aY (bD (pv 0) rfl)) (fun s H ex=>((cz (n:=4) rfl (aH (pN 0 (by show(["when", "dipped", "bath", "out", "cloth", "day"]:List Str).Nodup;decide)) (aH (pN 1 (by show(["when", "dipped", "bath", "out", "cloth", "day"]:List Str).Nodup;decide)) (aH (pN 2 (by show(["when", "dipped", "bath", "out", "cloth", "day"]:List Str).Nodup;decide)) (aH (pN 3 (by show(["when", "dipped", "bath", "out", "cloth", "day"]:List Str).Nodup;decide)) bT))))):PG _ _ (kx K 4 (bO (bB 0) (bO (bB 1) (bO (bB 2) (bO (bB 3) iO))))))) (fun s H ex=>(PW.pt (jV (aq bK (pv 1) (pv 4) (aw _)) (gT (aq rj (pv 0) (pv 5) (aw _)))))) (fun s H ex=>(bj (aa (pv 0) (aa (pv 2) (aa (pv 3) ae)))))))))),?_⟩
 try dsimp only[aF,aO]
 have hs:=aL;refine ar (fun σ' H'=>z∈h.cl.map (·.1)∧σ'=[some (.ref A0.x),some (.str z),some (.int d)]∧H'=H) (fun R hR=>?_) ?_
 . walk_at"";exact⟨A0.dx,_,hh.ins,eu (by decide) (by decide) (by decide) (by decide),A0,W,ss,h,z,rfl,hh,hz,ho.cnd,fun hm=>hR _ _ ⟨hm,rfl,rfl⟩,qc⟩
 rintro σ1 H1 ⟨hm,rfl,rfl⟩;refine ar (fun σ' H'=>(1≤d∧d≤400)∧σ'=[some (.ref A0.x),some (.str z),some (.int d)]∧H'=H1) (fun R hR=>?_) ?_
 . walk_at"";exact⟨d,rfl,fun hd=>hR _ _ ⟨hd,rfl,rfl⟩,qd hm⟩
 rintro σ2 H2 ⟨hd,rfl,rfl⟩;obtain⟨ps,hls,hpl,hpT⟩:=hh.dp;have hdl:=ho.dl;walk_at"";refine⟨CH,A0.dx,_,hh.ins,hX.c,hX.n3,_,gc,A0.ls,rfl,⟨_,SqL.of hls⟩,fun D hD=>?_⟩;refine iW (aE (SqL.of hls)) (by rw[be];omega) hD (fun σ=>∃ o1 o2 o3 o4,σ=[o1,o2,o3,o4,some (.str z),some (.int d)]) (fun i=>(fun e:Int×Str×Str×Str=>decide (e.2.1=z)&&decide (e.1≤d)) (h.dp.getD i d0)) (fun i=>(fun e:Int×Str×Str×Str=>[V.int e.1,.str e.2.2.1,.str e.2.2.2]) (h.dp.getD i d0)) ⟨none,none,none,none,rfl⟩ ?_ ?_
 . rintro i x σ' H3 hi hx ⟨o1,o2,o3,o4,rfl⟩ hS R1 R0 h1 h0;rw[zX] at hx;obtain⟨p,hp,rfl⟩:=Option.map_eq_some_iff.mp hx;obtain⟨e,he⟩:∃ e,h.dp[i]?=some e:=⟨_,zW (by rw[be] at hi;omega)⟩;have ht:=hS _ _ (hh.up _ _ (hpT i p e hp he))
   have eg:h.dp.getD i d0=e:=by rw[zZ,he];rfl
   simp only[eg] at h1 h0;refine uK ht ?_;walk_at"";refine⟨rfl,aB (fun hc=>aB (fun hle=>⟨by omega,fun p hp=>h1 (by simp[hc,hle]) p _ ⟨_,_,_,_,rfl⟩ hp⟩) (fun hle=>h0 (by simp[hle]) _ ⟨_,_,_,_,rfl⟩)) (fun hc=>h0 (by simp[hc]) _ ⟨_,_,_,_,rfl⟩)⟩
 . intro qs H' S' hHD hT;rw[be,hpl,fq h.dp d0 (fun e=>decide (e.2.1=z)&&decide (e.1≤d)) (fun e=>[V.int e.1,.str e.2.2.1,.str e.2.2.2])] at hT;refine q hm hd D qs H' S' hD hHD ?_;unfold aX;rw[AH];exact hT
def gZ (CH CB cND:Addr):Sp:=fun vs H Q E=>∃ (A:Ad)(W:Hp)(ss names:List Str) (h:Hs) (d:Int),vs=[.ref A.x,.int d]∧aJ H CH CB A W ss h∧bH ss names h∧((1≤d∧d≤400)→∀ l ps H',af H H'→H l=none→H' l=some (.lst (ps.map V.ref))→cn H' ps ((bf h.dp d).map fun e=>[.str e.1,.str e.2])→Q (.ref l) H')∧(¬(1≤d∧d≤400)→E (.ref cND) none H)
theorem xu:ax ["self", "day"] ["self", "day"] (ao qp):=sM
theorem vC {f fCD:Addr}{fd fdCD:FuncData}{CH CB cND:Addr}(F:Fun K "dips" "House.dips" qp f fd)
   (T:Txt mg)(hX:Hx K mg CH)(cB:Cls K CB)
   (GCD:Cl P w K mg base (CX1 P w) 1 "check_day" ["day"] (kN cND) fCD fdCD) :
   aU P w K mg base (CX1 P w) 2 f fd ["self", "day"] (gZ CH CB cND):=by
 refine oqX F xu fun cdv A outer s H vs Q E hr h=>?_;obtain⟨A0,W,ss,names,h,d,rfl,hh,ho,q,qd⟩:=h;have hr1:=hr.mono (j:=1) (by omega)
 refine⟨_,(aj (aM (pC GCD hr1 bE (aa (pv 1) ae)))
   (ah (ap (eP (N':=["when", "cloth", "bath", "out", "day"]) (pk:=[none,none,none,none,some 1]) rfl (bW.of (by rfl)) (aY (bD (pv 0) rfl)) (fun s H ex=>((cz (n:=4) rfl (aH (pN 0 (by show(["when", "cloth", "bath", "out", "day"]:List Str).Nodup;decide)) (aH (pN 1 (by show(["when", "cloth", "bath", "out", "day"]:List Str).Nodup;decide)) (aH (pN 2 (by show(["when", "cloth", "bath", "out", "day"]:List Str).Nodup;decide)) (aH (pN 3 (by show(["when", "cloth", "bath", "out", "day"]:List Str).Nodup;decide)) bT))))):PG _ _ (kx K 4 (bO (bB 0) (bO (bB 1) (bO (bB 2) (bO (bB 3) iO))))))) (fun s H ex=>(aq bK (pv 0) (pv 4) (aw _))) (fun s H ex=>(bj (aa (pv 1) (aa (pv 2) ae)))))))),?_⟩
 try dsimp only[aF,aO]
 have hs:=aL;refine ar (fun σ' H'=>(1≤d∧d≤400)∧σ'=[some (.ref A0.x),some (.int d)]∧H'=H) (fun R hR=>?_) ?_
 . walk_at"";exact⟨d,rfl,fun hd=>hR _ _ ⟨hd,rfl,rfl⟩,qd⟩
 rintro σ2 H2 ⟨hd,rfl,rfl⟩;obtain⟨ps,hls,hpl,hpT⟩:=hh.dp;have hdl:=ho.dl;walk_at"";refine⟨CH,A0.dx,_,hh.ins,hX.c,hX.n3,_,gc,A0.ls,rfl,⟨_,SqL.of hls⟩,fun D hD=>?_⟩;refine iW (aE (SqL.of hls)) (by rw[be];omega) hD (fun σ=>∃ o1 o2 o3 o4,σ=[o1,o2,o3,o4,some (.int d)]) (fun i=>(fun e:Int×Str×Str×Str=>decide (e.1=d)) (h.dp.getD i d0)) (fun i=>(fun e:Int×Str×Str×Str=>[V.str e.2.1,.str e.2.2.1]) (h.dp.getD i d0)) ⟨none,none,none,none,rfl⟩ ?_ ?_
 . rintro i x σ' H3 hi hx ⟨o1,o2,o3,o4,rfl⟩ hS R1 R0 h1 h0;rw[zX] at hx;obtain⟨p,hp,rfl⟩:=Option.map_eq_some_iff.mp hx;obtain⟨e,he⟩:∃ e,h.dp[i]?=some e:=⟨_,zW (by rw[be] at hi;omega)⟩;have ht:=hS _ _ (hh.up _ _ (hpT i p e hp he))
   have eg:h.dp.getD i d0=e:=by rw[zZ,he];rfl
   simp only[eg] at h1 h0;refine uK ht ?_;walk_at"";refine⟨rfl,aB (fun hle=>⟨by omega,fun p hp=>h1 (by simp[hle]) p _ ⟨_,_,_,_,rfl⟩ hp⟩) (fun hle=>h0 (by simp[hle]) _ ⟨_,_,_,_,rfl⟩)⟩
 . intro qs H' S' hHD hT;rw[be,hpl,fq h.dp d0 (fun e=>decide (e.1=d)) (fun e=>[V.str e.2.1,.str e.2.2.1])] at hT;refine q hd D qs H' S' hD hHD ?_;unfold bf;rw[AH];exact hT
theorem dA {cl:List (Str×Str)}{c:Str×Str}(hd:(cl.map (·.1)).Nodup)(h:c∈cl):cl.lookup c.1=some c.2:=by
 induction cl with
 | nil=>cases h
 | cons a r ih =>
   rw[An,BS] at hd;rw[Ax];by_cases e:c.1=a.1
   . rw[show(c.1==a.1)=true from beq_iff_eq.mpr e]
     rcases List.mem_cons.mp h with h | h
     . rw[h]
     . exact absurd (AA (f:=(·.1)) h) (by rw[e];exact hd.1)
   . rw[show(c.1==a.1)=false from beq_eq_false_iff_ne.mpr e]
     rcases List.mem_cons.mp h with h | h
     . exact absurd (by rw[h]) e
     . exact ih hd.2 h
def gX (CH CB cNC cND:Addr):Sp:=fun vs H Q E=>∃ (A:Ad)(W:Hp)(ss names:List Str) (h:Hs) (z:Str) (d:Int),vs=[.ref A.x,.str z,.int d]∧aJ H CH CB A W ss h∧bH ss names h∧Shw z∧(z∈h.cl.map (·.1)→(1≤d∧d≤400)→∀ H',af H H'→Q (.str (aV h z d)) H')∧(z∉h.cl.map (·.1)→E (.ref cNC) none H)∧(z∈h.cl.map (·.1)→¬(1≤d∧d≤400)→E (.ref cND) none H)
theorem pd:ax ["self", "cloth", "day", "trail"] ["self", "cloth", "day"] (ao mh):=sM
theorem tT {f fHT:Addr}{fd fdHT:FuncData}{CH CB cNC cND:Addr}(F:Fun K "shade" "House.shade" mh f fd)
   (T:Txt mg)(hX:Hx K mg CH)(cB:Cls K CB)
   (GHT:Cm P w K mg base (CX1 P w) 2 CH "trail" ["self", "cloth", "day"] (hV CH CB cNC cND) fHT fdHT) :
   aU P w K mg base (CX1 P w) 3 f fd ["self", "cloth", "day"] (gX CH CB cNC cND):=by
 refine oqX F pd fun cdv A outer s H vs Q E hr h=>?_;obtain⟨A0,W,ss,names,h,z,d,rfl,hh,ho,hz,q,qc,qd⟩:=h;have hu:=eM hr;have cH:=hX.c;have hr2:=hr.mono (j:=2) (by omega)
 refine⟨_,(aj (pS 3 pd.nd (pM (pv 0) cH GHT hr2 bE (aa (pv 1) (aa (pv 2) ae))))
   (aj (aC (aq bK (al au (by rfl) T.len Ac (aa (pv 3) ae)) ag (aw _)) (ah (ap (cx hu (bD (pv 0) rfl) (pv 1) (fun _ _=>rfl)))) am)
   (ah (ap (pI aI (pI ak (pv 3) (d9 cK ag)) ag))))),?_⟩
 try dsimp only[aF,aO]
 have hs:=aL;refine ar (fun σ' H'=>∃ l ps,(z∈h.cl.map (·.1))∧(1≤d∧d≤400)∧σ'=[some (.ref A0.x),some (.str z),some (.int d),some (.ref l)]∧af H H'∧H' l=some (.lst (ps.map V.ref))∧cn H' ps ((aX h.dp z d).map fun e=>[.int e.1,.str e.2.1,.str e.2.2])) (fun R hR=>?_) ?_
 . walk_at"";exact⟨A0.dx,_,hh.ins,eu (by decide) (by decide) (by decide) (by decide),A0,W,ss,names,h,z,d,rfl,hh,ho,hz,fun hm hd l ps H' S' hl hH hT=>hR _ _ ⟨l,ps,hm,hd,rfl,S',hH,hT⟩,qc,qd⟩
 rintro σ1 H1 ⟨l,ps,hm,hd,rfl,S1,hl1,hT⟩;have q:=q hm hd;refine ar (fun σ' H'=>aX h.dp z d≠[]∧σ'=[some (.ref A0.x),some (.str z),some (.int d),some (.ref l)]∧H'=H1) (fun R hR=>?_) ?_
 . obtain⟨c,hc,rfl⟩:=List.mem_map.mp hm;walk_at"";have hpl:=hT.1;rw[be] at hpl;refine⟨_,.inl (SqL.of hl1),rfl,?_⟩;rw[be,hpl];refine aB (fun h0=>?_) (fun h0=>hR _ _ ⟨fun e=>h0 (by rw[e];rfl),rfl,rfl⟩);have e0:aX h.dp c.1 d=[]:=List.length_eq_zero_iff.mp (by omega);refine⟨CH,A0.dx,_,S1 _ _ hh.ins,hX.c,hX.n1,_,dI,_,rfl,_,.inl ⟨_,Sum.inr c.1,.inl (S1 _ _ hh.cl),rfl,(eB ho.cnd hc).symm⟩,?_⟩
   have es:aV h c.1 d=c.2:=by
     unfold aV;rw[e0];show(h.cl.lookup c.1).getD _=_;rw[dA ho.cnd hc];rfl
   have:=q H1 S1;rw[es] at this;exact this
 rintro σ2 H2 ⟨hne,rfl,rfl⟩;have hpl:=hT.1;rw[be] at hpl;have hlast:(aX h.dp z d).getLast?=some ((aX h.dp z d).getLast hne):=AY hne;have hps:ps≠[]:=fun e=>hne (List.length_eq_zero_iff.mp (by rw[←hpl,e];rfl));walk_at""
 have ea:atI (ps.map V.ref) (-1)=some (V.ref (ps.getLast hps)):=by
   have e:ps.map V.ref=ps.dropLast.map V.ref++[V.ref (ps.getLast hps)]:=by
     rw[←BE,←z8,Ap hps]
   rw[e];exact eQ _ _
 have ht:=hT.2 (ps.length - 1) (ps.getLast hps) [.int ((aX h.dp z d).getLast hne).1,.str ((aX h.dp z d).getLast hne).2.1,.str ((aX h.dp z d).getLast hne).2.2] (by rw[BC];exact zW _) (by rw[zX,hpl,BC,zW (by have:=List.length_pos_iff.mpr hne;omega)];rfl);refine⟨_,SqL.of hl1,_,ea,_,rfl,_,SqT.of ht,V.str ((aX h.dp z d).getLast hne).2.2,rfl,?_⟩
 have es:aV h z d=((aX h.dp z d).getLast hne).2.2:=by
   unfold aV;rw[hlast]
 rw[←es];exact q H2 S1
theorem pF1 {v:V}:cM (zV "first_shades") v []=[(zV "first_shades",v)]:=rfl
theorem pF2 {v u:V}:cM (zV "day_now") u [(zV "first_shades",v)]=[(zV "first_shades",v),(zV "day_now",u)]:=by
 show(if zV "first_shades"=zV "day_now" then _ else _)=_;rw[if_neg (by decide)];rfl
theorem pF3 {v u t:V}:cM (zV "standing") t [(zV "first_shades",v),(zV "day_now",u)]=[(zV "first_shades",v),(zV "day_now",u),(zV "standing",t)]:=by
 unfold cM;rw[if_neg (by decide)];unfold cM;rw[if_neg (by decide)];rfl
theorem pF4 {v u t r:V}:cM (zV "books_from") r [(zV "first_shades",v),(zV "day_now",u),(zV "standing",t)]=[(zV "first_shades",v),(zV "day_now",u),(zV "standing",t),(zV "books_from",r)]:=by
 unfold cM;rw[if_neg (by decide)];unfold cM;rw[if_neg (by decide)];unfold cM;rw[if_neg (by decide)];rfl
theorem pFd {A:Ad}{d e:Int}:cM (zV "day_now") (.int e) (hfs A d)=hfs A e:=by
 unfold hfs cM;rw[if_neg (by decide)];unfold cM;rw[if_pos rfl]
def ra (CH CB:Addr):Sp:=fun vs H Q _=>∃ (x dx bk:Addr)(W:Hp)(ss:List Str)(bs:List (Str×List Str)),vs=[.ref x,.ref bk]∧H x=some (.ins CH dx [])∧af W (hide H x)∧bx W CB bk ss bs∧∀ (A:Ad) H',A.x=x→af (hide H x) (hid H' A)→aJ H' CH CB A W ss ⟨[],1,[],[(1,(ss,bs))]⟩→Q .non H'
theorem wq:ax ["self", "book"] ["self", "book"] (ao q8):=sM
theorem u9 {f:Addr}{fd:FuncData}{CH CB :Addr}(F:Fun K "__init__" "House.__init__" q8 f fd)
   (T:Txt mg)(hX:Hx K mg CH)(cB:Cls K CB)  :
   aU P w K mg base CX0 1 f fd ["self", "book"] (ra CH CB):=by
 refine oq F wq fun cdv A outer s H vs Q E hr h=>?_;obtain⟨x,dx,bk,W,ss,bs,rfl,hx,hW,hbk,q⟩:=h;obtain⟨_,hfd⟩:=hX.fd
 refine⟨_,(aj (eJ (pv 0) ee rfl)
   (aj (eJ (pv 0) (bi (v:=.int 1) rfl hfd ⟨_,rfl⟩) rfl)
   (aj (eJ (pv 0) (ba ae) rfl)
   (ah (eJ (pv 0) (wH (wn (bi (v:=.int 1) rfl hfd ⟨_,rfl⟩) (pv 1) xj) rfl rfl (by simp) (by decide)) rfl))))),?_⟩
 try dsimp only[aF,aO]
 have hs:=aL
 have hx0:hide H x x=none:=by unfold hide;rw[if_pos rfl]
 refine ar (fun σ' H'=>∃ d1,σ'=[some (.ref x),some (.ref bk)]∧H d1=none∧H'=upd (upd H d1 (.dK [])) x (.ins CH dx [("first_shades",.ref d1)])) (fun R hR=>?_) ?_
 . walk_at"";intro d hd
   have hxd:x≠d:=fun e=>by rw[←e,hx] at hd;cases hd
   exact⟨CH,dx,_,by rw[ai hxd];exact hx,hX.c,hX.n1,by decide,hR _ _ ⟨d,rfl,hd,by rw[pF1]⟩⟩
 rintro σ1 H1 ⟨d1,rfl,hd1,rfl⟩
 have hxd1:x≠d1:=fun e=>by rw[←e,hx] at hd1;cases hd1
 refine ar (fun σ' H'=>σ'=[some (.ref x),some (.ref bk)]∧H'=upd (upd H d1 (.dK [])) x (.ins CH dx [("first_shades",.ref d1),("day_now",.int 1)])) (fun R hR=>?_) ?_
 . walk_at"";exact⟨CH,dx,_,ac,hX.c,hX.n2,by simp,hR _ _ ⟨rfl,by rw[pF2,ic]⟩⟩
 rintro σ2 H2 ⟨rfl,rfl⟩;refine ar (fun σ' H'=>∃ ls,σ'=[some (.ref x),some (.ref bk)]∧upd (upd H d1 (.dK [])) x (.ins CH dx [("first_shades",.ref d1),("day_now",.int 1)]) ls=none∧H'=upd (upd (upd (upd H d1 (.dK [])) x (.ins CH dx [("first_shades",.ref d1),("day_now",.int 1)])) ls (.lst [])) x (.ins CH dx [("first_shades",.ref d1),("day_now",.int 1),("standing",.ref ls)])) (fun R hR=>?_) ?_
 . walk_at"";refine⟨by omega,fun ls hls=>?_⟩
   have hxl:x≠ls:=fun e=>by rw[←e,ac] at hls;cases hls
   exact⟨CH,dx,_,by rw[ai hxl];exact ac,hX.c,hX.n3,by simp,hR _ _ ⟨ls,rfl,hls,by rw[pF3]⟩⟩
 rintro σ3 H3 ⟨ls,rfl,hls,rfl⟩
 have hxl:x≠ls:=fun e=>by rw[←e,ac] at hls;cases hls
 have hlsH:ls≠d1:=fun e=>by rw[e,ai (Ne.symm hxd1),ac] at hls;cases hls
 have hlsN:H ls=none:=by rw[ai (Ne.symm hxl),ai hlsH] at hls;exact hls
 walk_at"";intro p hp
 have hxp:x≠p:=fun e=>by rw[←e,ac] at hp;cases hp
 have hlp:ls≠p:=fun e=>by rw[←e,ai (Ne.symm hxl),ac] at hp;cases hp
 have hdp:d1≠p:=fun e=>by rw[←e,ai (Ne.symm hxd1),ai (Ne.symm hlsH),ai (Ne.symm hxd1),ac] at hp;cases hp
 have hpN:H p=none:=by rw[ai (Ne.symm hxp),ai (Ne.symm hlp),ai (Ne.symm hxp),ai (Ne.symm hdp)] at hp;exact hp
 refine⟨ac,[(Sum.inl 1,V.ref bk)],rfl,by simp,CH,dx,_,by rw[ai hxp,ai hxp,ac],hX.c,hX.n4,by simp,?_⟩;rw[pF4];have e1:cP [] [((Sum.inl 1:Key),V.ref bk)]=[(Sum.inl 1,V.ref bk)]:=rfl;rw[e1]
 have S:af (hide H x) (hid (upd (upd (upd (upd (upd (upd (upd H d1 (.dK [])) x (.ins CH dx [("first_shades",.ref d1),("day_now",.int 1)])) ls (.lst [])) x (.ins CH dx [("first_shades",.ref d1),("day_now",.int 1),("standing",.ref ls)])) p (.dK [])) p (.dK [(Sum.inl 1,V.ref bk)])) x (.ins CH dx [("first_shades",.ref d1),("day_now",.int 1),("standing",.ref ls),("books_from",.ref p)])) ⟨x,dx,d1,ls,p⟩):=fun b o e=>by
   have hbx:b≠x:=fun z=>by rw[z,hx0] at e;cases e
   rw[aW hbx] at e;have h1:b≠d1:=aG e hd1;have h2:b≠ls:=aG e hlsN;have h3:b≠p:=aG e hpN;unfold hid;rw[if_neg (fun z=>by rcases z with z | z | z | z;exact hbx z;exact h1 z;exact h2 z;exact h3 z)];rw[ai hbx,ai h3,ai h3,ai hbx,ai h2,ai hbx,ai h1];exact e
 refine q ⟨x,dx,d1,ls,p⟩ _ rfl S ⟨ac,?_,⟨[],?_,rfl,by intro i p e h;simp at h⟩,⟨[bk],?_,rfl,?_⟩,hdp,hW.trans S⟩
 . show upd _ x _ d1=_;rw[ai (Ne.symm hxd1),ai hdp,ai hdp,ai (Ne.symm hxd1),ai (Ne.symm hlsH),ai (Ne.symm hxd1),ac];rfl
 . show upd _ x _ ls=_;rw[ai (Ne.symm hxl),ai hlp,ai hlp,ai (Ne.symm hxl),ac];rfl
 . show upd _ x _ p=_;rw[ai (Ne.symm hxp),ac];rfl
 . intro i r e hr he
   rcases i with _ | i
   . cases hr;cases he;exact hbk
   . simp at hr
theorem pf:∀ {bk:List (Int×Bk)}{d:Int},bk≠[]→∃ e∈bk,aR bk d=e.2
 | [],_,h=>absurd rfl h
 | [e],d,_=>⟨e,Ag,rfl⟩
 | e::e2::r,d,_=>by
   unfold aR;by_cases h2:e2.1≤d
   . rw[if_pos h2];obtain⟨x,hx,hxe⟩:=pf (bk:=e2::r) (d:=d) (by simp);exact⟨x,Ai _ hx,hxe⟩
   . rw[if_neg h2];exact⟨e,Ag,rfl⟩
theorem bH.on {ss names:List Str}{h:Hs}(ho:bH ss names h) (d:Int):aP (aR h.bk d).1 (aR h.bk d).2∧(∀ n,n∈(aR h.bk d).2.map (·.1)↔n∈names)∧∀ z,z∈(aR h.bk d).1↔z∈ss:=by
 obtain⟨b,r,hb⟩:=ho.k1;obtain⟨e,he,hbk⟩:=pf (bk:=h.bk) (d:=d) (by rw[hb];simp);rw[hbk];exact ho.kb e he
theorem vf {cl:List (Str×Str)}{c z:Str}(h:c∉cl.map (·.1)):dj (clV cl) (Sum.inr c) (V.str z)=clV (cl++[(c,z)]):=by
 rw[cU _ (bM h)];unfold clV;rw[z8];rfl
theorem rn {cl:List (Str×Str)}:(clV cl).length=cl.length:=be ..
theorem gi {H:Hp}{A:Ad}{b:Addr}{o:HO}(h:b=A.x∨b=A.d1∨b=A.ls∨b=A.db):hid (upd H b o) A=hid H A:=by
 funext y;unfold hid;by_cases hy:y=A.x∨y=A.d1∨y=A.ls∨y=A.db
 . rw[if_pos hy,if_pos hy]
 . rw[if_neg hy,if_neg hy];exact ai fun e=>hy (by rw[e];exact h)
theorem aJ.xd {H:Hp}{C CB:Addr}{A:Ad}{W:Hp}{ss:List Str}{h:Hs}(hh:aJ H C CB A W ss h):A.x≠A.d1∧A.x≠A.ls∧A.x≠A.db∧A.d1≠A.ls∧A.ls≠A.db:=by
 obtain⟨h1,h2,⟨ps,h3,_⟩,⟨rs,h6,_⟩,_,_⟩:=hh;refine⟨fun e=>?_,fun e=>?_,fun e=>?_,fun e=>?_,fun e=>?_⟩
 . rw[e,h2] at h1;cases h1
 . rw[e,h3] at h1;cases h1
 . rw[e,h6] at h1;cases h1
 . rw[e,h3] at h2;cases h2
 . rw[e,h6] at h3;cases h3
def jF (CH CB cBN cKn cNS cFu:Addr):Sp:=fun vs H Q E=>∃ (A:Ad)(W:Hp)(ss names:List Str) (h:Hs) (c z:Str),vs=[.ref A.x,.str c,.str z]∧aJ H CH CB A W ss h∧bH ss names h∧h.cl.length≤1000∧Shw c∧Shw z∧(bc c=false→∀ H',af H H'→E (.ref cBN) none H')∧(bc c=true→c∈h.cl.map (·.1)→∀ H',af H H'→E (.ref cKn) none H')∧(bc c=true→c∉h.cl.map (·.1)→z∉ss→∀ H',af H H'→E (.ref cNS) none H')∧(bc c=true→c∉h.cl.map (·.1)→z∈ss→50≤h.cl.length→∀ H',af H H'→E (.ref cFu) none H')∧(bc c=true→c∉h.cl.map (·.1)→z∈ss→h.cl.length < 50→∀ H',af (hid H A) (hid H' A)→aJ H' CH CB A W ss { h with cl:=h.cl++[(c,z)] }→Q .non H')
theorem uN:ax ["self", "cloth", "shade"] ["self", "cloth", "shade"] (ao mv):=sM
theorem tQ {f fGd fHN fMH:Addr}{fd fdGd fdHN fdMH:FuncData}{CH CB cBN cFu cKn cNS:Addr}(F:Fun K "bring" "House.bring" mv f fd)
   (T:Txt mg)(hX:Hx K mg CH)(cB:Cls K CB)(XBN:ExcC K cBN)(mBN:mg "BadName"=some (.ref cBN))(XKn:ExcC K cKn)(mKn:mg "Known"=some (.ref cKn))(XFu:ExcC K cFu)(mFu:mg "Full"=some (.ref cFu))
   (GGd:Cl P w K mg base CX0 1 "good_name" ["text"] l4 fGd fdGd)
   (GHN:Cm P w K mg base (CX1 P w) 3 CH "newest_book" ["self"] (mL CH CB) fHN fdHN)
   (GMH:Cm P w K mg base (CX1 P w) 1 CB "check_shade" ["self", "shade"] (kn CB cNS) fMH fdMH) :
   aU P w K mg base (CX1 P w) 5 f fd ["self", "cloth", "shade"] (jF CH CB cBN cKn cNS cFu):=by
 refine oqX F uN fun cdv A outer s H vs Q E hr h=>?_;obtain⟨A0,W,ss,names,h,c,z,rfl,hh,ho,hcl,hc,hz,qb,qk,qs,qf,q⟩:=h;have hu:=eM hr;obtain⟨_,hmc⟩:=hX.mc;have cH:=hX.c;have hr1:=hr.mono (j:=1) (by omega);have hr3:=hr.mono (j:=3) (by omega)
 refine⟨_,(aj (aC (cf (bL (pC GGd hr1 az (aa (pv 1) ae)))) (ah (bC rfl rfl mBN XBN.exc Aj (aa (fj (pv 1)) ae) dh)) am)
   (aj (aC (fu (uw hu (pv 1) (bD (pv 0) rfl))) (ah (bC rfl rfl mKn XKn.exc Aj (aa (fj (pv 1)) ae) dh)) am)
   (aj (aM (ib (pM0 (pv 0) cH GHN hr3 bE) cB GMH.h GMH.g hr1 GMH.b .nil bE (aa (pv 2) ae)))
   (aj (aC (aq xC (al tL (by rfl) T.len Ac (aa (bD (pv 0) rfl) ae)) (bi (v:=.int 50) rfl hmc ⟨_,rfl⟩) (aw _)) (ah (bC rfl rfl mFu XFu.exc Aj (aa ay ae) dh)) am)
   (ah (dF hu (bD (pv 0) rfl) (pv 1) (pv 2) rfl)))))),?_⟩
 try dsimp only[aF,aO]
 have hs:=aL;refine ar (fun σ' H'=>bc c=true∧σ'=[some (.ref A0.x),some (.str c),some (.str z)]∧af H H') (fun R hR=>?_) ?_
 . walk_at"";refine⟨c,rfl,hc.1,fun H2 S2=>?_⟩;by_cases hg:bc c=true
   . rw[hg];exact⟨_,rfl,aB (fun h=>by cases h) (fun _=>hR _ _ ⟨hg,rfl,S2⟩)⟩
   . have hg':bc c=false:=by simpa using hg
     rw[hg'];exact⟨_,rfl,aB (fun _=>⟨hc.1,hc.2,fun y=>⟨by decide,qb hg' _ S2⟩⟩) (fun h=>absurd rfl h)⟩
 rintro σ1 H1 ⟨hg,rfl,S1⟩;have hh1:=af.house S1 hh;refine ar (fun σ' H'=>c∉h.cl.map (·.1)∧σ'=[some (.ref A0.x),some (.str c),some (.str z)]∧H'=H1) (fun R hR=>?_) ?_
 . by_cases hm:c∈h.cl.map (·.1)
   . obtain⟨c0,hc0,rfl⟩:=List.mem_map.mp hm;walk_at"";exact⟨CH,A0.dx,_,hh1.ins,hX.c,hX.n1,_,dI,A0.d1,rfl,_,.inl ⟨_,Sum.inr c0.1,.inl hh1.cl,rfl,(eB ho.cnd hc0).symm⟩,hc.1,hc.2,fun y=>⟨by decide,qk hg hm _ S1⟩⟩
   . walk_at"";exact⟨CH,A0.dx,_,hh1.ins,hX.c,hX.n1,_,dI,A0.d1,rfl,none,.inl ⟨_,Sum.inr c,.inl hh1.cl,rfl,(bM hm).symm⟩,hR _ _ ⟨hm,rfl,rfl⟩⟩
 rintro σ2 H2 ⟨hm,rfl,rfl⟩;refine ar (fun σ' H'=>z∈ss∧σ'=[some (.ref A0.x),some (.str c),some (.str z)]∧af H H') (fun R hR=>?_) ?_
 . walk_at"";refine⟨A0.dx,_,hh1.ins,eu (by decide) (by decide) (by decide) (by decide),A0,W,ss,names,h,rfl,hh1,ho,fun r H3 S3 hbk=>?_⟩;have hbk2:=af.book (af.house S3 hh1).up hbk;have hbk3:=hbk2;obtain⟨dxb,tb,db,so,b1,b2,b3,b4,b5⟩:=hbk2;exact⟨r,rfl,dxb,_,b1,bQ (by decide) (by decide),r,_,_,z,rfl,hbk3,hz,fun hzs=>hR _ _ ⟨((ho.on 400).2.2 z).mp hzs,rfl,S1.trans S3⟩,fun hzs=>qs hg hm (fun y=>hzs (((ho.on 400).2.2 z).mpr y)) _ (S1.trans S3)⟩
 rintro σ3 H3 ⟨hzs,rfl,S3⟩;have hh3:=af.house S3 hh;refine ar (fun σ' H'=>h.cl.length < 50∧σ'=[some (.ref A0.x),some (.str c),some (.str z)]∧H'=H3) (fun R hR=>?_) ?_
 . walk_at"";refine⟨CH,A0.dx,_,hh3.ins,hX.c,hX.n1,_,dI,A0.d1,rfl,_,hh3.cl,?_⟩;rw[rn];exact aB (fun h5=>⟨by decide,qf hg hm hzs (by omega) _ S3⟩) (fun h5=>hR _ _ ⟨by omega,rfl,rfl⟩)
 rintro σ4 H4 ⟨h50,rfl,rfl⟩;obtain⟨n1,n2,n3,n4,n5⟩:=hh3.xd;walk_at"";refine⟨CH,A0.dx,_,hh3.ins,hX.c,hX.n1,_,dI,A0.d1,rfl,_,.inl ⟨_,Sum.inr c,hh3.cl,rfl,by rw[rn];omega,rfl⟩,?_⟩;rw[vf hm];have eh:hid (upd H4 A0.d1 (.dK (clV (h.cl++[(c,z)])))) A0=hid H4 A0:=gi (.inr (.inl rfl));refine q hg hm hzs h50 _ (by rw[eh];exact ck S3) ?_;obtain⟨h1,h2,⟨ps,h3,h4,h5⟩,⟨rs,h6,h7,h8⟩,h9,h10⟩:=hh3;exact⟨by rw[ai n1];exact h1,ac,⟨ps,by rw[ai (Ne.symm n4)];exact h3,h4,h5⟩,⟨rs,by rw[ai (Ne.symm h9)];exact h6,h7,h8⟩,h9,by rw[eh];exact h10⟩
theorem gG {ss names:List Str}{h:Hs}(ho:bH ss names h){c:Str}(hc:c∈h.cl.map (·.1)) (d:Int):aV h c d∈ss:=by
 unfold aV
 split
 . rename_i e he;have hm:=List.mem_of_getLast? he;unfold aX at hm;obtain⟨x,hx,rfl⟩:=List.mem_map.mp hm;exact ho.ds x (List.mem_filter.mp hx).1
 . obtain⟨c0,hc0,rfl⟩:=List.mem_map.mp hc;rw[dA ho.cnd hc0];exact ho.csh c0 hc0
def vE (CH CB cNC cNB cND cLa cFu:Addr):Sp:=fun vs H Q E=>∃ (A:Ad)(W:Hp)(ss names:List Str) (h:Hs) (c b:Str) (d:Int),vs=[.ref A.x,.str c,.str b,.int d]∧aJ H CH CB A W ss h∧bH ss names h∧Shw c∧Shw b∧(c∉h.cl.map (·.1)→∀ H',af H H'→E (.ref cNC) none H')∧(c∈h.cl.map (·.1)→b∉names→∀ H',af H H'→E (.ref cNB) none H')∧(c∈h.cl.map (·.1)→b∈names→¬(1≤d∧d≤400)→∀ H',af H H'→E (.ref cND) none H')∧(c∈h.cl.map (·.1)→b∈names→(1≤d∧d≤400)→d < h.day→∀ H',af H H'→E (.ref cLa) none H')∧(c∈h.cl.map (·.1)→b∈names→(1≤d∧d≤400)→h.day≤d→1000≤h.dp.length→∀ H',af H H'→E (.ref cFu) none H')∧(c∈h.cl.map (·.1)→b∈names→(1≤d∧d≤400)→h.day≤d→h.dp.length < 1000→∀ H' W',af (hid H A) (hid H' A)→d7 H W W'→aJ H' CH CB A W' ss { h with day:=d,dp:=h.dp++[(d,c,b,lkB (aR h.bk d).1 (aR h.bk d).2 b (aV h c d))] }→Q (.str (lkB (aR h.bk d).1 (aR h.bk d).2 b (aV h c d))) H')
theorem uH:ax ["self", "cloth", "bath", "day", "out"] ["self", "cloth", "bath", "day"] (ao uC):=sM
theorem wU {f fHC fHN fMC fHD fHB fHS fMO:Addr}{fd fdHC fdHN fdMC fdHD fdHB fdHS fdMO:FuncData}{CH CB cFu cLa cNB cNC cND:Addr}(F:Fun K "dip" "House.dip" uC f fd)
   (T:Txt mg)(hX:Hx K mg CH)(cB:Cls K CB)(XFu:ExcC K cFu)(mFu:mg "Full"=some (.ref cFu))
   (GHC:Cm P w K mg base (CX1 P w) 1 CH "check_cloth" ["self", "cloth"] (ub CH CB cNC) fHC fdHC)
   (GHN:Cm P w K mg base (CX1 P w) 3 CH "newest_book" ["self"] (mL CH CB) fHN fdHN)
   (GMC:Cm P w K mg base (CX1 P w) 1 CB "check_bath" ["self", "bath"] (iC CB cNB) fMC fdMC)
   (GHD:Cm P w K mg base (CX1 P w) 2 CH "check_day_to_do" ["self", "day"] (rL CH CB cND cLa) fHD fdHD)
   (GHB:Cm P w K mg base (CX1 P w) 2 CH "book" ["self", "day"] (gR CH CB cND) fHB fdHB)
   (GHS:Cm P w K mg base (CX1 P w) 3 CH "shade" ["self", "cloth", "day"] (gX CH CB cNC cND) fHS fdHS)
   (GMO:Cm P w K mg base CX0 2 CB "out" ["self", "bath", "shade"] (qv CB) fMO fdMO) :
   aU P w K mg base (CX1 P w) 5 f fd ["self", "cloth", "bath", "day"] (vE CH CB cNC cNB cND cLa cFu):=by
 refine oqX F uH fun cdv A outer s H vs Q E hr h=>?_;obtain⟨A0,W,ss,names,h,c,b,d,rfl,hh,ho,hc,hb,qc,qb,qd,ql,qf,q⟩:=h;obtain⟨_,hmd⟩:=hX.md;have cH:=hX.c;have hr1:=hr.mono (j:=1) (by omega);have hr2:=hr.mono (j:=2) (by omega);have hr3:=hr.mono (j:=3) (by omega)
 refine⟨_,(aj (aM (pM (pv 0) cH GHC hr1 bE (aa (pv 1) ae)))
   (aj (aM (ib (pM0 (pv 0) cH GHN hr3 bE) cB GMC.h GMC.g hr1 GMC.b .nil bE (aa (pv 2) ae)))
   (aj (aM (pM (pv 0) cH GHD hr2 bE (aa (pv 3) ae)))
   (aj (aC (aq xC (al au (by rfl) T.len Ac (aa (bD (pv 0) rfl) ae)) (bi (v:=.int 1000) rfl hmd ⟨_,rfl⟩) (aw _)) (ah (bC rfl rfl mFu XFu.exc Aj (aa ay ae) dh)) am)
   (aj (pS 4 uH.nd (ib (pM (pv 0) cH GHB hr2 bE (aa (pv 3) ae)) cB GMO.h GMO.g hr2 GMO.b .nil az (aa (pv 2) (aa (pM (pv 0) cH GHS hr3 bE (aa (pv 1) (aa (pv 3) ae))) ae))))
   (aj (aM (eI Aw AE AF bN (bD (pv 0) rfl) (aa (bj (aa (pv 3) (aa (pv 1) (aa (pv 2) (aa (pv 4) ae))))) ae)))
   (aj (eJ (pv 0) (pv 3) rfl)
   (ah (ap (pv 4)))))))))),?_⟩
 try dsimp only[aF,aO]
 have hs:=aL;have lo:∀ {m:Str}{dd:Int},(m==zV "first_shades")=false→(m==zV "day_now")=false→(m==zV "standing")=false→(m==zV "books_from")=false→Au m (hfs A0 dd)=none:=fun h1 h2 h3 h4=>eu h1 h2 h3 h4;refine ar (fun σ' H'=>c∈h.cl.map (·.1)∧σ'=[some (.ref A0.x),some (.str c),some (.str b),some (.int d),none]∧H'=H) (fun R hR=>?_) ?_
 . walk_at"";exact⟨A0.dx,_,hh.ins,lo (by decide) (by decide) (by decide) (by decide),A0,W,ss,h,c,rfl,hh,hc,ho.cnd,fun hm=>hR _ _ ⟨hm,rfl,rfl⟩,fun hm=>qc hm _ (af.refl H)⟩
 rintro σ1 H1 ⟨hm,rfl,rfl⟩;refine ar (fun σ' H'=>b∈names∧σ'=[some (.ref A0.x),some (.str c),some (.str b),some (.int d),none]∧af H1 H') (fun R hR=>?_) ?_
 . walk_at"";refine⟨A0.dx,_,hh.ins,lo (by decide) (by decide) (by decide) (by decide),A0,W,ss,names,h,rfl,hh,ho,fun r H3 S3 hbk=>?_⟩;have hbk2:=af.book (af.house S3 hh).up hbk;have hbk3:=hbk2;obtain⟨dxb,tb,db,so,b1,b2,b3,b4,b5⟩:=hbk2;obtain⟨B,hN,_⟩:=ho.on 400;exact⟨r,rfl,dxb,_,b1,bQ (by decide) (by decide),r,_,_,b,rfl,hbk3,B,hb,fun hzs=>hR _ _ ⟨(hN b).mp hzs,rfl,S3⟩,fun hzs=>qb hm (fun z=>hzs ((hN b).mpr z)) _ S3⟩
 rintro σ2 H2 ⟨hbn,rfl,S2⟩;have hh2:=af.house S2 hh;refine ar (fun σ' H'=>(1≤d∧d≤400)∧h.day≤d∧σ'=[some (.ref A0.x),some (.str c),some (.str b),some (.int d),none]∧H'=H2) (fun R hR=>?_) ?_
 . walk_at"";exact⟨A0.dx,_,hh2.ins,lo (by decide) (by decide) (by decide) (by decide),A0,W,ss,h,d,rfl,hh2,fun hd hl=>hR _ _ ⟨hd,hl,rfl,rfl⟩,fun hd=>qd hm hbn hd _ S2,fun hd hl=>ql hm hbn hd hl _ S2⟩
 rintro σ3 H3 ⟨hd,hl,rfl,rfl⟩;obtain⟨ps,hls,hpl,hpT⟩:=hh2.dp;refine ar (fun σ' H'=>h.dp.length < 1000∧σ'=[some (.ref A0.x),some (.str c),some (.str b),some (.int d),none]∧H'=H3) (fun R hR=>?_) ?_
 . walk_at"";refine⟨CH,A0.dx,_,hh2.ins,hX.c,hX.n3,_,gc,A0.ls,rfl,_,.inl (SqL.of hls),?_⟩;rw[be,hpl];exact aB (fun h5=>⟨by decide,qf hm hbn hd hl (by omega) _ S2⟩) (fun h5=>hR _ _ ⟨by omega,rfl,rfl⟩)
 rintro σ4 H4 ⟨h1000,rfl,rfl⟩;obtain⟨B,hN,hZ⟩:=ho.on d;refine ar (fun σ' H'=>σ'=[some (.ref A0.x),some (.str c),some (.str b),some (.int d),some (.str (lkB (aR h.bk d).1 (aR h.bk d).2 b (aV h c d)))]∧af H4 H') (fun R hR=>?_) ?_
 . walk_at"";refine⟨A0.dx,_,hh2.ins,lo (by decide) (by decide) (by decide) (by decide),A0,W,ss,names,h,d,rfl,hh2,ho,fun _ r H5 S5 hbk=>?_,fun hn=>absurd hd hn⟩;have hbk2:=af.book (af.house S5 hh2).up hbk;have hbk3:=hbk2;obtain⟨dxb,tb,db,so,b1,b2,b3,b4,b5⟩:=hbk2;refine⟨r,rfl,dxb,_,b1,bQ (by decide) (by decide),A0.dx,_,S5 _ _ hh2.ins,lo (by decide) (by decide) (by decide) (by decide),A0,W,ss,names,h,c,d,rfl,af.house S5 hh2,ho,hc,fun _ _ H6 S6=>?_,fun hn=>absurd hm hn,fun _ hn=>absurd hd hn⟩;obtain⟨bb,hbb,rfl⟩:=List.mem_map.mp ((hN b).mpr hbn);refine⟨r,_,_,bb,_,rfl,af.book S6 hbk3,B,hbb,(hZ _).mpr (gG ho hm d),?_⟩;rw[←fk _ B.bnd hbb];exact hR _ _ ⟨rfl,S5.trans S6⟩
 rintro σ5 H5 ⟨rfl,S5⟩;generalize hout:lkB (aR h.bk d).1 (aR h.bk d).2 b (aV h c d)=out at q;have hh5:=af.house S5 hh2;obtain⟨n1,n2,n3,n4,n5⟩:=hh5.xd;have hls5:=S5 _ _ hls;refine ar (fun σ' H'=>∃ t,σ'=[some (.ref A0.x),some (.str c),some (.str b),some (.int d),some (.str out)]∧H5 t=none∧H'=upd (upd H5 t (.tup [.int d,.str c,.str b,.str out])) A0.ls (.lst (ps.map V.ref++[V.ref t]))) (fun R hR=>?_) ?_
 . walk_at"";refine⟨CH,A0.dx,_,hh5.ins,hX.c,hX.n3,_,gc,?_⟩;refine⟨.inl ⟨rfl,_,SqL.of hls5⟩,by omega,fun t ht=>⟨A0.ls,rfl,_,?_,by rw[be];omega,hR _ _ ⟨t,rfl,ht,rfl⟩⟩⟩;rw[ai (aG hls5 ht)];exact hls5
 rintro σ6 H6 ⟨t,rfl,ht,rfl⟩;have htx:A0.x≠t:=aG hh5.ins ht;have htl:A0.ls≠t:=aG hls5 ht;refine ar (fun σ' H'=>σ'=[some (.ref A0.x),some (.str c),some (.str b),some (.int d),some (.str out)]∧H'=upd (upd (upd H5 t (.tup [.int d,.str c,.str b,.str out])) A0.ls (.lst (ps.map V.ref++[V.ref t]))) A0.x (.ins CH A0.dx (hfs A0 d))) (fun R hR=>?_) ?_
 . walk_at"";refine⟨CH,A0.dx,_,by rw[ai n2,ai htx];exact hh5.ins,hX.c,hX.n2,by show 4 < 1000;decide,hR _ _ ⟨rfl,?_⟩⟩;rw[pFd]
 rintro σ7 H7 ⟨rfl,rfl⟩;walk_at""
 have e1:hid (upd (upd (upd H5 t (.tup [.int d,.str c,.str b,.str out])) A0.ls (.lst (ps.map V.ref++[V.ref t]))) A0.x (.ins CH A0.dx (hfs A0 d))) A0=hid (upd H5 t (.tup [.int d,.str c,.str b,.str out])) A0:=by
   rw[gi (.inl rfl),gi (.inr (.inr (.inl rfl)))]
 have St:af H5 (upd H5 t (.tup [.int d,.str c,.str b,.str out])):=af.updN ht;obtain⟨h1,h2,⟨ps',h3,h4,h5⟩,⟨rs,h6,h7,h8⟩,h9,h10⟩:=hh5
 have hWt:W t=none:=by
   have hx:hid H5 A0 t=none:=by unfold hid;rw[ht];split<;>rfl
   exact h10.free hx
 have htd:A0.d1≠t:=aG h2 ht;have htb:A0.db≠t:=aG h6 ht;have SW:af W (upd W t (.tup [.int d,.str c,.str b,.str out])):=af.updN hWt;refine q hm hbn hd hl h1000 _ (upd W t (.tup [.int d,.str c,.str b,.str out])) (by rw[e1];exact ck ((S2.trans S5).trans St)) ⟨SW,fun y o hy hHy=>?_⟩ ?_
 . have hyt:y≠t:=fun z=>by rw[z] at hHy;have:=(S2.trans S5) _ _ hHy;rw[ht] at this;cases this
   rw[ai hyt];exact hy
 have eps:ps'=ps:=by
   rw[hls5] at h3
   have h3':ps.map V.ref=ps'.map V.ref:=by simpa using h3
   exact(List.map_inj_right (fun a b e=>by simpa using e)).mp h3'.symm
 subst eps;refine⟨ac,by rw[ai (Ne.symm n1),ai n4,ai htd];exact h2,⟨ps'++[t],by rw[ai (Ne.symm n2),ac,z8];rfl,by rw[zY,zY,h4];rfl,?_⟩,⟨rs,by rw[ai (Ne.symm n3),ai (Ne.symm n5),ai htb];exact h6,h7,fun i r e hr he=>af.book SW (h8 i r e hr he)⟩,h9,?_⟩
 . intro i p e hp he;by_cases hi:i < ps'.length
   . rw[Af hi] at hp;rw[Af (by omega)] at he;exact SW _ _ (h5 i p e hp he)
   . have hj:i=ps'.length:=by
       have:=(List.getElem?_eq_some_iff.mp hp).1;rw[zY,Aa] at this;omega
     subst hj;rw[z9 (z7 _),AL] at hp;rw[z9 (by omega),h4,AL] at he;cases hp;cases he;exact ac
 . rw[e1,lY (Ne.symm htx) (Ne.symm htd) (Ne.symm htl) (Ne.symm htb)];intro y o hy;by_cases hyt:y=t
   . rw[hyt,ac] at hy;rw[hyt,ac];exact hy
   . rw[ai hyt] at hy;rw[ai hyt];exact h10 _ _ hy
theorem iZ (dp:List (Int×Str×Str×Str)) (d:Int) (c b o z:Str) (e:Int):aX (dp++[(d,c,b,o)]) z e=aX dp z e++(if c=z∧d≤e then[(d,b,o)] else[]):=by
 unfold aX;rw[A7,z8]
 congr 1
 by_cases h:c=z∧d≤e
 . rw[if_pos h];simp[h.1,h.2]
 . rw[if_neg h]
   have:(decide (c=z)&&decide (d≤e))=false:=by
     rw[Bool.and_eq_false_iff];by_cases hc:c=z
     . exact .inr (decide_eq_false fun z=>h ⟨hc,z⟩)
     . exact .inl (decide_eq_false hc)
   simp[this]
theorem i6 (h:Hs) (d:Int) (c b o z:Str) (e dy:Int):aV { h with day:=dy,dp:=h.dp++[(d,c,b,o)] } z e=if c=z∧d≤e then o else aV h z e:=by
 unfold aV;show(match (aX (h.dp++[(d,c,b,o)]) z e).getLast? with | some e=>e.2.2 | none=>_)=_;rw[iZ];by_cases hc:c=z∧d≤e
 . rw[if_pos hc,if_pos hc,List.getLast?_append];rfl
 . rw[if_neg hc,if_neg hc,A2]
   all_goals rfl
theorem bH.dip {ss names:List Str}{h:Hs}{d:Int}{c b o:Str}(ho:bH ss names h)(hd:1≤d∧d≤400)(hl:h.day≤d)(hn:h.dp.length < 1000)(hos:o∈ss):bH ss names { h with day:=d,dp:=h.dp++[(d,c,b,o)] } :=
 ⟨ho.cnd,ho.csh,ho.cnm,hd.1,hd.2,by show(h.dp++_).length≤1000;rw[zY,Aa];omega,fun e he=>by
     rcases List.mem_append.mp he with he | he
     . have:=ho.dd e he;exact⟨this.1,by show e.1≤d;omega⟩
     . rw[List.mem_singleton.mp he];exact⟨hd.1,BK _⟩,fun e he=>by
     rcases List.mem_append.mp he with he | he
     . exact ho.ds e he
     . rw[List.mem_singleton.mp he];exact hos,ho.k1,ho.ks,fun e he=>by have:=ho.kd e he;exact⟨this.1,by show e.1≤d;omega⟩,ho.kl,ho.kb⟩
theorem bH.bring {ss names:List Str}{h:Hs}{c z:Str}(ho:bH ss names h)(hc:c∉h.cl.map (·.1))(hz:z∈ss)(hg:bc c=true):bH ss names { h with cl:=h.cl++[(c,z)] } :=
 ⟨by show((h.cl++_).map _).Nodup;rw[z8];exact gY ho.cnd hc,fun e he=>by
     rcases List.mem_append.mp he with he | he
     . exact ho.csh e he
     . rw[List.mem_singleton.mp he];exact hz,fun e he=>by
     rcases List.mem_append.mp he with he | he
     . exact ho.cnm e he
     . rw[List.mem_singleton.mp he];exact hg,ho.d1,ho.d4,ho.dl,ho.dd,ho.ds,ho.k1,ho.ks,ho.kd,ho.kl,ho.kb⟩
theorem bH.new {ss:List Str}{bs:List (Str×List Str)}(B:aP ss bs):bH ss (bs.map (·.1)) ⟨[],1,[],[(1,(ss,bs))]⟩ :=
 ⟨CL,(fun e he=>by cases he),(fun e he=>by cases he),by show(1:Int)≤1;decide,by show(1:Int)≤400;decide,by show 0≤1000;decide,(fun e he=>by cases he),(fun e he=>by cases he),⟨(ss,bs),[],rfl⟩,BB _ _,fun e he=>by rw[List.mem_singleton.mp he];exact⟨by show(1:Int)≤1;decide,by show(1:Int)≤1;decide⟩,by show 1≤400;decide,fun e he=>by rw[List.mem_singleton.mp he];exact⟨B,fun n=>Iff.rfl,fun z=>Iff.rfl⟩⟩
def r9 (CH CB cND cLa cNo:Addr):Sp:=fun vs H Q E=>∃ (A:Ad)(W:Hp)(ss names:List Str) (h:Hs) (d:Int),vs=[.ref A.x,.int d]∧aJ H CH CB A W ss h∧bH ss names h∧(¬(1≤d∧d≤400)→∀ H',af H H'→E (.ref cND) none H')∧((1≤d∧d≤400)→d < h.day→∀ H',af H H'→E (.ref cLa) none H')∧((1≤d∧d≤400)→h.day≤d→bf h.dp d=[]→∀ H',af H H'→E (.ref cNo) none H')∧((1≤d∧d≤400)→h.day≤d→∀ e,(bf h.dp d).getLast?=some e→∀ t H',af (hid H A) (hid H' A)→H' t=some (.tup [.str e.1,.str e.2])→aJ H' CH CB A W ss { h with dp:=h.dp.dropLast }→Q (.ref t) H')
theorem rS:ax ["self", "day", "dips"] ["self", "day"] (ao pR):=sM
theorem ug {f fHD fHP:Addr}{fd fdHD fdHP:FuncData}{CH CB cLa cND cNo:Addr}(F:Fun K "back" "House.back" pR f fd)
   (T:Txt mg)(hX:Hx K mg CH)(cB:Cls K CB)(XNo:ExcC K cNo)(mNo:mg "NoDip"=some (.ref cNo))
   (GHD:Cm P w K mg base (CX1 P w) 2 CH "check_day_to_do" ["self", "day"] (rL CH CB cND cLa) fHD fdHD)
   (GHP:Cm P w K mg base (CX1 P w) 2 CH "dips" ["self", "day"] (gZ CH CB cND) fHP fdHP) :
   aU P w K mg base (CX1 P w) 4 f fd ["self", "day"] (r9 CH CB cND cLa cNo):=by
 refine oqX F rS fun cdv A outer s H vs Q E hr h=>?_;obtain⟨A0,W,ss,names,h,d,rfl,hh,ho,qd,ql,qn,q⟩:=h;have cH:=hX.c;have hr2:=hr.mono (j:=2) (by omega)
 refine⟨_,(aj (aM (pM (pv 0) cH GHD hr2 bE (aa (pv 1) ae)))
   (aj (pS 2 rS.nd (pM (pv 0) cH GHP hr2 bE (aa (pv 1) ae)))
   (aj (aC (aq bK (al au (by rfl) T.len Ac (aa (pv 2) ae)) ag (aw _)) (ah (bC rfl rfl mNo XNo.exc Aj (aa ay ae) dh)) am)
   (aj (aM (yh Aw PySem.F.slot_list_pop PySem.F.type_list_pop yL (bD (pv 0) rfl)))
   (ah (ap (pI ak (pv 2) (d9 cK ag)))))))),?_⟩
 try dsimp only[aF,aO]
 have hs:=aL;have lo:∀ {m:Str}{dd:Int},(m==zV "first_shades")=false→(m==zV "day_now")=false→(m==zV "standing")=false→(m==zV "books_from")=false→Au m (hfs A0 dd)=none:=fun h1 h2 h3 h4=>eu h1 h2 h3 h4;refine ar (fun σ' H'=>(1≤d∧d≤400)∧h.day≤d∧σ'=[some (.ref A0.x),some (.int d),none]∧H'=H) (fun R hR=>?_) ?_
 . walk_at"";exact⟨A0.dx,_,hh.ins,lo (by decide) (by decide) (by decide) (by decide),A0,W,ss,h,d,rfl,hh,fun hd hl=>hR _ _ ⟨hd,hl,rfl,rfl⟩,fun hd=>qd hd _ (af.refl H),fun hd hl=>ql hd hl _ (af.refl H)⟩
 rintro σ1 H1 ⟨hd,hl,rfl,rfl⟩;refine ar (fun σ' H'=>∃ l ps,σ'=[some (.ref A0.x),some (.int d),some (.ref l)]∧af H1 H'∧H1 l=none∧H' l=some (.lst (ps.map V.ref))∧cn H' ps ((bf h.dp d).map fun e=>[.str e.1,.str e.2])) (fun R hR=>?_) ?_
 . walk_at"";exact⟨A0.dx,_,hh.ins,lo (by decide) (by decide) (by decide) (by decide),A0,W,ss,names,h,d,rfl,hh,ho,fun _ l ps H' S' hl0 hH hT=>hR _ _ ⟨l,ps,rfl,S',hl0,hH,hT⟩,fun hn=>absurd hd hn⟩
 rintro σ2 H2 ⟨l,ps,rfl,S2,hl0,hl2,hT⟩;have hpl:=hT.1;rw[be] at hpl;refine ar (fun σ' H'=>bf h.dp d≠[]∧σ'=[some (.ref A0.x),some (.int d),some (.ref l)]∧H'=H2) (fun R hR=>?_) ?_
 . walk_at"";refine⟨_,.inl (SqL.of hl2),rfl,?_⟩;rw[be,hpl];exact aB (fun h0=>⟨by decide,qn hd hl (List.length_eq_zero_iff.mp (by omega)) _ S2⟩) (fun h0=>hR _ _ ⟨fun e=>h0 (by rw[e];rfl),rfl,rfl⟩)
 rintro σ3 H3 ⟨hne,rfl,rfl⟩;have hh2:=af.house S2 hh;obtain⟨pz,hls,hpz,hpT⟩:=hh2.dp;have hdp:h.dp≠[]:=fun e=>hne (by unfold bf;rw[e];rfl);have hpz0:pz≠[]:=fun e=>hdp (List.length_eq_zero_iff.mp (by rw[←hpz,e];rfl));have hps:ps≠[]:=fun e=>hne (List.length_eq_zero_iff.mp (by rw[←hpl,e];rfl))
 have hlx:A0.ls≠l:=by
   obtain⟨_,hls1,_⟩:=hh.dp;exact aG hls1 hl0
 refine ar (fun σ' H'=>σ'=[some (.ref A0.x),some (.int d),some (.ref l)]∧H'=upd H3 A0.ls (.lst (pz.dropLast.map V.ref))) (fun R hR=>?_) ?_
 . walk_at"";refine⟨CH,A0.dx,_,hh2.ins,hX.c,hX.n3,_,gc,.inl ⟨rfl,_,SqL.of hls⟩,A0.ls,pz.map V.ref,V.ref (pz.getLast hpz0),rfl,rfl,hls,?_,hR _ _ ⟨rfl,by rw[List.map_dropLast]⟩⟩;rw[zX,be,←List.getLast?_eq_getElem?,AY hpz0];rfl
 rintro σ4 H4 ⟨rfl,rfl⟩;walk_at""
 have ea:atI (ps.map V.ref) (-1)=some (V.ref (ps.getLast hps)):=by
   have e:ps.map V.ref=ps.dropLast.map V.ref++[V.ref (ps.getLast hps)]:=by
     rw[←BE,←z8,Ap hps]
   rw[e];exact eQ _ _
 have hlast:(bf h.dp d).getLast?=some ((bf h.dp d).getLast hne):=AY hne;have ht:=hT.2 (ps.length - 1) (ps.getLast hps) [.str ((bf h.dp d).getLast hne).1,.str ((bf h.dp d).getLast hne).2] (by rw[BC];exact zW _) (by rw[zX,hpl,BC,zW (by have:=List.length_pos_iff.mpr hne;omega)];rfl)
 have htl:ps.getLast hps≠A0.ls:=fun e=>by rw[e,hls] at ht;cases ht
 have e1:hid (upd H3 A0.ls (.lst (pz.dropLast.map V.ref))) A0=hid H3 A0:=gi (.inr (.inr (.inl rfl)));obtain⟨n1,n2,n3,n4,n5⟩:=hh2.xd;refine⟨_,SqL.of (by rw[ai (Ne.symm hlx)];exact hl2),_,ea,?_⟩;refine q hd hl _ hlast _ _ (by rw[e1];exact ck S2) (by rw[ai htl];exact ht) ?_;obtain⟨h1,h2,⟨ps',h3,h4,h5⟩,⟨rs,h6,h7,h8⟩,h9,h10⟩:=hh2;refine⟨by rw[ai n2];exact h1,by rw[ai n4];exact h2,⟨pz.dropLast,ac,by rw[AZ,AZ,hpz],fun i p e hp he=>?_⟩,⟨rs,by rw[ai (Ne.symm n5)];exact h6,h7,h8⟩,h9,by rw[e1];exact h10⟩
 have dl:∀ {α:Type}{xs:List α}{i:Nat}{y:α},xs.dropLast[i]?=some y→xs[i]?=some y:=fun {α xs i y} hy=>by
   rw[B6,Co] at hy
   split at hy
   . exact hy
   . cases hy
 exact hpT i p e (dl hp) (dl he)
def cg (bk:List (Int×Bk)) (d:Int)(B:Bk):List (Int×Bk):=if(bk.any fun e=>decide (e.1=d))=true then bk.map (fun e=>if e.1=d then(e.1,B) else e) else bk++[(d,B)]
theorem rA {d:Int}{y:Addr}{B:Bk}:∀ (bk:List (Int×Bk))(rs:List Addr),rs.length=bk.length→(bkV bk rs).map (fun kv=>if kv.1=Sum.inl d then(kv.1,V.ref y) else kv)=bkV (bk.map fun e=>if e.1=d then(e.1,B) else e) ((bk.zip rs).map fun e=>if e.1.1=d then y else e.2)
 | [],[],_=>rfl
 | [],_::_,h=>by simp at h
 | _::_,[],h=>by simp at h
 | b::bk,r::rs,h=>by
   have ih:=rA (d:=d) (y:=y) (B:=B) bk rs (by simpa using h);unfold bkV at ih ⊢;rw[Bg,An,An,An,An,Bg,An,ih];by_cases e:b.1=d
   . simp[e]
   . simp[e]
theorem rc {d:Int}:∀ (bk:List (Int×Bk))(rs:List Addr),rs.length=bk.length→((bkV bk rs).any fun kv=>decide (kv.1=Sum.inl d))=bk.any fun e=>decide (e.1=d)
 | [],[],_=>rfl
 | [],_::_,h=>by simp at h
 | _::_,[],h=>by simp at h
 | b::bk,r::rs,h=>by
   have ih:=rc (d:=d) bk rs (by simpa using h);unfold bkV at ih ⊢;rw[Bg,An,Bz,Bz,ih];simp
theorem vB {bk:List (Int×Bk)}{rs:List Addr}(h:rs.length=bk.length):(bkV bk rs).length=bk.length:=by
 unfold bkV;rw[be,BF,h,CU]
theorem wY {bk:List (Int×Bk)}{rs:List Addr}{d:Int}{y:Addr}(B:Bk)(h:rs.length=bk.length):∃ rs',dj (bkV bk rs) (Sum.inl d) (V.ref y)=bkV (cg bk d B) rs'∧rs'.length=(cg bk d B).length∧∀ (i:Nat) r e,rs'[i]?=some r→(cg bk d B)[i]?=some e→(r=y∧e.2=B)∨(rs[i]?=some r∧bk[i]?=some e):=by
 unfold dj cg;rw[rc bk rs h];by_cases c:(bk.any fun e=>decide (e.1=d))=true
 . rw[if_pos c,if_pos c];refine⟨_,rA bk rs h,by rw[be,be,BF,h,CU],fun i r e hr he=>?_⟩;rw[zX] at hr he;obtain⟨b,hb,rfl⟩:=Option.map_eq_some_iff.mp he;obtain⟨⟨b2,r2⟩,hz,rfl⟩:=Option.map_eq_some_iff.mp hr;rw[List.getElem?_zip_eq_some] at hz;obtain⟨h1,h2⟩:=hz;rw[hb] at h1
   have hbb:b=b2:=by simpa using h1
   subst hbb;by_cases e:b.1=d
   . refine .inl ⟨?_,?_⟩
     . show(if b.1=d then y else r2)=y;rw[if_pos e]
     . rw[if_pos e]
   . refine .inr ⟨?_,?_⟩
     . show rs[i]?=some (if b.1=d then y else r2);rw[if_neg e];exact h2
     . rw[if_neg e];exact hb
 . rw[if_neg c,if_neg c];refine⟨rs++[y],?_,by rw[zY,zY,h];rfl,fun i r e hr he=>?_⟩
   . unfold bkV;rw[List.zip_append h.symm,z8];rfl
   . by_cases hi:i < rs.length
     . rw[Af hi] at hr;rw[Af (by omega)] at he;exact .inr ⟨hr,he⟩
     . rw[z9 (by omega)] at hr;rw[z9 (by omega)] at he
       have hj:i - rs.length=0:=by
         have:=(List.getElem?_eq_some_iff.mp hr).1;simp only[Aa] at this;omega
       rw[hj] at hr;rw[show i - bk.length=0 by omega] at he;cases hr;cases he;exact .inl ⟨rfl,rfl⟩
def oa (W N:Hp):Hp:=fun a=>match W a with | some o=>some o | none=>N a
theorem px {W N:Hp}:af W (oa W N):=fun a o e=>by
 unfold oa;rw[e]
theorem xL {W N:Hp}(h:∀ a o,N a=some o→W a=none):af N (oa W N):=fun a o e=>by
 unfold oa;rw[h a o e];exact e
theorem xc {W N H:Hp}(h1:af W H)(h2:af N H):af (oa W N) H:=fun a o e=>by
 unfold oa at e
 cases hw:W a with
 | some u=>rw[hw] at e;cases e;exact h1 _ _ hw
 | none=>rw[hw] at e;exact h2 _ _ e
theorem kj {H H':Hp}{a:Addr}{o:HO}(e:cZ H H' a=some o):H a=none:=by
 cases hH:H a with
 | none=>rfl
 | some u=>unfold cZ at e;rw[hH] at e;cases e
def lT (K:PySem.W.Frag)(CH CB cNB cBB cND cLa:Addr):Sp:=fun vs H Q E=>∃ (A:Ad)(W:Hp)(ss names os:List Str) (h:Hs) (b:Str)(lu:Addr) (d:Int),vs=[.ref A.x,.str b,.ref lu,.int d]∧aJ H CH CB A W ss h∧bH ss names h∧Shw b∧H lu=some (.lst (os.map V.str))∧os.length≤100∧(∀ v∈os,Shw v)∧(b∉names→∀ H',af H H'→E (.ref cNB) none H')∧(b∈names→¬GO (aR h.bk 400).1 os→∀ H',af H H'→E (.ref cBB) none H')∧(b∈names→GO (aR h.bk 400).1 os→¬(1≤d∧d≤400)→∀ H',af H H'→E (.ref cND) none H')∧(b∈names→GO (aR h.bk 400).1 os→(1≤d∧d≤400)→(d < h.day∨bf h.dp d≠[])→∀ H',af H H'→E (.ref cLa) none H')∧(b∈names→GO (aR h.bk 400).1 os→(1≤d∧d≤400)→h.day≤d→bf h.dp d=[]→∀ so ns H' W',kS (aR h.bk 400).1 so ns (aR h.bk 400).2→aP so (ns.map (chB (aR h.bk 400).1 so (aR h.bk 400).2 b os))→af (hid H A) (hid H' A)→d7 H W W'→aJ H' CH CB A W' ss { h with day:=d,bk:=cg h.bk d (so,ns.map (chB (aR h.bk 400).1 so (aR h.bk 400).2 b os)) }→Q .non H')
theorem lM:ax ["self", "bath", "outs", "day", "newer"] ["self", "bath", "outs", "day"] (ao kH):=sM
theorem qG {f fHN fMX fHD fHP:Addr}{fd fdHN fdMX fdHD fdHP:FuncData}{CH CB cBB cLa cNB cND:Addr}(F:Fun K "change" "House.change" kH f fd)
   (T:Txt mg)(hX:Hx K mg CH)(cB:Cls K CB)(XLa:ExcC K cLa)(mLa:mg "Late"=some (.ref cLa))
   (GHN:Cm P w K mg base (CX1 P w) 3 CH "newest_book" ["self"] (mL CH CB) fHN fdHN)
   (GMX:Cm P w K mg base (CX1 P w) 6 CB "changed" ["self", "bath", "outs"] (j8 K CB cNB cBB) fMX fdMX)
   (GHD:Cm P w K mg base (CX1 P w) 2 CH "check_day_to_do" ["self", "day"] (rL CH CB cND cLa) fHD fdHD)
   (GHP:Cm P w K mg base (CX1 P w) 2 CH "dips" ["self", "day"] (gZ CH CB cND) fHP fdHP) :
   aU P w K mg base (CX1 P w) 7 f fd ["self", "bath", "outs", "day"] (lT K CH CB cNB cBB cND cLa):=by
 refine oqX F lM fun cdv A outer s H vs Q E hr h=>?_;obtain⟨A0,W,ss,names,os,h,b,lu,d,rfl,hh,ho,hb,hlu,hol,hsh,qb,qg,qd,ql,q⟩:=h;have hu:=eM hr;have cH:=hX.c;have hr2:=hr.mono (j:=2) (by omega);have hr3:=hr.mono (j:=3) (by omega);have hr6:=hr.mono (j:=6) (by omega)
 refine⟨_,(aj (pS 4 lM.nd (ib (pM0 (pv 0) cH GHN hr3 bE) cB GMX.h GMX.g hr6 GMX.b .nil bE (aa (pv 1) (aa (pv 2) ae))))
   (aj (aM (pM (pv 0) cH GHD hr2 bE (aa (pv 3) ae)))
   (aj (aC (aq fE (al au (by rfl) T.len Ac (aa (pM (pv 0) cH GHP hr2 bE (aa (pv 3) ae)) ae)) ag (aw _)) (ah (bC rfl rfl mLa XLa.exc Aj (aa ay ae) dh)) am)
   (aj (dF hu (bD (pv 0) rfl) (pv 3) (pv 4) rfl)
   (ah (eJ (pv 0) (pv 3) rfl)))))),?_⟩
 try dsimp only[aF,aO]
 have hs:=aL;have lo:∀ {m:Str}{dd:Int},(m==zV "first_shades")=false→(m==zV "day_now")=false→(m==zV "standing")=false→(m==zV "books_from")=false→Au m (hfs A0 dd)=none:=fun h1 h2 h3 h4=>eu h1 h2 h3 h4;obtain⟨B,hN,hZ⟩:=ho.on 400;generalize hbk0:aR h.bk 400=bz at *;refine ar (fun σ' H'=>∃ y so ns,b∈names∧GO bz.1 os∧σ'=[some (.ref A0.x),some (.str b),some (.ref lu),some (.int d),some (.ref y)]∧af H H'∧H y=none∧kS bz.1 so ns bz.2∧aP so (ns.map (chB bz.1 so bz.2 b os))∧bx (cZ H H') CB y so (ns.map (chB bz.1 so bz.2 b os))) (fun R hR=>?_) ?_
 . walk_at"";refine⟨A0.dx,_,hh.ins,lo (by decide) (by decide) (by decide) (by decide),A0,W,ss,names,h,rfl,hh,ho,fun r H3 S3 hbk=>?_⟩;rw[hbk0] at hbk;have hbk2:=af.book (af.house S3 hh).up hbk;have hbk3:=hbk2;obtain⟨dxb,tb,db,so,b1,b2,b3,b4,b5⟩:=hbk2;refine⟨r,rfl,dxb,_,b1,bQ (by decide) (by decide),r,lu,bz.1,os,bz.2,b,rfl,hbk3,B,hb,S3 _ _ hlu,hol,hsh,fun hn=>qb (fun z=>hn ((hN b).mpr z)) _ S3,fun hm hg H4 S4=>qg ((hN b).mp hm) hg _ (S3.trans S4),fun hm hg y so ns H4 hy S4 CI B2 hbk4=>hR _ _ ⟨y,so,ns,(hN b).mp hm,hg,rfl,S3.trans S4,S3.free hy,CI,B2,af.book (gC S3) hbk4⟩⟩
 rintro σ1 H1 ⟨y,so,ns,hm,hg,rfl,S1,hy,CI,B2,hbk⟩;have hh1:=af.house S1 hh;refine ar (fun σ' H'=>(1≤d∧d≤400)∧h.day≤d∧σ'=[some (.ref A0.x),some (.str b),some (.ref lu),some (.int d),some (.ref y)]∧H'=H1) (fun R hR=>?_) ?_
 . walk_at"";exact⟨A0.dx,_,hh1.ins,lo (by decide) (by decide) (by decide) (by decide),A0,W,ss,h,d,rfl,hh1,fun hd hl=>hR _ _ ⟨hd,hl,rfl,rfl⟩,fun hd=>qd hm hg hd _ S1,fun hd hl=>ql hm hg hd (.inl hl) _ S1⟩
 rintro σ2 H2 ⟨hd,hl,rfl,rfl⟩;refine ar (fun σ' H'=>bf h.dp d=[]∧σ'=[some (.ref A0.x),some (.str b),some (.ref lu),some (.int d),some (.ref y)]∧af H2 H') (fun R hR=>?_) ?_
 . walk_at"";refine⟨A0.dx,_,hh1.ins,lo (by decide) (by decide) (by decide) (by decide),A0,W,ss,names,h,d,rfl,hh1,ho,fun _ l ps H' S' hl0 hH hT=>?_,fun hn=>absurd hd hn⟩;have hpl:=hT.1;rw[be] at hpl;refine⟨l,rfl,_,.inl (SqL.of hH),?_⟩;rw[be,hpl];exact aB (fun h0=>⟨by decide,ql hm hg hd (.inr fun e=>by rw[e] at h0;exact absurd h0 (by decide)) _ (S1.trans S')⟩) (fun h0=>hR _ _ ⟨List.length_eq_zero_iff.mp (by omega),rfl,S'⟩)
 rintro σ3 H3 ⟨hno,rfl,S3⟩;have hh3:=af.house S3 hh1;obtain⟨n1,n2,n3,n4,n5⟩:=hh3.xd;obtain⟨h1,h2,⟨ps',h3,h4,h5⟩,⟨rs,h6,h7,h8⟩,h9,h10⟩:=hh3;obtain⟨rs',hput,hrl,hrs⟩:=wY (d:=d) (y:=y) (so,ns.map (chB bz.1 so bz.2 b os)) h7;have hkl:=ho.kl;refine ar (fun σ' H'=>σ'=[some (.ref A0.x),some (.str b),some (.ref lu),some (.int d),some (.ref y)]∧H'=upd H3 A0.db (.dK (bkV (cg h.bk d (so,ns.map (chB bz.1 so bz.2 b os))) rs'))) (fun R hR=>?_) ?_
 . walk_at"";refine⟨CH,A0.dx,_,h1,hX.c,hX.n4,_,jz,A0.db,rfl,_,.inl ⟨_,Sum.inl d,h6,rfl,by rw[vB h7];omega,rfl⟩,?_⟩;rw[hput];exact hR _ _ ⟨rfl,rfl⟩
 rintro σ4 H4 ⟨rfl,rfl⟩;walk_at"";refine⟨CH,A0.dx,_,by rw[ai n3];exact h1,hX.c,hX.n2,by show 4 < 1000;decide,?_⟩;rw[pFd];have hWN:∀ a o,cZ H H2 a=some o→W a=none:=fun a o e=>hh.up.free (kj e)
 have SN:af (cZ H H2) (hid H3 A0):=fun a o e=>by
   have e0:=kj e;obtain⟨_,z3,_,_⟩:=hh.dp;obtain⟨_,z4,_,_⟩:=hh.bk;unfold hid
   rw[if_neg (fun z=>by
     rcases z with z | z | z | z
     . rw[z,hh.ins] at e0;cases e0
     . rw[z,hh.cl] at e0;cases e0
     . rw[z,z3] at e0;cases e0
     . rw[z,z4] at e0;cases e0)]
   exact S3 _ _ (lV _ _ e)
 have e1:∀ u v,hid (upd (upd H3 A0.db u) A0.x v) A0=hid H3 A0:=fun u v=>by
   rw[gi (.inl rfl),gi (.inr (.inr (.inr rfl)))]
 refine q hm hg hd hl hno so ns _ (oa W (cZ H H2)) CI B2 (by rw[e1];exact ck (S1.trans S3)) ⟨px,fun a o hw hH=>?_⟩ ⟨ac,by rw[ai (Ne.symm n1),ai h9];exact h2,⟨ps',by rw[ai (Ne.symm n2),ai n5];exact h3,h4,fun i p e hp he=>px _ _ (h5 i p e hp he)⟩,⟨rs',by rw[ai (Ne.symm n3),ac],hrl,fun i r e hr he=>?_⟩,h9,by rw[e1];exact xc h10 SN⟩
 . unfold oa cZ;rw[hw,hH]
 . rcases hrs i r e hr he with ⟨rfl,he2⟩ | ⟨hr2,he2⟩
   . rw[he2];exact af.book (xL hWN) hbk
   . exact af.book px (h8 i r e hr2 he2)
theorem bH.back {ss names:List Str}{h:Hs}(ho:bH ss names h):bH ss names { h with dp:=h.dp.dropLast } :=
 ⟨ho.cnd,ho.csh,ho.cnm,ho.d1,ho.d4,by show h.dp.dropLast.length≤1000;rw[AZ];have:=ho.dl;omega,fun e he=>ho.dd e ((Bs _).subset he),fun e he=>ho.ds e ((Bs _).subset he),ho.k1,ho.ks,ho.kd,ho.kl,ho.kb⟩
theorem iu {bk:List (Int×Bk)}{d:Int}{B:Bk}{e:Int×Bk}(h:e∈cg bk d B):e=(d,B)∨e∈bk:=by
 unfold cg at h
 split at h
 . obtain⟨x,hx,rfl⟩:=List.mem_map.mp h;by_cases c:x.1=d
   . rw[if_pos c,c];exact .inl rfl
   . rw[if_neg c];exact .inr hx
 . rcases List.mem_append.mp h with h | h
   . exact .inr h
   . exact .inl (List.mem_singleton.mp h)
theorem u7:∀ {bk:List (Int×Bk)}{lo hi:Int},bk.Pairwise (fun a b=>a.1 < b.1)→(∀ e∈bk,lo≤e.1∧e.1≤hi)→lo≤hi+1→(bk.length:Int)≤hi - lo+1
 | [],_,_,_,_,h=>by simp;omega
 | a::r,lo,hi,hp,hb,_=>by
   have h1:=List.pairwise_cons.mp hp;have h2:=hb a Ag;have:=u7 (bk:=r) (lo:=a.1+1) (hi:=hi) h1.2 (fun e he=>⟨by have:=h1.1 e he;omega,(hb e (Ai _ he)).2⟩) (by omega);rw[AK]
   push_cast
   omega
theorem bH.change {ss names:List Str}{h:Hs}{d:Int}{B:Bk}(ho:bH ss names h)(hd:1≤d∧d≤400)(hl:h.day≤d)(hB:aP B.1 B.2∧(∀ n,n∈B.2.map (·.1)↔n∈names)∧∀ z,z∈B.1↔z∈ss):bH ss names { h with day:=d,bk:=cg h.bk d B }:=by
 have hks:(cg h.bk d B).Pairwise (fun a b=>a.1 < b.1):=by
   unfold cg
   split
   . rw[List.pairwise_map];refine ho.ks.imp fun {a b} hab=>?_
     have e:∀ x:Int×Bk,(if x.1=d then(x.1,B) else x).1=x.1:=fun x=>by split<;>rfl
     rw[e,e];exact hab
   . rename_i hn;rw[BJ];refine⟨ho.ks,BB ..,fun a ha b hb=>?_⟩;rw[List.mem_singleton.mp hb];show a.1 < d;have h1:=(ho.kd a ha).2;have h2:a.1≠d:=fun e=>hn (List.any_eq_true.mpr ⟨a,ha,decide_eq_true e⟩);omega
 have hkd:∀ e∈cg h.bk d B,1≤e.1∧e.1≤d:=fun e he=>by
   rcases iu he with rfl | he
   . exact⟨hd.1,BK _⟩
   . have:=ho.kd e he;exact⟨this.1,by omega⟩
 refine⟨ho.cnd,ho.csh,ho.cnm,hd.1,hd.2,ho.dl,fun e he=>by have:=ho.dd e he;exact⟨this.1,by show e.1≤d;omega⟩,ho.ds,?_,hks,hkd,?_,fun e he=>?_⟩
 . obtain⟨b,r,hb⟩:=ho.k1;show ∃ b r,cg h.bk d B=(1,b)::r;unfold cg;rw[hb]
   split
   . rw[An];by_cases c:(1:Int)=d
     . exact⟨B,_,by rw[if_pos c]⟩
     . exact⟨b,_,by rw[if_neg c]⟩
   . exact⟨b,_,rfl⟩
 . have:=u7 hks hkd (by omega);show(cg h.bk d B).length≤400;omega
 . rcases iu he with rfl | he
   . exact hB
   . exact ho.kb e he
theorem bH.ch {ss names so ns os:List Str}{h:Hs}{b:Str}(ho:bH ss names h)(CI:kS (aR h.bk 400).1 so ns (aR h.bk 400).2)(B2:aP so (ns.map (chB (aR h.bk 400).1 so (aR h.bk 400).2 b os))):aP so (ns.map (chB (aR h.bk 400).1 so (aR h.bk 400).2 b os))∧(∀ n,n∈(ns.map (chB (aR h.bk 400).1 so (aR h.bk 400).2 b os)).map (·.1)↔n∈names)∧∀ z,z∈so↔z∈ss:=by
 obtain⟨_,hN,hZ⟩:=ho.on 400
 have e:(ns.map (chB (aR h.bk 400).1 so (aR h.bk 400).2 b os)).map (·.1)=ns:=by
   rw[AH];exact List.map_id ns
 refine⟨B2,fun n=>?_,fun z=>?_⟩
 . rw[e,CI.pn.mem_iff];exact hN n
 . rw[CI.ps.mem_iff];exact hZ z
def mO (K:PySem.W.Frag):Sp:=fun vs H Q _=>∃ (a b:Addr)(xs:List Str),vs=[.ref a,.ref b]∧H a=some (.lst (xs.map V.str))∧SqL K H b (xs.map V.str)∧xs.length≤1000∧Q (.bl true) H
theorem rg:ax ["_law_found", "_law_due_here", "_law_k"] ["_law_found", "_law_due_here"] (ao qW):=sM
theorem uX {f:Addr}{fd:FuncData}(F:Fun K "_law_texts" "_law_texts" qW f fd)(T:Txt mg):aU P w K mg base CX0 1 f fd ["_law_found", "_law_due_here"] (mO K):=by
 refine oq F rg fun cdv A outer s H vs Q E hr h=>?_;obtain⟨a,b,xs,rfl,ha,hb,hlen,q⟩:=h
 refine⟨_,aN (aC (PW.pt (eE (cf (bL (al cr (by rfl) T.isi (by decide) (aa (pv 0) (aa (cF (v:=.ty "list") rfl T.list (by decide) rfl) ae))))) (dc (aq jc (al au (by rfl) T.len Ac (aa (pv 0) ae)) (al au (by rfl) T.len Ac (aa (pv 1) ae)) (aw _))))) (ah (ap cv)) am)
   (aN (bq PassesOwn.never rfl (cb rfl T.range (aa (al au (by rfl) T.len Ac (aa (pv 1) ae)) ae)) (pN 2 rg.nd)
     (ah (aC (PW.pt (eE (cf (bL (al cr (by rfl) T.isi (by decide) (aa (pI ak (pv 0) (pv 2)) (aa (cF (v:=.ty "str") rfl T.str (by decide) rfl) ae))))) (dc (aq jc (pI ak (pv 0) (pv 2)) (pI ak (pv 1) (pv 2)) (aw _))))) (ah (ap cv)) am)))
   (ah (ap cv))),?_⟩
 try dsimp only[aF,aO]
 have hs:=aL;walk_at"";refine⟨_,cD.lst ha,true,rfl,aB (fun h=>by cases h) (fun _=>⟨_,.inl (SqL.of ha),_,.inl hb,rfl,?_⟩)⟩;refine aB (fun h=>absurd rfl h) (fun _=>⟨_,.inl hb,?_⟩);rw[be];refine⟨by omega,by omega,?_⟩;refine bn (H0:=H) bu (fun i σ' H'=>∃ o,σ'=[some (.ref a),some (.ref b),o]∧H'=H) ⟨none,rfl,rfl⟩ (fun _ _ _ _ ⟨_,_,h⟩=>by rw[h];exact af.refl _) ?_ ?_
 . rintro i x σ H' hi rfl ⟨o,rfl,rfl⟩
   have ei:(0:Int)+(i:Int)=i:=by omega
   rw[ei];obtain⟨z,hz⟩:∃ z,xs[i]?=some z:=⟨_,zW (by omega)⟩;walk_at"";refine⟨_,SqL.of ha,_,bZ hz,_,cD.str z,true,rfl,aB (fun h=>by cases h) (fun _=>⟨_,SqL.of ha,_,bZ hz,_,hb,_,bZ hz,rfl,?_⟩)⟩;refine aB (fun h=>absurd rfl h) (fun _=>⟨_,rfl⟩)
 . rintro σ H' ⟨o,rfl,rfl⟩;exact q
def ot (d:Addr)(H H':Hp):Prop:=∀ b o,b≠d→H b=some o→H' b=some o
theorem nK {H1:Hp}{d:Addr}{kvs:List (Key×V)}{W:Obj→Hp→Prop}(h:Rd H1 d (.dK kvs))(k:∀ o HF,HF d=some (.frz o (.dK kvs))→Fz H1 HF→ot d H1 HF→W o HF) :
   (H1 d=some (.dK kvs)∧∀ o,W o (upd H1 d (.frz o (.dK kvs))))∨∃ o,H1 d=some (.frz o (.dK kvs))∧W o H1:=by
 rcases h with h | ⟨o,h⟩
 . exact .inl ⟨h,fun o=>k o _ ac (tI h) (fun b u hb e=>by rw[ai hb];exact e)⟩
 . exact .inr ⟨o,h,k o _ h (Fz.refl _) (fun _ _ _ e=>e)⟩
def sq (K:PySem.W.Frag)(C:Addr):Sp:=fun vs H Q _=>∃ (x lo d:Addr)(ss so ns:List Str)(bs:List (Str×List Str))(lk:Str→Str→Str),vs=[.ref x,.ref lo,.ref d]∧bx H C x ss bs∧aP ss bs∧SqL K H lo (so.map V.str)∧so.Perm ss∧AC so=true ∧
 de H d ss ns lk∧ns.Perm (bs.map (·.1))∧(∀ b∈bs,∀ z∈ss,lk b.1 z=lkV ss b z)∧∀ H',Fz H H'→ot d H H'→Q (.bl true) H'
theorem mi:ax ["_law_book", "_law_order", "_law_tables_here", "_law_bath", "_law_due_here"] ["_law_book", "_law_order", "_law_tables_here"] (ao qX):=sM
theorem vk {C f fT fS fB fTb fO:Addr}{fd fdT fdS fdB fdTb fdO:FuncData}(F:Fun K "_law_tells" "_law_tells" qX f fd)(T:Txt mg)(c:Cls K C)
   (GT:Cl P w K mg base CX0 1 "_law_texts" ["_law_found", "_law_due_here"] (mO K) fT fdT)
   (GS:Cm P w K mg base CX0 1 C "shades" ["self"] (ir C) fS fdS)
   (GB:Cm P w K mg base CX0 1 C "baths" ["self"] (kC C) fB fdB)
   (GTb:Cm P w K mg base CX0 2 C "table" ["self", "bath"] (jT C) fTb fdTb)
   (GO:Cm P w K mg base CX0 2 C "out" ["self", "bath", "shade"] (qv C) fO fdO) :
   aU P w K mg base CX0 3 f fd ["_law_book", "_law_order", "_law_tables_here"] (sq K C):=by
 refine oq F mi fun cdv A outer s H vs Q E hr h=>?_;obtain⟨x,lo,d,ss,so,ns,bs,lk,rfl,hbk,B,hlo,hpm,hso,hG,hns,hlk,q⟩:=h;have hu:=eM hr;have hr1:=hr.mono (j:=1) (by omega)
 refine⟨_,aj (aC (PW.pt (eE (cf (bL (pC GT hr1 az (aa (pM0 (pv 0) c GS hr1 az) (aa (pv 1) ae))))) (dc (cf (bL (pC GT hr1 az (aa (pM0 (pv 0) c GB hr1 az) (aa (al (dU rfl) (by rfl) T.sorted (by decide) (aa (pv 2) ae)) ae)))))))) (ah (ap cv)) am)
   (aN (bq PassesOwn.never rfl (mQ (pv 2)) (rG (i:=3) mi.nd rfl (Or.inr rfl))
     (aj (jm (i:=4) (N':=["_law_shade", "_law_tables_here", "_law_bath"]) (pk:=[none,some 2,some 3]) mi.nd rfl (Or.inl rfl) rfl (bW.of (by rfl)) (aY (pv 1)) (fun s H ex=>pN 0 (by show(["_law_shade", "_law_tables_here", "_law_bath"]:List Str).Nodup;decide))
       (fun s H ex=>cx hu (cx hu (pv 1) (pv 2) (fun _ _=>rfl)) (pv 0) (fun _ _=>rfl)))
     (aj (aC (cf (bL (pC GT hr1 az (aa (pM (pv 0) c GTb hr az (aa (pv 3) ae)) (aa (pv 4) ae))))) (ah (ap cv)) am)
     (ah (aC (cf (bL (pC GT hr1 az (aa (fe (N':=["_law_shade", "_law_book", "_law_bath"]) (pk:=[none,some 0,some 3]) rfl (bW.of (by rfl)) (aY (pv 1)) (fun s H ex=>pN 0 (by show(["_law_shade", "_law_book", "_law_bath"]:List Str).Nodup;decide))
       (fun s H ex=>pM (pv 1) c GO hr az (aa (pv 2) (aa (pv 0) ae)))) (aa (pv 4) ae))))) (ah (ap cv)) am)))))
   (ah (ap cv))),?_⟩
 try dsimp only[aF,aO]
 have hs:=aL;have hs12:=B.s12;have hb8:=B.b8;have hsl:so.length=ss.length:=hpm.length_eq;refine cut (fun σ' H'=>σ'=[some (.ref x),some (.ref lo),some (.ref d),none,none]∧af H H') ?_ ?_
 . obtain⟨dx,t,d',so',h1,h2,h3,h4,h5⟩:=hbk;have hbk:bx H C x ss bs:=⟨dx,t,d',so',h1,h2,h3,h4,h5⟩;obtain⟨kvs,hR,hkeys,htab⟩:=hG
   have hnl:ns.length=bs.length:=by rw[hns.length_eq,be]
   walk_at"";refine⟨dx,_,h1,bQ (by decide) (by decide),x,ss,bs,rfl,hbk,B,fun l so2 hl hp2 hs2=>?_⟩;have e2:so2=so:=cy hs2 hso (hp2.trans hpm.symm);subst e2;have Sa:af H (upd H l (.lst (so2.map V.str))):=af.updN hl;refine⟨l,lo,so2,rfl,ac,Sa.seq hlo,by omega,true,rfl,aB (fun h=>by cases h) (fun _=>⟨dx,_,Sa _ _ h1,bQ (by decide) (by decide),x,ss,bs,rfl,af.book Sa hbk,B,fun l2 ns2 hl2 hp3 hs3=>?_⟩)⟩;have Sb:=Sa.step (o:=.lst (ns2.map V.str)) (Sa.free hl2);refine⟨ns,kvs,af.rd Sb hR,hkeys,by omega,fun p ns3 hp hpp hs4=>?_⟩;have e3:ns3=ns2:=cy hs4 hs3 (hpp.trans (hns.trans hp3.symm));subst e3
   have hpl2:l2≠p:=fun e=>by rw[←e,ac] at hp;cases hp
   refine⟨l2,p,ns3,rfl,by rw[ai hpl2];exact ac,SqL.of ac,by rw[hpp.length_eq];omega,true,rfl,aB (fun h=>by cases h) (fun _=>Sb.step (Sb.free hp))⟩
 rintro σ1 H1 ⟨rfl,S1⟩;walk_at"";have hGR:=hG;obtain⟨kvs,hR,hkeys,htab⟩:=hGR;refine⟨kvs,nK (W:=fun o HF=>ua (Itd d o kvs) _ _ _ _ HF) (af.rd S1 hR) fun o HF hHF S2 X2=>?_⟩;have SF:Fz H HF:=(af.fz S1).trans S2;have hbkF:=Fz.book SF hbk;have hloF:SqL K HF lo (so.map V.str):=Fz.seq SF hlo;have hGF:=Fz.tabG SF hG;refine bn (H0:=HF) (fM hHF) (fun i σ' H'=>∃ o3 o4,σ'=[some (.ref x),some (.ref lo),some (.ref d),o3,o4]∧af HF H') ⟨none,none,rfl,af.refl _⟩ (fun _ _ _ _ ⟨_,_,_,h⟩=>h) ?_ ?_
 . rintro i y σ H' hi ⟨k,v,hk,rfl⟩ ⟨o3,o4,rfl,hS⟩
   have hkm:k∈ns.map Sum.inr:=by
     rw[←hkeys];exact z6 (i:=i) (by rw[zX,hk];rfl)
   obtain⟨n,hn,rfl⟩:=List.mem_map.mp hkm;obtain⟨b,hb,rfl⟩:=List.mem_map.mp (hns.mem_iff.mp hn);have ek:kV (Sum.inr b.1)=V.str b.1:=rfl;rw[ek];walk_at"";refine cut (fun σ' H''=>∃ du,σ'=[some (.ref x),some (.ref lo),some (.ref d),some (.str b.1),some (.ref du)]∧af HF H''∧H'' du=some (.lst ((so.map (lkV ss b)).map V.str))) ?_ ?_
   . walk_at"";refine⟨⟨_,hS.seq hloF⟩,fun D hD=>?_⟩;refine cG (aE (hS.seq hloF)) (by rw[be];omega) hD (fun σ=>∃ o,σ=[o,some (.ref d),some (.str b.1)]) (fun k=>V.str (lkV ss b (so.getD k ⟨#[]⟩))) ⟨none,rfl⟩ ?_ ?_
     . rintro k y σ' H3 hk2 hy ⟨o,rfl⟩ hS3 R hR;rw[zX] at hy;obtain⟨z,hz,rfl⟩:=Option.map_eq_some_iff.mp hy;have hzs:z∈ss:=hpm.mem_iff.mp (z6 hz);obtain⟨r,hg1,hg2⟩:=(Fz.tabG (af.fz (hS.trans hS3)) hGF).get hn hzs;walk_at"";refine⟨_,hg1,r,rfl,_,hg2,?_⟩;rw[hlk b hb z hzs]
       have e:so.getD k ⟨#[]⟩=z:=by rw[zZ,hz];rfl
       have:=hR [some (V.str z),some (V.ref d),some (V.str b.1)] ⟨_,rfl⟩;rw[e] at this;exact this
     . have e:(Ab (so.map V.str).length).map (fun k=>V.str (lkV ss b (so.getD k ⟨#[]⟩)))=(so.map (lkV ss b)).map V.str:=by
         rw[AH];refine cA _ so _ _ (by rw[be]) fun k y hy=>?_;rw[zZ,hy];rfl
       rw[e];exact⟨hS.step (hS.free hD),ac⟩
   rintro σ2 H2 ⟨du,rfl,S3,hdu⟩;refine cut (fun σ' H''=>σ'=[some (.ref x),some (.ref lo),some (.ref d),some (.str b.1),some (.ref du)]∧af HF H''∧H'' du=some (.lst ((so.map (lkV ss b)).map V.str))) ?_ ?_
   . obtain⟨dx,t,d',so',h1,h2,h3,h4,h5⟩:=hbkF;have hbkF:bx HF C x ss bs:=⟨dx,t,d',so',h1,h2,h3,h4,h5⟩;walk_at"";refine⟨dx,_,S3 _ _ h1,bQ (by decide) (by decide),x,ss,bs,b,rfl,af.book S3 hbkF,B,hb,fun l so2 hl hp2 hs2=>?_⟩;have e2:so2=so:=cy hs2 hso (hp2.trans hpm.symm);subst e2;have Sa:af H2 (upd H2 l (.lst ((so2.map (lkV ss b)).map V.str))):=af.updN hl;refine⟨l,du,so2.map (lkV ss b),rfl,ac,SqL.of (Sa _ _ hdu),by rw[be];omega,true,rfl,aB (fun h=>by cases h) (fun _=>⟨S3.trans Sa,Sa _ _ hdu⟩)⟩
   rintro σ3 H3 ⟨rfl,S4,hdu3⟩;walk_at"";refine⟨⟨_,S4.seq hloF⟩,fun D hD=>?_⟩;refine cG (aE (S4.seq hloF)) (by rw[be];omega) hD (fun σ=>∃ o,σ=[o,some (.ref x),some (.str b.1)]) (fun k=>V.str (lkV ss b (so.getD k ⟨#[]⟩))) ⟨none,rfl⟩ ?_ ?_
   . rintro k y σ' H5 hk2 hy ⟨o,rfl⟩ hS5 R hR;rw[zX] at hy;obtain⟨z,hz,rfl⟩:=Option.map_eq_some_iff.mp hy;have hzs:z∈ss:=hpm.mem_iff.mp (z6 hz);have hbk5:=af.book (S4.trans hS5) hbkF;obtain⟨dx,t,d',so',h1,h2,h3,h4,h5⟩:=hbk5;have hbk5:bx H5 C x ss bs:=⟨dx,t,d',so',h1,h2,h3,h4,h5⟩;walk_at"";refine⟨dx,_,h1,bQ (by decide) (by decide),x,ss,bs,b,z,rfl,hbk5,B,hb,hzs,?_⟩
     have e:so.getD k ⟨#[]⟩=z:=by rw[zZ,hz];rfl
     have:=hR [some (V.str z),some (V.ref x),some (V.str b.1)] ⟨_,rfl⟩;rw[e] at this;exact this
   . have e:(Ab (so.map V.str).length).map (fun k=>V.str (lkV ss b (so.getD k ⟨#[]⟩)))=(so.map (lkV ss b)).map V.str:=by
       rw[AH];refine cA _ so _ _ (by rw[be]) fun k y hy=>?_;rw[zZ,hy];rfl
     rw[e];have Sa:af H3 (upd H3 D (.lst ((so.map (lkV ss b)).map V.str))):=af.updN hD;exact⟨D,du,so.map (lkV ss b),rfl,ac,SqL.of (Sa _ _ hdu3),by rw[be];omega,true,rfl,aB (fun h=>by cases h) (fun _=>⟨⟨_,rfl⟩,S4.trans Sa⟩)⟩
 . rintro σ H' ⟨o3,o4,rfl,hS⟩;walk_at"";exact q _ (SF.trans (af.fz hS)) (fun b o hb e=>hS _ _ (X2 b o hb (S1 _ _ e)))
theorem uV {kvs:List (Key×V)}{k:Key}{v:V}(h:(bG kvs k).isSome=true):(dj kvs k v).map (·.1)=kvs.map (·.1):=by
 unfold dj;rw[d8,if_pos h,AH];refine List.map_congr_left fun kv _=>?_;show(if kv.1=k then(kv.1,v) else kv).1=kv.1
 split<;>rfl
theorem de.perm {H:Hp}{d:Addr}{ss ss' ns:List Str}{lk:Str→Str→Str}(h:de H d ss ns lk)(p:ss'.Perm ss):de H d ss' ns lk:=by
 obtain⟨kvs,h1,h2,h3⟩:=h;refine⟨kvs,h1,h2,fun n hn=>?_⟩;obtain⟨r,kv,e1,e2,e3⟩:=h3 n hn;exact⟨r,kv,e1,e2,fun z hz=>e3 z (p.mem_iff.mp hz)⟩
def eo (so:List Str) (t:Str)(os:List Str)(lk:Str→Str→Str):Str→Str→Str:=fun n z=>if n=t then lkV so (t,os) z else lk n z
theorem si:∀ (a:Int×Bk)(r:List (Int×Bk)) (e:Int),(a::r).Pairwise (fun a b=>a.1 < b.1)→a.1≤e→∃ x∈a::r,x.1≤e∧(∀ y∈a::r,y.1≤e→y.1≤x.1)∧aR (a::r) e=x.2
 | a,[],e,_,h=>⟨a,Ag,h,fun y hy _=>by rw[List.mem_singleton.mp hy];exact BK _,rfl⟩
 | a,b::r,e,hp,h=>by
   have hp2:=List.pairwise_cons.mp hp;by_cases hb:b.1≤e
   . obtain⟨x,hx,h1,h2,h3⟩:=si b r e hp2.2 hb;refine⟨x,Ai _ hx,h1,fun y hy hye=>?_,?_⟩
     . rcases List.mem_cons.mp hy with rfl | hy
       . have h4:=hp2.1 b Ag;have h5:=h2 b Ag hb;omega
       . exact h2 y hy hye
     . show(if b.1≤e then aR (b::r) e else a.2)=x.2;rw[if_pos hb];exact h3
   . refine⟨a,Ag,h,fun y hy hye=>?_,?_⟩
     . rcases List.mem_cons.mp hy with rfl | hy
       . exact BK _
       . rcases List.mem_cons.mp hy with rfl | hy
         . exact absurd hye hb
         . have:=(List.pairwise_cons.mp hp2.2).1 y hy;omega
     . show(if b.1≤e then aR (b::r) e else a.2)=a.2;rw[if_neg hb]
theorem bH.ex {ss names:List Str}{h:Hs}(ho:bH ss names h){e:Int}(he:1≤e):∃ x∈h.bk,x.1≤e∧(∀ y∈h.bk,y.1≤e→y.1≤x.1)∧aR h.bk e=x.2:=by
 obtain⟨b1,r1,hb⟩:=ho.k1;have hks:=ho.ks;rw[hb] at hks ⊢;exact si (1,b1) r1 e hks he
theorem qO {bk:List (Int×Bk)}{d:Int}{B:Bk}:(d,B)∈cg bk d B:=by
 unfold cg
 split
 . rename_i h;obtain⟨x,hx,hd⟩:=List.any_eq_true.mp h;have hd:=of_decide_eq_true hd;exact List.mem_map.mpr ⟨x,hx,by rw[if_pos hd,hd]⟩
 . exact Aq _ Ag
theorem sL {bk:List (Int×Bk)}{d:Int}{B:Bk}{x:Int×Bk}(hx:x∈bk)(hd:x.1≠d):x∈cg bk d B:=by
 unfold cg
 split
 . exact List.mem_map.mpr ⟨x,hx,by rw[if_neg hd]⟩
 . exact A8 _ hx
theorem oX {ss names:List Str}{h:Hs}{d:Int}{B:Bk}(ho:bH ss names h)(ho2:bH ss names { h with day:=d,bk:=cg h.bk d B }){e:Int}(he:1≤e):aR (cg h.bk d B) e=if d≤e then B else aR h.bk e:=by
 have hks:(cg h.bk d B).Pairwise (fun a b=>a.1 < b.1):=ho2.ks;by_cases hde:d≤e
 . rw[if_pos hde];exact jo _ e d B hks qO hde (fun x hx _=>(ho2.kd x hx).2)
 . rw[if_neg hde];obtain⟨x,hx,h1,h2,h3⟩:=ho.ex he;rw[h3];refine jo _ e x.1 x.2 hks (sL hx (by omega)) h1 (fun y hy hye=>?_)
   rcases iu hy with rfl | hy
   . exact absurd hye hde
   . exact h2 y hy hye
theorem ya {ss so ns:List Str}{bs:List (Str×List Str)}{t:Str}{os:List Str}(B:aP ss bs)(CI:kS ss so ns bs)(B2:aP so (ns.map (chB ss so bs t os))){n z:Str}(hn:n∈ns)(hz:z∈so):lkB so (ns.map (chB ss so bs t os)) n z=if n=t then lkV so (t,os) z else lkB ss bs n z:=by
 have h1:=fk (ss:=so) z B2.bnd (AA (f:=chB ss so bs t os) hn);exact h1.trans (w8 B CI hz)
theorem zz {ss names so so2 ns:List Str}{h:Hs}{bs:List (Str×List Str)}(ho:bH ss names h)(hn:ss.Nodup)(hp:so.Perm ss)(ht:AC so=true)(CI:kS (aR h.bk 400).1 so2 ns bs):so2=so:=by
 obtain⟨B,_,hZ⟩:=ho.on 400;have hp2:(aR h.bk 400).1.Perm ss:=(BL B.snd hn).mpr hZ;exact cy CI.ts ht (CI.ps.trans (hp2.trans hp.symm))
theorem aJ.frz {H H':Hp}{C CB:Addr}{A:Ad}{W:Hp}{ss:List Str}{h:Hs}{d:Addr}(hh:aJ H C CB A W ss h)(hx:d≠A.x∧d≠A.d1∧d≠A.ls∧d≠A.db)(hw:W d=none)(S:ot d H H'):aJ H' C CB A W ss h:=by
 obtain⟨n1,n2,n3,n4⟩:=hx;obtain⟨h1,h2,⟨ps,h3,h4,h5⟩,⟨rs,h6,h7,h8⟩,h9,h10⟩:=hh;refine⟨S _ _ (Ne.symm n1) h1,S _ _ (Ne.symm n2) h2,⟨ps,S _ _ (Ne.symm n3) h3,h4,h5⟩,⟨rs,S _ _ (Ne.symm n4) h6,h7,h8⟩,h9,fun b o e=>?_⟩
 have hb:b≠d:=fun z=>by rw[z,hw] at e;cases e
 have e2:=h10 b o e;unfold hid at e2 ⊢
 split at e2
 . cases e2
 . rename_i hn;rw[if_neg hn];exact S _ _ hb e2
theorem pT {ss names:List Str}{h:Hs}(ho:bH ss names h)(hn:names.Nodup) (d:Int):names.Perm ((aR h.bk d).2.map (·.1)):=by
 obtain⟨B,hN,_⟩:=ho.on d;exact(BL hn B.bnd).mpr fun n=>(hN n).symm
theorem i5 {ss names:List Str}{h:Hs}(ho:bH ss names h)(hn:ss.Nodup) (d:Int):(aR h.bk d).1.Perm ss:=by
 obtain⟨B,_,hZ⟩:=ho.on d;exact(BL B.snd hn).mpr hZ
theorem gM {H:Hp}{A:Ad}{b:Addr}{o:HO}(h:H b=some o)(b1:b≠A.x)(b2:b≠A.d1)(b3:b≠A.ls)(b4:b≠A.db):hid H A b=some o:=by
 unfold hid;rw[if_neg (fun z=>by rcases z with z | z | z | z;exact b1 z;exact b2 z;exact b3 z;exact b4 z)];exact h
theorem wZ {H H':Hp}{C CB:Addr}{A:Ad}{W:Hp}{ss:List Str}{h:Hs}{b:Addr}{o:HO}(hh:aJ H C CB A W ss h)(hb:H b=none)(h':H' b=some o):hid H' A b=some o:=by
 obtain⟨_,hls,_⟩:=hh.dp;obtain⟨_,hdb,_⟩:=hh.bk;exact gM h' (fun z=>by rw[z,hh.ins] at hb;cases hb) (fun z=>by rw[z,hh.cl] at hb;cases hb) (fun z=>by rw[z,hls] at hb;cases hb) (fun z=>by rw[z,hdb] at hb;cases hb)
def lq (CH CB:Addr):Sp:=fun vs H Q E=>∃ (A:Ad)(W:Hp)(ss:List Str) (h:Hs),vs=[.ref A.x]∧aJ H CH CB A W ss h∧h.cl.length < 64∧∀ p (os:List Str),H p=none→os.Perm (h.cl.map (·.1))→AC os=true→Q (.ref p) (upd H p (.lst (os.map V.str)))
theorem tw:ax ["self"] ["self"] (ao kf):=sM
theorem qR {f:Addr}{fd:FuncData}{CH CB :Addr}(F:Fun K "cloths" "House.cloths" kf f fd)
   (T:Txt mg)(hX:Hx K mg CH)(cB:Cls K CB)  :
   aU P w K mg base (CX1 P w) 1 f fd ["self"] (lq CH CB):=by
 refine oqX F tw fun cdv A outer s H vs Q E hr h=>?_;obtain⟨A0,W,ss,h,rfl,hh,hl,q⟩:=h;refine⟨_,(ah (ap (al (dU rfl) (by rfl) T.sorted (by decide) (aa (bD (pv 0) rfl) ae)))),?_⟩
 try dsimp only[aF,aO]
 walk_at"";exact⟨CH,A0.dx,_,hh.ins,hX.c,hX.n1,_,dI,A0.d1,rfl,h.cl.map (·.1),_,.inl hh.cl,by unfold clV;rw[AH,AH];rfl,by rw[be];exact hl,fun p os hp hperm hso=>q p os hp hperm hso⟩
def oy (CH CB:Addr):Sp:=fun vs H Q E=>∃ (A:Ad)(W:Hp)(ss:List Str) (h:Hs),vs=[.ref A.x]∧aJ H CH CB A W ss h∧Q (.int h.day) H
theorem ux:ax ["self"] ["self"] (ao mw):=sM
theorem tV {f:Addr}{fd:FuncData}{CH CB :Addr}(F:Fun K "today" "House.today" mw f fd)
   (T:Txt mg)(hX:Hx K mg CH)(cB:Cls K CB)  :
   aU P w K mg base (CX1 P w) 1 f fd ["self"] (oy CH CB):=by
 refine oqX F ux fun cdv A outer s H vs Q E hr h=>?_;obtain⟨A0,W,ss,h,rfl,hh,q⟩:=h;refine⟨_,(ah (ap (bD (pv 0) rfl))),?_⟩
 try dsimp only[aF,aO]
 walk_at"";exact⟨CH,A0.dx,_,hh.ins,hX.c,hX.n2,_,wg,q⟩
def cV:List Str:=["ValueError", "BadName", "Known", "NoCloth", "NoBath", "NoShade", "BadBook", "BadText", "TooLong", "NoDay", "Late", "NoDip", "Full"]
def kQ (bits:List Bool):List Str:=((Ab 13).filter (fun i=>bits.getD i false)).map (fun i=>cV.getD i "")
def dN (bits:List Bool):Str:=Txt.join " " (kQ bits)
theorem dZ {H:Hp}{a b:Addr}{xs ys:List V}{Q:VK}(ha:H a=some (.lst xs))(hb:H b=some (.lst ys))(hz:xs.length+ys.length≤sizeLine)(q:∀ p,H p=none→Q (.ref p) (upd H p (.lst (xs++ys)))):zE (.ref a) (.ref b) H Q:=⟨a,b,xs,ys,rfl,rfl,ha,hb,hz,q⟩
def lg:Sp:=fun vs H Q _=>∃ (l:Addr)(bits:List Bool),vs=[.ref l]∧H l=some (.lst (bits.map V.bl))∧bits.length=13∧∀ t H',af H H'→H' t=some (.tup [.str "refused",.str (dN bits),.int 0])→Q (.ref t) H'
theorem iw:ax ["_law_flags", "_law_words_here"] ["_law_flags"] (ao kA):=sM
theorem qB {f:Addr}{fd:FuncData}(F:Fun K "_law_refusal" "_law_refusal" kA f fd)(T:Txt mg):aU P w K mg base CX0 1 f fd ["_law_flags"] lg:=by
 refine oq F iw fun cdv A outer s H vs Q E hr h=>?_;obtain⟨l,bits,rfl,hl,hlen,q⟩:=h
 refine⟨_,aj (mo (i:=1) iw.nd rfl (Or.inr rfl) (ba zr))
   (aj (mo (i:=1) iw.nd rfl (Or.inr rfl) (aA fb (pv 1) (ba (aa ay (aa ay (aa ay (aa ay (aa ay ae))))))))
   (ah (ap (bj (aa ay (aa (eI PySem.F.plainAttrs_str PySem.F.slot_str_join PySem.F.type_str_join xq ay (aa (eP (N':=["_law_k", "_law_words_here", "_law_flags"]) (pk:=[none,some 1,some 0]) rfl (bW.of (by rfl)) (cb rfl T.range (aa (al au (by rfl) T.len Ac (aa (pv 1) ae)) ae)) (fun s H ex=>pN 0 (by show(["_law_k", "_law_words_here", "_law_flags"]:List Str).Nodup;decide))
       (fun s H ex=>bL (pI (ak:IxR _ (gQ K)) (pv 2) (pv 0))) (fun s H ex=>pI (ak:IxR _ (gQ K)) (pv 1) (pv 0))) ae)) (aa ag ae))))))),?_⟩
 try dsimp only[aF,aO]
 have hs:=aL;refine cut (fun σ' H'=>∃ l1,σ'=[some (.ref l),some (.ref l1)]∧af H H'∧H' l1=some (.lst ((cV.take 8).map V.str))) ?_ ?_
 . walk_at"";exact⟨by omega,fun p hp=>⟨af.updN hp,ac⟩⟩
 rintro σ1 H1 ⟨l1,rfl,S1,hl1⟩;refine cut (fun σ' H'=>∃ l2,σ'=[some (.ref l),some (.ref l2)]∧af H H'∧H' l2=some (.lst (cV.map V.str))) ?_ ?_
 . walk_at"";refine⟨by omega,fun p hp=>?_⟩;have Sp:af H1 (upd H1 p (.lst [V.str "TooLong",V.str "NoDay",V.str "Late",V.str "NoDip",V.str "Full"])):=af.updN hp;refine dZ (Sp _ _ hl1) ac (by rw[be];exact AO (by decide) hs) fun p2 hp2=>⟨p2,rfl,?_,?_⟩
   . exact(S1.trans Sp).step ((S1.trans Sp).free hp2)
   . rw[ac];rfl
 rintro σ2 H2 ⟨l2,rfl,S2,hl2⟩;walk_at"";refine⟨rfl,_,.inl (SqL.of hl2),?_⟩;rw[be,show cV.length=13 from rfl];refine⟨by decide,by decide,fun D hD=>?_⟩;refine fh (n:=13) (bu (n:=13)) (by omega) hD (fun σ=>∃ o,σ=[o,some (.ref l2),some (.ref l)]) (fun i=>bits.getD i false) (fun i=>V.str (cV.getD i "")) ⟨none,rfl⟩ ?_ ?_
 . rintro i x σ' H' hi rfl ⟨o,rfl⟩ hS R1 R0 h1 h0
   have ei:(0:Int)+(i:Int)=i:=by omega
   rw[ei];obtain⟨b,hb⟩:∃ b,bits[i]?=some b:=⟨_,zW (by omega)⟩;obtain⟨wd,hw⟩:∃ z,cV[i]?=some z:=⟨_,zW (by show i < 13;omega)⟩
   have eb:bits.getD i false=b:=by rw[zZ,hb];rfl
   have ew:cV.getD i ""=wd:=by rw[zZ,hw];rfl
   rw[eb] at h1 h0;rw[ew] at h1;walk_at"";refine⟨_,hS.seq (SqL.of (S2 _ _ hl)),V.bl b,bS (by rw[zX,hb];rfl),b,rfl,?_⟩
   cases b with
   | true=>exact⟨_,hS.seq (SqL.of hl2),_,bZ hw,h1 rfl _ ⟨_,rfl⟩⟩
   | false=>exact h0 rfl _ ⟨_,rfl⟩
 . have e:((Ab 13).filter (fun i=>bits.getD i false)).map (fun i=>V.str (cV.getD i ""))=(kQ bits).map V.str:=by unfold kQ;rw[AH];rfl
   rw[e]
   have hsum:∀ (l:List Nat),(((l.map (fun i=>cV.getD i "")).map (·.length)).sum)≤20*l.length:=by
     intro l
     induction l with
     | nil=>exact z7 _
     | cons a r ih =>
       have ha:(cV.getD a "").length≤20:=by
         by_cases h:a < 13
         . have:∀ i:_root_.Fin 13,(cV.getD i.val "").length≤20:=by decide
           exact this ⟨a,h⟩
         . rw[zZ,Br (by show 13≤a;omega)];decide
       rw[An,An,List.sum_cons,AK];omega
   have hfl:((Ab 13).filter (fun i=>bits.getD i false)).length≤13:=by
     have:=Bf (fun i=>bits.getD i false) (Ab 13)
     rwa [Ba] at this
   refine⟨kQ bits,SqL.of ac,?_,by omega,fun p hp=>?_⟩
   . have h1:=hsum ((Ab 13).filter (fun i=>bits.getD i false))
     have h2:(kQ bits).length≤13:=by unfold kQ;rw[be];exact hfl
     have h3:(zV " ").length=1:=by decide
     rw[h3];show(((kQ bits).map (·.length)).sum)+(kQ bits).length*1≤16777216;unfold kQ at h2 ⊢;omega
   . have S3:af H2 (upd H2 D (.lst ((kQ bits).map V.str))):=af.updN hD;exact q p _ ((S2.trans S3).step ((S2.trans S3).free hp)) ac
structure zg (K:PySem.W.Frag)(mg:Str→Option Value)(cs:List Addr)(dip:Addr):Prop where
 m1:∃ c,cs[0]?=some c∧mg "BadName"=some (.ref c)
 m2:∃ c,cs[1]?=some c∧mg "Known"=some (.ref c)
 m3:∃ c,cs[2]?=some c∧mg "NoCloth"=some (.ref c)
 m4:∃ c,cs[3]?=some c∧mg "NoBath"=some (.ref c)
 m5:∃ c,cs[4]?=some c∧mg "NoShade"=some (.ref c)
 m6:∃ c,cs[5]?=some c∧mg "BadBook"=some (.ref c)
 m7:∃ c,cs[6]?=some c∧mg "BadText"=some (.ref c)
 m8:∃ c,cs[7]?=some c∧mg "TooLong"=some (.ref c)
 m9:∃ c,cs[8]?=some c∧mg "NoDay"=some (.ref c)
 m10:∃ c,cs[9]?=some c∧mg "Late"=some (.ref c)
 m11:∃ c,cs[10]?=some c∧mg "NoDip"=some (.ref c)
 m12:∃ c,cs[11]?=some c∧mg "Full"=some (.ref c)
 md:mg "DipError"=some (.ref dip)
 ve:mg "ValueError"=none
structure Bits (K:PySem.W.Frag)(cs:List Addr)(dip C:Addr)(bits:List Bool):Prop where
 exc:ExcC K C
 len:bits.length=12
 val:AB K (.ref C) (.type "ValueError")=some true
 bit:∀ (i:Nat) c b,cs[i]?=some c→bits[i]?=some b→AB K (.ref C) (.ref c)=some b
 dip:PySem.W.exmOne K (.ref C) (.ref dip)=some true
def yq (K:PySem.W.Frag)(C e:Addr):List V→Hp→VK→Prop:=fun xs H Q=>∃ D b,((xs=[.ref e,.ref D]∧AB K (.ref C) (.ref D)=some b)∨∃ T,xs=[.ref e,.ty T]∧AB K (.ref C) (.type T)=some b)∧Q (.bl b) H
theorem iy {X:Cx}{e C:Addr}{oe:Obj}(hcl:oe.cls=.ref C)(XC:ExcC X.K C):cw (cxH X e oe) (.builtin "isinstance") (yq X.K C e):=sH (X:=cxH X e oe) Ag hcl XC
theorem cJ {K:PySem.W.Frag}{C e D:Addr}{b:Bool}{H:Hp}{Q:VK}(h:AB K (.ref C) (.ref D)=some b)(q:Q (.bl b) H):yq K C e [.ref e,.ref D] H Q:=⟨D,b,.inl ⟨rfl,h⟩,q⟩
theorem xN {K:PySem.W.Frag}{C e:Addr}{T:String}{b:Bool}{H:Hp}{Q:VK}(h:AB K (.ref C) (.type T)=some b)(q:Q (.bl b) H):yq K C e [.ref e,.ty T] H Q:=⟨0,b,.inr ⟨T,rfl,h⟩,q⟩
def xl (spA:Sp)(K:PySem.W.Frag)(cs:List Addr)(dip:Addr):Sp:=fun vs H Q _=>∃ v1 v2,vs=[v1,v2]∧∀ H1 (E':XK),af H H1 →
 (∀ C bits H',Bits K cs dip C bits→(∀ t H'',af H' H''→H'' t=some (.tup [.str "refused",.str (dN (true::bits)),.int 0])→Q (.ref t) H'')→E' (.ref C) none H')→spA [v1,v2] H1 Q E'
theorem yH:∀ l:List Bool,l.length=12→∃ b1 b2 b3 b4 b5 b6 b7 b8 b9 b10 b11 b12,l=[b1,b2,b3,b4,b5,b6,b7,b8,b9,b10,b11,b12]
 | [b1,b2,b3,b4,b5,b6,b7,b8,b9,b10,b11,b12],_=>⟨b1,b2,b3,b4,b5,b6,b7,b8,b9,b10,b11,b12,rfl⟩
theorem st4:∀ l:St,l.length=4→∃ a0 a1 a2 a3,l=[a0,a1,a2,a3]
 | [a0,a1,a2,a3],_=>⟨a0,a1,a2,a3,rfl⟩
theorem pB:ax ["_law_thing", "_law_deed_here", "_law_flags", "e"] ["_law_thing", "_law_deed_here"] (ao sDo):=sM
theorem zw {spA:Sp}{ps:List Str}{j:Nat}{cs:List Addr}{dip f fA fR:Addr}{fd fdA fdR:FuncData}(F:Fun K "_law_do" "_law_do" sDo f fd)(T:Txt mg)(R:zg K mg cs dip)
   (GA:Cl P w K mg base (CX1 P w) (j+1) "_law_asked" ps spA fA fdA)
   (GR:Cl P w K mg base CX0 1 "_law_refusal" ["_law_flags"] lg fR fdR) :
   aU P w K mg base (CX1 P w) (j+2) f fd ["_law_thing", "_law_deed_here"] (xl spA K cs dip):=by
 refine oqX F pB fun cdv A outer s H vs Q E hr h=>?_;obtain⟨v1,v2,rfl,hA⟩:=h;have hr1:=hr.mono (j:=1) (by omega);obtain⟨c1,e1,m1⟩:=R.m1;obtain⟨c2,e2,m2⟩:=R.m2;obtain⟨c3,e3,m3⟩:=R.m3;obtain⟨c4,e4,m4⟩:=R.m4;obtain⟨c5,e5,m5⟩:=R.m5;obtain⟨c6,e6,m6⟩:=R.m6;obtain⟨c7,e7,m7⟩:=R.m7;obtain⟨c8,e8,m8⟩:=R.m8;obtain⟨c9,e9,m9⟩:=R.m9;obtain⟨c10,e10,m10⟩:=R.m10;obtain⟨c11,e11,m11⟩:=R.m11;obtain⟨c12,e12,m12⟩:=R.m12
 refine⟨_,aN (pS 2 pB.nd (ba ae))
   (aN (yN (i:=3) pB.nd rfl rfl rfl rfl rfl R.md (by decide)
       (fun pn W E1 hp=>ah (ap (pC GA hr hp (aa (pv 0) (aa (pv 1) ae)))))
       (fun C e oe hcl XC=>aj (pS 2 pB.nd (ba (aa (al (iy hcl XC) (by rfl) T.isi (by decide) (aa (pv 3) (aa (cF (v:=.ty "ValueError") rfl R.ve (by decide) rfl) ae))) (aa (al (iy hcl XC) (by rfl) T.isi (by decide) (aa (pv 3) (aa (bi (v:=.ref c1) rfl m1 rfl) ae))) (aa (al (iy hcl XC) (by rfl) T.isi (by decide) (aa (pv 3) (aa (bi (v:=.ref c2) rfl m2 rfl) ae))) ae)))))
         (aj (pS 2 pB.nd (aA fb (pv 2) (ba (aa (al (iy hcl XC) (by rfl) T.isi (by decide) (aa (pv 3) (aa (bi (v:=.ref c3) rfl m3 rfl) ae))) (aa (al (iy hcl XC) (by rfl) T.isi (by decide) (aa (pv 3) (aa (bi (v:=.ref c4) rfl m4 rfl) ae))) (aa (al (iy hcl XC) (by rfl) T.isi (by decide) (aa (pv 3) (aa (bi (v:=.ref c5) rfl m5 rfl) ae))) ae))))))
         (aj (pS 2 pB.nd (aA fb (pv 2) (ba (aa (al (iy hcl XC) (by rfl) T.isi (by decide) (aa (pv 3) (aa (bi (v:=.ref c6) rfl m6 rfl) ae))) (aa (al (iy hcl XC) (by rfl) T.isi (by decide) (aa (pv 3) (aa (bi (v:=.ref c7) rfl m7 rfl) ae))) (aa (al (iy hcl XC) (by rfl) T.isi (by decide) (aa (pv 3) (aa (bi (v:=.ref c8) rfl m8 rfl) ae))) ae))))))
         (ah (pS 2 pB.nd (aA fb (pv 2) (ba (aa (al (iy hcl XC) (by rfl) T.isi (by decide) (aa (pv 3) (aa (bi (v:=.ref c9) rfl m9 rfl) ae))) (aa (al (iy hcl XC) (by rfl) T.isi (by decide) (aa (pv 3) (aa (bi (v:=.ref c10) rfl m10 rfl) ae))) (aa (al (iy hcl XC) (by rfl) T.isi (by decide) (aa (pv 3) (aa (bi (v:=.ref c11) rfl m11 rfl) ae))) (aa (al (iy hcl XC) (by rfl) T.isi (by decide) (aa (pv 3) (aa (bi (v:=.ref c12) rfl m12 rfl) ae))) ae)))))))))))
     )
   (ah (ap (pC GR hr1 az (aa (pv 2) ae))))),?_⟩
 try dsimp only[aF,aO]
 have hs:=aL;walk_at"";refine⟨by omega,fun p hp=>?_⟩;unfold xx;walk_at"";refine hA _ _ (af.updN hp) fun C bits H' hB hq=>⟨C,rfl,hB.exc,hB.dip,fun e σ' hlen=>?_⟩;obtain⟨a0,a1,a2,a3,rfl⟩:=st4 σ' hlen;obtain⟨b1,b2,b3,b4,b5,b6,b7,b8,b9,b10,b11,b12,rfl⟩:=yH bits hB.len;unfold u4;walk_at"";refine cut (fun σ' H''=>∃ l,σ'=[a0,a1,some (.ref l),some (.ref e)]∧af H' H''∧H'' l=some (.lst (([true,b1,b2]:List Bool).map V.bl))) ?_ ?_
 . walk_at"";refine xN hB.val (cJ (hB.bit 0 _ _ e1 rfl) (cJ (hB.bit 1 _ _ e2 rfl) ⟨by omega,fun l hl=>⟨af.updN hl,ac⟩⟩))
 rintro σ1 H1 ⟨l1,rfl,S1,hl1⟩;refine cut (fun σ' H''=>∃ l,σ'=[a0,a1,some (.ref l),some (.ref e)]∧af H' H''∧H'' l=some (.lst (([true,b1,b2,b3,b4,b5]:List Bool).map V.bl))) ?_ ?_
 . walk_at"";refine cJ (hB.bit 2 _ _ e3 rfl) (cJ (hB.bit 3 _ _ e4 rfl) (cJ (hB.bit 4 _ _ e5 rfl) ⟨by omega,fun l hl=>?_⟩));have Sl:af H1 (upd H1 l (.lst [V.bl b3,V.bl b4,V.bl b5])):=af.updN hl;exact dZ (Sl _ _ hl1) ac (AO (by simp) hs) fun p2 hp2=>⟨p2,rfl,(S1.trans Sl).step ((S1.trans Sl).free hp2),by rw[ac];rfl⟩
 rintro σ2 H2 ⟨l2,rfl,S2,hl2⟩;refine cut (fun σ' H''=>∃ l,σ'=[a0,a1,some (.ref l),some (.ref e)]∧af H' H''∧H'' l=some (.lst (([true,b1,b2,b3,b4,b5,b6,b7,b8]:List Bool).map V.bl))) ?_ ?_
 . walk_at"";refine cJ (hB.bit 5 _ _ e6 rfl) (cJ (hB.bit 6 _ _ e7 rfl) (cJ (hB.bit 7 _ _ e8 rfl) ⟨by omega,fun l hl=>?_⟩));have Sl:af H2 (upd H2 l (.lst [V.bl b6,V.bl b7,V.bl b8])):=af.updN hl;exact dZ (Sl _ _ hl2) ac (AO (by simp) hs) fun p2 hp2=>⟨p2,rfl,(S2.trans Sl).step ((S2.trans Sl).free hp2),by rw[ac];rfl⟩
 rintro σ3 H3 ⟨l3,rfl,S3,hl3⟩;walk_at"";refine cJ (hB.bit 8 _ _ e9 rfl) (cJ (hB.bit 9 _ _ e10 rfl) (cJ (hB.bit 10 _ _ e11 rfl) (cJ (hB.bit 11 _ _ e12 rfl) ⟨by omega,fun l hl=>?_⟩)));have Sl:af H3 (upd H3 l (.lst [V.bl b9,V.bl b10,V.bl b11,V.bl b12])):=af.updN hl;refine dZ (Sl _ _ hl3) ac (AO (by simp) hs) fun p2 hp2=>?_;have S4:=(S3.trans Sl).step (o:=.lst (([true,b1,b2,b3,b4,b5,b6,b7,b8,b9,b10,b11,b12]:List Bool).map V.bl)) ((S3.trans Sl).free hp2);exact⟨p2,[true,b1,b2,b3,b4,b5,b6,b7,b8,b9,b10,b11,b12],rfl,ac,rfl,fun t H'' S hH=>hq t H'' (S4.trans S) hH⟩
def sf (H0 H:Hp)(d:Addr)(ss:List Str)(bs:List (Str×List Str)):Prop :=
 ∃ ds:List Addr,H d=some (.dK (bX (bs.map (·.1)) (ds.map V.ref)))∧ds.length=bs.length∧∀ (i:Nat) r b,ds[i]?=some r→bs[i]?=some b→H0 r=none∧hide H d r=some (.dK (il ss b))
def ln (K:PySem.W.Frag):Sp:=fun vs H Q _=>∃ (l lb:Addr)(ss:List Str)(bs:List (Str×List Str)),vs=[.ref l,.ref lb]∧SqL K H l (ss.map V.str)∧ig H lb bs∧aP ss bs ∧
 ∀ d H',H d=none→af H H'→sf H H' d ss bs→Q (.ref d) H'
theorem qq {f:Addr}{fd:FuncData}(F:Fun K "_law_tables" "_law_tables" ml f fd)(T:Txt mg):aU P w K mg base CX0 1 f fd ["_law_shades", "_law_baths"] (ln K):=by
 refine oq F f8 fun cdv A outer s H vs Q E hr h=>?_;obtain⟨l,lb,ss,bs,rfl,hl,hb,B,q⟩:=h;have hu:=eM hr
 refine⟨_,aN (pS 2 f8.nd ee)
   (aN (bq PassesOwn.never rfl (aY (pv 1)) (cz (n:=2) rfl (aH (pN 3 f8.nd) (aH (pN 4 f8.nd) bT)))
     (aj (dF hu (pv 2) (pv 3) ee rfl)
     (ah (bq PassesOwn.never rfl (cb rfl T.range (aa (al au (by rfl) T.len Ac (aa (pv 0) ae)) ae)) (pN 5 f8.nd)
       (ah (dF hu (cx hu (pv 2) (pv 3) (fun _ _=>rfl)) (pI ak (pv 0) (pv 5)) (pI ak (pv 4) (pv 5)) rfl))))))
   (ah (ap (pv 2)))),?_⟩
 try dsimp only[aF,aO]
 have hs:=aL;walk_at"";intro d hd;obtain⟨ps,hlb,hpl,hB⟩:=hb;have hb8:=B.b8;have S0:af H (upd H d (.dK [])):=af.updN hd;refine⟨⟨_,SqL.of (S0 _ _ hlb)⟩,?_⟩
 refine bn (H0:=H) (aE (SqL.of hlb)) (fun i σ' H'=>∃ (ds:List Addr)(o3 o4 o5:Option V),σ'=[some (.ref l),some (.ref lb),some (.ref d),o3,o4,o5]∧af H H'∧H' d=some (.dK (bX ((bs.map (·.1)).take i) (ds.map V.ref))) ∧
   ds.length=i∧∀ (j:Nat) r b,ds[j]?=some r→bs[j]?=some b→H r=none∧hide H' d r=some (.dK (il ss b)))
   ⟨[],none,none,none,rfl,S0,ac,rfl,(by intro j r b h;simp at h)⟩ (fun _ _ _ _ ⟨_,_,_,_,_,h,_⟩=>h) ?_ ?_
 . rintro i x σ H' hi hx ⟨ds,o3,o4,o5,rfl,hS,hH,hdl,hD⟩;rw[zX] at hx;obtain⟨pr,hpr,rfl⟩:=Option.map_eq_some_iff.mp hx;rw[be,hpl] at hi;obtain⟨b,hb⟩:∃ b,bs[i]?=some b:=⟨_,zW hi⟩;obtain⟨lo,ht,hlo⟩:=hB i pr b hpr hb;have hbm:b∈bs:=z6 hb
   have hk:(bs.map (·.1))[i]?=some b.1:=by rw[zX,hb];rfl
   have hnk:b.1∉(bs.map (·.1)).take i:=eS B.bnd hk
   have hln:((bs.map (·.1)).take i).length=(ds.map V.ref).length:=by rw[Ao,be,be,hdl];omega
   refine em (hS _ _ ht) ?_;walk_at"";refine cut (fun σ' H''=>∃ r,σ'=[some (.ref l),some (.ref lb),some (.ref d),some (.str b.1),some (.ref lo),o5]∧H' r=none∧r≠d∧H''=upd (upd H' r (.dK [])) d (.dK (bX ((bs.map (·.1)).take (i+1)) ((ds++[r]).map V.ref)))) ?_ ?_
   . walk_at"";intro r hr
     have hrd:r≠d:=fun e=>by rw[e,hH] at hr;cases hr
     refine⟨_,.inl ⟨_,Sum.inr b.1,by rw[ai (Ne.symm hrd)];exact hH,rfl,by rw[fL hln,Ao];omega,rfl⟩,r,hr,hrd,?_⟩;rw[cU _ (bV _ _ _ hnk),bw hk,z8];exact congrArg (fun z=>upd (upd H' r (HO.dK [])) d (HO.dK z)) (eT b.1 (V.ref r) hln).symm
   rintro σ2 H2 ⟨r,rfl,hr,hrd,rfl⟩;have hrH:H r=none:=hS.free hr;generalize hG:(upd (upd H' r (.dK [])) d (.dK (bX ((bs.map (·.1)).take (i+1)) ((ds++[r]).map V.ref))))=G
   have hGr:G r=some (.dK []):=by rw[←hG,ai hrd];exact ac
   have hGd:G d=some (.dK (bX ((bs.map (·.1)).take (i+1)) ((ds++[r]).map V.ref))):=by rw[←hG];exact ac
   have SG:af H G:=by rw[←hG];exact(hS.step hrH).step hd
   have SG':af (hide H' d) (hide G d):=by rw[←hG,ef];exact af.hide (af.updN hr)
   have hval:bG (bX ((bs.map (·.1)).take (i+1)) ((ds++[r]).map V.ref)) (Sum.inr b.1)=some (V.ref r):=by
     refine dH _ _ i _ _ (B.bnd.sublist (BG _ _)) ?_ ?_
     . rw[Co,if_pos (BA i)];exact hk
     . rw[zX,z9 (by omega),hdl,AL];rfl
   have hbl:b.2.length=ss.length:=B.bln b hbm;have hs12:=B.s12;walk_at"";refine⟨_,.inl (SG.seq hl),?_⟩;rw[be];refine⟨by omega,by omega,?_⟩
   refine bn (H0:=H) bu (fun k σ' H''=>∃ o5,σ'=[some (.ref l),some (.ref lb),some (.ref d),some (.str b.1),some (.ref lo),o5]∧H''=upd G r (.dK (bX (ss.take k) ((b.2.take k).map V.str))))
     ⟨o5,rfl,?_⟩ (fun _ _ _ _ ⟨_,_,e⟩=>by rw[e];exact SG.step hrH) ?_ ?_
   . funext y;by_cases e:y=r
     . rw[e,ac];exact hGr
     . rw[ai e]
   . rintro k x σ H'' hk2 rfl ⟨o5,rfl,rfl⟩
     have ek:(0:Int)+(k:Int)=k:=by omega
     rw[ek]
     have hkn:k < ss.length:=by omega
     obtain⟨sk,hsk⟩:∃ y,ss[k]?=some y:=⟨_,zW hkn⟩;obtain⟨ok,hok⟩:∃ y,b.2[k]?=some y:=⟨_,zW (by omega)⟩;have S2:af H (upd G r (.dK (bX (ss.take k) ((b.2.take k).map V.str)))):=SG.step hrH
     have hl2:(ss.take k).length=((b.2.take k).map V.str).length:=by rw[be,Ao,Ao];omega
     walk_at"";refine⟨_,SqL.of (S2 _ _ hlo),_,bZ hok,V.ref r,.inl ⟨_,Sum.inr b.1,.inl (by rw[ai (Ne.symm hrd)];exact hGd),rfl,hval.symm⟩,_,S2.seq hl,_,bZ hsk,r,rfl,_,.inl ⟨_,Sum.inr sk,ac,rfl,by rw[fL hl2,Ao];omega,rfl⟩,?_⟩;rw[ic,cU _ (bV _ _ _ (eS B.snd hsk)),bw hsk,bw hok,z8];exact congrArg (fun z=>upd G r (HO.dK z)) (eT sk (V.str ok) hl2).symm
   . rintro σ H'' ⟨o5,rfl,rfl⟩
     have e1:ss.take ((ss.length:Int)).toNat=ss:=by rw[AG,AR]
     have e2:b.2.take ((ss.length:Int)).toNat=b.2:=by rw[AG,←hbl,AR]
     rw[e1,e2];refine⟨⟨_,_,_,rfl⟩,SG.step hrH,ds++[r],by rw[ai (Ne.symm hrd)];exact hGd,by rw[zY,hdl];rfl,fun j r2 b2 hr2 hb2=>?_⟩;by_cases hj:j < i
     . rw[Af (by omega)] at hr2;have h1:=SG' _ _ (hD j r2 b2 hr2 hb2).2;have h2:H' r2=some (.dK (il ss b2)):=bP _ _ (hD j r2 b2 hr2 hb2).2
       have hne:r2≠r:=fun e=>by rw[e,hr] at h2;cases h2
       refine⟨(hD j r2 b2 hr2 hb2).1,?_⟩;unfold hide at h1 ⊢;by_cases e:r2=d
       . rw[if_pos e] at h1;cases h1
       . rw[if_neg e] at h1 ⊢;rw[ai hne];exact h1
     . have hj2:j=i:=by
         have:=(List.getElem?_eq_some_iff.mp hr2).1;rw[zY,hdl] at this;simp only[Aa] at this;omega
       subst hj2;rw[z9 (by omega),hdl,AL] at hr2;cases hr2;rw[hb] at hb2;cases hb2;refine⟨hrH,?_⟩;rw[aW hrd,ac];rfl
 . rintro σ H' ⟨ds,o3,o4,o5,rfl,hS,hH,hdl,hD⟩;rw[be,hpl] at hH hdl;walk_at"";refine q d H' hd hS ⟨ds,?_,hdl,fun j r b hr hb=>hD j r b hr hb⟩;rw[hH,AQ (by rw[be];exact z7 _)]
theorem sf.tabG {H0 H G:Hp}{d:Addr}{ss:List Str}{bs:List (Str×List Str)}(B:aP ss bs)(h:sf H0 H d ss bs)(hd0:H0 d=none)(k:∀ b u,H0 b=none→H b=some (.dK u)→G b=some (.dK u)):de G d ss (bs.map (·.1)) (lkB ss bs):=by
 obtain⟨ds,h1,h2,h3⟩:=h;exact ik.toG B ⟨ds,.inl (k _ _ hd0 h1),h2,fun i r b hr hb=>.inl (k _ _ (h3 i r b hr hb).1 (bP _ _ (h3 i r b hr hb).2))⟩
def lr (K:PySem.W.Frag)(C:Addr):Sp:=fun vs H Q _=>∃ (l lb:Addr)(ss:List Str)(bs:List (Str×List Str)),vs=[.ref l,.ref lb]∧SqL K H l (ss.map V.str)∧ig H lb bs∧aP ss bs∧∀ x H',H x=none→af H H'→bx (cZ H H') C x ss bs→Q (.ref x) H'
theorem qz {C f fI cB:Addr}{fd fdI:FuncData}(F:Fun K "_law_handed" "_law_handed" mY f fd)(T:Txt mg)(M:Mk K C fI)(GI:aU P w K mg base (CX1 P w) 4 fI fdI ["self", "shades", "baths"] (mK K C cB))(bI:eC K fdI ["self", "shades", "baths"] [])(mC:mg "Book"=some (.ref C)) :
   aU P w K mg base CX0 6 f fd ["_law_shades", "_law_baths"] (lr K C):=by
 refine oq F uT fun cdv A outer s H vs Q E hr h=>?_;obtain⟨l,lb,ss,bs,rfl,hl,⟨ps,hlb,hpl,hB⟩,B,q⟩:=h
 refine⟨_,ah (ap (mr M GI hr rfl mC bI .nil gq (aa (cu dW (by rfl) T.list (by decide) (aa (pv 0) ae)) (aa (fe (N':=["_law_title", "_law_outs"]) (pk:=[none,none]) rfl (bW.of (by rfl)) (aY (pv 1))
     (fun s H ex=>(cz (n:=2) rfl (aH (pN 0 (by show(["_law_title", "_law_outs"]:List Str).Nodup;decide)) (aH (pN 1 (by show(["_law_title", "_law_outs"]:List Str).Nodup;decide)) bT)):PG _ _ (kx K 2 (bO (bB 0) (bO (bB 1) iO)))))
     (fun s H ex=>bj (aa (pv 0) (aa (cu (dW:cw _ (.type "list") (fun xs H Q=>∃ p ys,xs=[.ref p]∧(SqL K H p ys∨SqT K H p ys)∧∀ l,H l=none→Q (.ref l) (upd H l (.lst ys)))) (by rfl) T.list (by decide) (aa (pv 1) ae)) ae)))) ae)))),?_⟩
 try dsimp only[aF,aO]
 have hs:=aL;have hb8:=B.b8;walk_at"";refine⟨_,.inl hl,fun l2 hl2=>?_⟩;have Sa:af H (upd H l2 (.lst (ss.map V.str))):=af.updN hl2;refine⟨⟨_,SqL.of (Sa _ _ hlb)⟩,fun D hD=>?_⟩;generalize hG:upd H l2 (.lst (ss.map V.str))=G at Sa hD
 have hGl:G l2=some (.lst (ss.map V.str)):=by rw[←hG];exact ac
 refine rh (H0:=G) (aE (SqL.of (Sa _ _ hlb))) (by rw[be];omega) (fun i xs σ' H'=>(∃ o1 o2,σ'=[o1,o2])∧af G H'∧H' D=some (.lst xs)∧∃ qs:List Addr,xs=qs.map V.ref∧qs.length=i∧∀ (j:Nat) p b,qs[j]?=some p→bs[j]?=some b→jH (hide H' D) p b)
   ⟨⟨none,none,rfl⟩,af.updN hD,ac,[],rfl,rfl,(by intro j p b h;simp at h)⟩ (fun i xs σ' H' ⟨_,h1,_,qs,h2,h3,_⟩=>⟨h1,by rw[h2,be];exact h3⟩) ?_ ?_
 . rintro i xs σ' H' x hi hx ⟨⟨o1,o2,rfl⟩,hS,hHD,qs,rfl,hql,hqB⟩ R hR;rw[zX] at hx;obtain⟨p,hp,rfl⟩:=Option.map_eq_some_iff.mp hx;obtain⟨b,hb⟩:∃ b,bs[i]?=some b:=⟨_,zW (by rw[be] at hi;omega)⟩;obtain⟨lo,ht,hlo⟩:=hB i p b hp hb;refine em (hS _ _ (Sa _ _ ht)) ?_;walk_at"";refine⟨_,.inl (SqL.of (hS _ _ (Sa _ _ hlo))),fun l3 hl3=>⟨by omega,fun t ht3=>?_⟩⟩;have S3:af H' (upd H' l3 (.lst (b.2.map V.str))):=af.updN hl3;have ht':H' t=none:=S3.free ht3;have S4:=S3.step (o:=.tup [.str b.1,.ref l3]) ht'
   have hl3D:l3≠D:=fun e=>by rw[e,hHD] at hl3;cases hl3
   have htD:t≠D:=fun e=>by rw[e,hHD] at ht';cases ht'
   have hl3t:l3≠t:=fun e=>by rw[←e,ac] at ht3;cases ht3
   refine hR _ _ _ (S4 _ _ hHD) ⟨⟨_,_,rfl⟩,(hS.trans S4).step hD,ac,qs++[t],by rw[z8];rfl,by rw[zY,hql];rfl,fun j p2 b2 hp2 hb2=>?_⟩;rw[ef];by_cases hj:j < i
   . rw[Af (by omega)] at hp2;exact af.bthAt (af.hide S4) (hqB j p2 b2 hp2 hb2)
   . have hj2:j=i:=by
       have:=(List.getElem?_eq_some_iff.mp hp2).1;rw[zY,hql] at this;simp only[Aa] at this;omega
     subst hj2;rw[z9 (by omega),hql,AL] at hp2;cases hp2;rw[hb] at hb2;cases hb2;refine⟨l3,?_,?_⟩
     . rw[aW htD];exact ac
     . rw[aW hl3D,ai hl3t];exact ac
 . rintro xs σ' H' ⟨_,hS,hHD,qs,rfl,hql,hqB⟩ x dx hx hdx hne;rw[be,hpl] at hql;have S5:af H' (upd (upd H' dx (.own x)) x (.ins C dx [])):=(af.updN hdx).step hx
   have S6:af H' (hide (upd (upd H' dx (.own x)) x (.ins C dx [])) x):=fun y o e=>by
     rw[aW (aG e hx)];exact S5 y o e
   refine⟨x,dx,l2,D,ss,bs,rfl,ac,SqL.of (S5 _ _ (hS _ _ hGl)),⟨qs,S5 _ _ hHD,hql,fun j p b hp hb=>af.bthAt (bP.trans S5) (hqB j p b hp hb)⟩,B.txt,fun _ H2 S2 hbk=>⟨rfl,?_⟩,fun hn=>absurd B hn⟩;exact q x H2 ((Sa.trans hS).free hx) (((Sa.trans hS).trans S6).trans S2) (af.book (gC ((Sa.trans hS).trans S6)) hbk)
def fZ (spR:Sp):Sp:=fun vs H Q _=>∃ x y,vs=[x,y]∧((∃ z u:Str,x=.str z∧y=.str u∧Q (.bl (decide (z=u))) H)∨(∃ z u:Int,x=.int z∧y=.int u∧Q (.bl (decide (z=u))) H)∨(x=.non∧y=.non∧Q (.bl true) H) ∨
 (∃ a b xs ys,x=.ref a∧y=.ref b∧((H a=some (.lst xs)∧H b=some (.lst ys))∨(H a=some (.tup xs)∧H b=some (.tup ys)))∧xs.length=ys.length∧ys.length≤1000∧(∀ (i:Nat) u v,xs[i]?=some u→ys[i]?=some v→∀ (Q':VK)(E':XK),Q' (.bl true) H→spR [u,v] H Q' E')∧Q (.bl true) H))
theorem rY:ax ["_law_found", "_law_due_here", "_law_k"] ["_law_found", "_law_due_here"] (ao qm):=sM
theorem kG {f fR:Addr}{fd fdR:FuncData}{spR:Sp}{j:Nat}(F:Fun K "_law_alike" "_law_alike" qm f fd)
   (T:Txt mg)(TBo:mg "bool"=none)
   (GR:Cl P w K mg base CX0 j "_law_alike" ["_law_found", "_law_due_here"] spR fR fdR) :
   aU P w K mg base CX0 (j+1) f fd ["_law_found", "_law_due_here"] (fZ spR):=by
 refine oq F rY fun cdv A outer s H vs Q E hr h=>?_;obtain⟨x,y,rfl,h⟩:=h;have hr76:=hr.mono (j:=j) (by omega)
 refine⟨_,(aj (aC (PW.pt (eE (aq xX (pv 1) mP (aw _)) (dc (bL (al cr (by rfl) T.isi (by decide) (aa (pv 1) (aa (cF (v:=.ty "str") rfl T.str (by decide) rfl) ae))))))) (ah (ap (pO (jw bK (al cr (by rfl) T.isi (by decide) (aa (pv 0) (aa (cF (v:=.ty "str") rfl T.str (by decide) rfl) ae))) (al cr (by rfl) T.isi (by decide) (aa (pv 1) (aa (cF (v:=.ty "str") rfl T.str (by decide) rfl) ae))) (aw _)) (vg (jw bK (pv 0) (pv 1) (aw _)))))) am)
   (aj (aC (bL (al cr (by rfl) T.isi (by decide) (aa (pv 1) (aa (cF (v:=.ty "int") rfl T.int (by decide) rfl) ae)))) (ah (ap (pO (al cr (by rfl) T.isi (by decide) (aa (pv 0) (aa (cF (v:=.ty "int") rfl T.int (by decide) rfl) ae))) (pO (xT (al cr (by rfl) T.isi (by decide) (aa (pv 0) (aa (cF (v:=.ty "bool") rfl TBo (by decide) rfl) ae)))) (vg (jw bK (pv 0) (pv 1) (aw _))))))) am)
   (aj (aC (PW.pt (jV (bL (al cr (by rfl) T.isi (by decide) (aa (pv 1) (aa (cF (v:=.ty "list") rfl T.list (by decide) rfl) ae)))) (gT (cf (bL (al cr (by rfl) T.isi (by decide) (aa (pv 0) (aa (cF (v:=.ty "list") rfl T.list (by decide) rfl) ae)))))))) (ah (ap cv)) am)
   (aj (aC (PW.pt (jV (bL (al cr (by rfl) T.isi (by decide) (aa (pv 1) (aa (cF (v:=.ty "tuple") rfl T.tuple (by decide) rfl) ae)))) (gT (cf (bL (al cr (by rfl) T.isi (by decide) (aa (pv 0) (aa (cF (v:=.ty "tuple") rfl T.tuple (by decide) rfl) ae)))))))) (ah (ap cv)) am)
   (aj (aC (aq jc (al au (by rfl) T.len Ac (aa (pv 0) ae)) (al au (by rfl) T.len Ac (aa (pv 1) ae)) (aw _)) (ah (ap cv)) am)
   (aj (bq PassesOwn.never rfl (cb rfl T.range (aa (al au (by rfl) T.len Ac (aa (pv 1) ae)) ae)) (pN 2 rY.nd) (ah (aC (cf (bL (pC GR hr76 az (aa (pI vO (pv 0) (pv 2)) (aa (pI vO (pv 1) (pv 2)) ae))))) (ah (ap cv)) am)))
   (ah (ap cv)))))))),?_⟩
 try dsimp only[aF,aO]
 have hs:=aL
 rcases h with ⟨z,u,rfl,rfl,q⟩ | ⟨z,u,rfl,rfl,q⟩ | ⟨rfl,rfl,q⟩ | ⟨a,b,xs,ys,rfl,rfl,ht,hl,hn,hE,q⟩
 . refine ar (fun _ _=>False) (fun R hR=>?_) (fun _ _ h=>h.elim);walk_at"";exact aB (fun h=>(by cases h)) (fun _=>⟨_,cD.str _,true,rfl,aB (fun _=>⟨_,cD.str _,true,rfl,_,cD.str _,true,rfl,rfl,aB (fun _=>⟨rfl,q⟩) (fun h=>absurd rfl h)⟩) (fun h=>absurd rfl h)⟩)
 . refine ar (fun σ' H'=>σ'=[some (.int z),some (.int u),none]∧H'=H) (fun R hR=>?_) ?_
   . walk_at"";exact aB (fun h=>(by cases h)) (fun _=>⟨_,cD.int _,false,rfl,aB (fun h=>(by cases h)) (fun _=>hR _ _ ⟨rfl,rfl⟩)⟩)
   rintro σ1 H1 ⟨rfl,rfl⟩;refine ar (fun _ _=>False) (fun R hR=>?_) (fun _ _ h=>h.elim);walk_at"";exact⟨_,cD.int _,true,rfl,aB (fun _=>⟨_,cD.int _,true,rfl,aB (fun _=>⟨_,cD.int _,false,rfl,aB (fun _=>⟨rfl,q⟩) (fun h=>absurd rfl h)⟩) (fun h=>absurd rfl h)⟩) (fun h=>absurd rfl h)⟩
 . refine ar (fun _ _=>False) (fun R hR=>?_) (fun _ _ h=>h.elim);walk_at"";exact⟨_,cD.non,false,rfl,_,cD.non,false,rfl,rfl,aB (fun _=>⟨rfl,by rw[decide_eq_true trivial];exact q⟩) (fun h=>absurd rfl h)⟩
 . refine ar (fun σ' H'=>σ'=[some (.ref a),some (.ref b),none]∧H'=H) (fun R hR=>?_) ?_
   . walk_at"";refine aB (fun h=>(by cases h)) (fun _=>?_)
     rcases ht with ⟨ha,hb⟩ | ⟨ha,hb⟩
     . exact⟨_,cD.lst hb,false,rfl,aB (fun h=>(by cases h)) (fun _=>hR _ _ ⟨rfl,rfl⟩)⟩
     . exact⟨_,cD.tup hb,false,rfl,aB (fun h=>(by cases h)) (fun _=>hR _ _ ⟨rfl,rfl⟩)⟩
   rintro σ1 H1 ⟨rfl,rfl⟩;refine ar (fun σ' H'=>σ'=[some (.ref a),some (.ref b),none]∧H'=H1) (fun R hR=>?_) ?_
   . walk_at""
     rcases ht with ⟨ha,hb⟩ | ⟨ha,hb⟩
     . exact⟨_,cD.lst hb,false,rfl,aB (fun h=>(by cases h)) (fun _=>hR _ _ ⟨rfl,rfl⟩)⟩
     . exact⟨_,cD.tup hb,false,rfl,aB (fun h=>(by cases h)) (fun _=>hR _ _ ⟨rfl,rfl⟩)⟩
   rintro σ1 H2 ⟨rfl,rfl⟩;refine ar (fun σ' H'=>σ'=[some (.ref a),some (.ref b),none]∧H'=H2) (fun R hR=>?_) ?_
   . walk_at""
     rcases ht with ⟨ha,hb⟩ | ⟨ha,hb⟩
     . exact⟨_,cD.lst hb,true,rfl,aB (fun _=>⟨_,cD.lst ha,true,rfl,aB (fun h=>(by cases h)) (fun _=>hR _ _ ⟨rfl,rfl⟩)⟩) (fun h=>absurd rfl h)⟩
     . exact⟨_,cD.tup hb,false,rfl,aB (fun h=>(by cases h)) (fun _=>hR _ _ ⟨rfl,rfl⟩)⟩
   rintro σ1 H3 ⟨rfl,rfl⟩;refine ar (fun σ' H'=>σ'=[some (.ref a),some (.ref b),none]∧H'=H3) (fun R hR=>?_) ?_
   . walk_at""
     rcases ht with ⟨ha,hb⟩ | ⟨ha,hb⟩
     . exact⟨_,cD.lst hb,false,rfl,aB (fun h=>(by cases h)) (fun _=>hR _ _ ⟨rfl,rfl⟩)⟩
     . exact⟨_,cD.tup hb,true,rfl,aB (fun _=>⟨_,cD.tup ha,true,rfl,aB (fun h=>(by cases h)) (fun _=>hR _ _ ⟨rfl,rfl⟩)⟩) (fun h=>absurd rfl h)⟩
   rintro σ1 H4 ⟨rfl,rfl⟩;have sA:SqL K H4 a xs∨SqT K H4 a xs:=ht.elim (fun h=>.inl (SqL.of h.1)) (fun h=>.inr (SqT.of h.1));have sB:SqL K H4 b ys∨SqT K H4 b ys:=ht.elim (fun h=>.inl (SqL.of h.2)) (fun h=>.inr (SqT.of h.2));refine ar (fun σ' H'=>σ'=[some (.ref a),some (.ref b),none]∧H'=H4) (fun R hR=>?_) ?_
   . walk_at"";exact⟨_,sA,_,sB,rfl,aB (fun h=>absurd (by rw[hl]) h) (fun _=>hR _ _ ⟨rfl,rfl⟩)⟩
   rintro σ1 H5 ⟨rfl,rfl⟩;refine ar (fun σ' H'=>∃ o,σ'=[some (.ref a),some (.ref b),o]∧H'=H5) (fun R hR=>?_) ?_
   . walk_at"";refine⟨_,sB,by omega,by omega,?_⟩;rw[AG];refine a8 (H0:=H5) bu (fun i σ' H'=>∃ o,σ'=[some (.ref a),some (.ref b),o]∧H'=H5) ⟨none,rfl,rfl⟩ (fun _ _ _ _ ⟨_,_,h⟩=>h▸af.refl _) ?_ ?_
     . rintro i x σ H' hi rfl ⟨o,rfl,rfl⟩ R2 hR2;obtain⟨u,hu0⟩:∃ e,xs[i]?=some e:=⟨_,zW (by omega)⟩;obtain⟨v,hv0⟩:∃ e,ys[i]?=some e:=⟨_,zW (by omega)⟩
       have hz:(0:Int)+(i:Int)=i:=by omega
       rw[hz];walk_at"";have k1:∀ Q':VK,Q' u H'→rIx K (V.ref a) (V.int i) H' Q':=fun Q' q'=>sA.elim (fun s=>.inl ⟨xs,u,s,bS hu0,q'⟩) (fun s=>.inr (.inl ⟨xs,u,s,bS hu0,q'⟩));have k2:∀ Q':VK,Q' v H'→rIx K (V.ref b) (V.int i) H' Q':=fun Q' q'=>sB.elim (fun s=>.inl ⟨ys,v,s,bS hv0,q'⟩) (fun s=>.inr (.inl ⟨ys,v,s,bS hv0,q'⟩));exact k1 _ (k2 _ (hE i u v hu0 hv0 _ _ ⟨true,rfl,aB (fun h=>by cases h) (fun _=>hR2 _ _ ⟨_,rfl,rfl⟩)⟩))
     . rintro σ H' ⟨o,rfl,rfl⟩;exact hR _ _ ⟨o,rfl,rfl⟩
   rintro σ2 H6 ⟨o,rfl,rfl⟩;walk_at"";exact q
theorem mU {h:Hs}{d e:Int}(hd:∀ x∈h.dp,x.1≤d)(he:d≤e) (c:Str):aV h c e=aV h c d:=by
 have:aX h.dp c e=aX h.dp c d:=by
   unfold aX
   congr 1
   refine List.filter_congr fun x hx=>?_;have:=hd x hx;rw[decide_eq_true (show x.1≤e by omega),decide_eq_true this]
 unfold aV;rw[this]
theorem tR {H:Hp}{ps:List Addr}{L:List (List V)}{p l:Addr}{e:List V}(hT:cn H ps L)(hl:H l=some (.lst (ps.map V.ref)))(hp:H p=none):cn (upd (upd H p (.tup e)) l (.lst ((ps++[p]).map V.ref))) (ps++[p]) (L++[e]):=by
 have hlp:p≠l:=fun z=>by rw[z,hl] at hp;cases hp
 have hlen:=hT.1;refine⟨by rw[zY,zY,hT.1];rfl,fun i q x hq hx=>?_⟩;by_cases hi:i < ps.length
 . rw[Af hi] at hq;rw[Af (by omega)] at hx;have h1:=hT.2 i q x hq hx;rw[ai (fun z=>by rw[z,hl] at h1;cases h1),ai (fun z=>by rw[z,hp] at h1;cases h1)];exact h1
 . rw[z9 (by omega)] at hq hx
   have hi0:i - ps.length=0:=by
     have:=(List.getElem?_eq_some_iff.mp hq).1;simp at this;omega
   rw[hi0] at hq;rw[show i - L.length=0 by omega] at hx;cases hq;cases hx;rw[ai hlp,ac]
theorem pw {K:PySem.W.Frag}{H:Hp}{a:Addr}{x y z:V}{i j k:Nat}{σ:St}{Q:St→Hp→Prop}(h:H a=some (.tup [x,y,z]))(q:Q (((σ.set i (some x)).set j (some y)).set k (some z)) H):kx K 3 (bO (bB i) (bO (bB j) (bO (bB k) iO))) (.ref a) σ H Q :=
 ⟨a,[x,y,z],rfl,SqT.of h,rfl,x,[y,z],rfl,y,[z],rfl,z,[],rfl,rfl,q⟩
theorem cI {B0 G:Hp}{x:Addr}{o:HO}(S:af B0 G)(h:B0 x=none):af B0 (upd G x o):=fun b u e=>by
 rw[ai (fun z=>by rw[z,h] at e;cases e)];exact S _ _ e
theorem de.congr {H:Hp}{d:Addr}{ss ns:List Str}{lk lk2:Str→Str→Str}(h:de H d ss ns lk)(e:∀ n∈ns,∀ z∈ss,lk n z=lk2 n z):de H d ss ns lk2:=by
 obtain⟨kvs,h1,h2,h3⟩:=h;refine⟨kvs,h1,h2,fun n hn=>?_⟩;obtain⟨r,kv,e1,e2,e3⟩:=h3 n hn;exact⟨r,kv,e1,e2,fun z hz=>by rw[←e n hn z hz];exact e3 z hz⟩
abbrev LK:=Str→Str→Str
def fJ (T:List (Int×LK)) (d:Int):Option LK:=((T.filter fun e=>decide (e.1≤d)).getLast?).map (·.2)
theorem fP (T:List (Int×LK))(e:Int×LK) (d:Int):fJ (T++[e]) d=if e.1≤d then some e.2 else fJ T d:=by
 unfold fJ;rw[A7];by_cases h:e.1≤d
 . rw[if_pos h,A9 (by simp[h]),Bu,List.getLast?_append];rfl
 . rw[if_neg h,BV (by simp[h]),Bu,A2]
structure TOk (ss ns:List Str) (h:Hs)(T:List (Int×LK)):Prop where
 t0:∃ e r,T=e::r
 to:∀ d,1≤d→∃ lk,fJ T d=some lk∧∀ n∈ns,∀ z∈ss,lk n z=lkB (aR h.bk d).1 (aR h.bk d).2 n z
 tl:T.length≤1000
structure KR (G:Hp)(lk kc kd kt lo:Addr)(so ns ss:List Str) (h:Hs)(T:List (Int×LK)):Prop where
 hlk:G lk=some (.lst [.ref kc,.ref kd,.ref kt,.int h.day,.ref lo])
 hlo:G lo=some (.lst (so.map V.str))
 hkc:Rd G kc (.dK (clV h.cl))
 hkd:∃ ps:List Addr,G kd=some (.lst (ps.map V.ref))∧cn G ps (h.dp.map fun e=>[.int e.1,.str e.2.1,.str e.2.2.1])
 hkt:∃ ps ds:List Addr,G kt=some (.lst (ps.map V.ref))∧ps.length=T.length∧ds.length=T.length∧∀ (i:Nat) p d e,ps[i]?=some p→ds[i]?=some d→T[i]?=some e→G p=some (.tup [.int e.1,.ref d])∧de (hide G kc) d ss ns e.2
theorem xp {G G':Hp}(S:Fz G G')(c:Addr):Fz (hide G c) (hide G' c):=by
 have k:∀ {b o},hide G c b=some o→b≠c∧G b=some o:=fun {b o} h=>by
   by_cases e:b=c
   . rw[e] at h;unfold hide at h;rw[if_pos rfl] at h;cases h
   . exact⟨e,by rw[aW e] at h;exact h⟩
 refine⟨fun b o h n=>?_,fun b o h=>?_⟩
 . obtain⟨e,h⟩:=k h;rw[aW e];exact S.1 b o h n
 . have hb:b≠c∧Rd G b o:=by
     rcases h with h | ⟨u,h⟩
     . exact⟨(k h).1,.inl (k h).2⟩
     . exact⟨(k h).1,.inr ⟨u,(k h).2⟩⟩
   rcases S.2 b o hb.2 with h | ⟨u,h⟩
   . exact .inl (by rw[aW hb.1];exact h)
   . exact .inr ⟨u,by rw[aW hb.1];exact h⟩
theorem cn.fz {H H':Hp}{ps:List Addr}{L:List (List V)}(S:Fz H H')(h:cn H ps L):cn H' ps L:=⟨h.1,fun i p e hp he=>S.1 _ _ (h.2 i p e hp he) (fun _ e=>by cases e)⟩
theorem KR.fz {G G':Hp}{lk kc kd kt lo:Addr}{so ns ss:List Str}{h:Hs}{T:List (Int×LK)}(R:KR G lk kc kd kt lo so ns ss h T)(S:Fz G G'):KR G' lk kc kd kt lo so ns ss h T:=by
 obtain⟨h1,h2,h3,⟨ps,h4,h5⟩,⟨qs,ds,h6,h7,h8,h9⟩⟩:=R;exact⟨S.1 _ _ h1 (fun _ e=>by cases e),S.1 _ _ h2 (fun _ e=>by cases e),S.2 _ _ h3,⟨ps,S.1 _ _ h4 (fun _ e=>by cases e),h5.fz S⟩,⟨qs,ds,S.1 _ _ h6 (fun _ e=>by cases e),h7,h8,fun i p d e a b c=>⟨S.1 _ _ (h9 i p d e a b c).1 (fun _ e=>by cases e),Fz.tabG (xp S kc) (h9 i p d e a b c).2⟩⟩⟩
theorem KR.same {G G':Hp}{lk kc kd kt lo:Addr}{so ns ss:List Str}{h:Hs}{T:List (Int×LK)}(R:KR G lk kc kd kt lo so ns ss h T)(S:af G G'):KR G' lk kc kd kt lo so ns ss h T:=R.fz (af.fz S)
structure fU (h:Hs):Prop where
 srt:h.dp.Pairwise (fun a b=>a.1≤b.1)
 out:∀ (i:Nat) e,h.dp[i]?=some e→e.2.2.2=lkB (aR h.bk e.1).1 (aR h.bk e.1).2 e.2.2.1 (aV { h with dp:=h.dp.take i } e.2.1 e.1)
theorem nA {h:Hs}{c:Str}{d:Int}{x:Int×Str×Str}(hl:(aX h.dp c d).getLast?=some x):aV h c d=x.2.2:=by
 unfold aV;rw[hl]
theorem f9 {h:Hs}{c:Str}{d:Int}(hl:aX h.dp c d=[]):aV h c d=(h.cl.lookup c).getD ⟨#[]⟩:=by
 unfold aV;rw[hl];rfl
def iK:Sp:=fun vs H Q _=>∃ (G:Hp)(lk kc kd kt lo:Addr)(so ns ss:List Str) (h:Hs)(Tb:List (Int×LK)) (day:Int),vs=[.ref lk,.int day]∧af G H∧KR G lk kc kd kt lo so ns ss h Tb∧TOk ss ns h Tb∧1≤day∧∀ d,de (hide G kc) d ss ns (lkB (aR h.bk day).1 (aR h.bk day).2)→Q (.ref d) H
theorem eX:ax ["_law_kept", "_law_day_here", "_law_found", "_law_since", "_law_tables_here"] ["_law_kept", "_law_day_here"] (ao jY):=sM
theorem qV {f:Addr}{fd:FuncData}(F:Fun K "_law_in_force" "_law_in_force" jY f fd)
   (T:Txt mg)  :
   aU P w K mg base CX0 1 f fd ["_law_kept", "_law_day_here"] iK:=by
 refine oq F eX fun cdv A outer s H vs Q E hr h=>?_;obtain⟨G,lk,kc,kd,kt,lo,so,ns,ss,h,Tb,day,rfl,SG,KR0,TO,hd,q⟩:=h
 refine⟨_,(aj (pS 2 eX.nd (pI aI (pI ak (pI ak (pv 0) ag) ag) ag))
   (aj (bq PassesOwn.never rfl (aY (pI ak (pv 0) ag)) (cz (n:=2) rfl (aH (pN 3 eX.nd) (aH (pN 4 eX.nd) bT))) (ah (aC (aq rj (pv 3) (pv 1) (aw _)) (ah (pS 2 eX.nd (pv 4))) am)))
   (ah (ap (pv 2))))),?_⟩
 try dsimp only[aF,aO]
 have hs:=aL;obtain⟨ps,ds,hkt,hpl,hdl,hE⟩:=KR0.hkt;obtain⟨e0,Tr,hTe⟩:=TO.t0
 have hp0:0 < ps.length:=by rw[hpl,hTe];exact CV _
 obtain⟨p0,hp0'⟩:∃ p,ps[0]?=some p:=⟨_,zW hp0⟩;obtain⟨d0,hd0'⟩:∃ d,ds[0]?=some d:=⟨_,zW (by omega)⟩;obtain⟨ht0,_⟩:=hE 0 p0 d0 e0 hp0' hd0' (by rw[hTe];rfl);refine ar (fun σ' H'=>σ'=[some (.ref lk),some (.int day),some (.ref d0),none,none]∧H'=H) (fun R hR=>?_) ?_
 . walk_at"";exact⟨_,SqL.of (SG _ _ KR0.hlk),_,rfl,kt,rfl,_,SqL.of (SG _ _ hkt),_,bS (j:=0) (by rw[zX,hp0'];rfl),p0,rfl,_,SqT.of (SG _ _ ht0),_,rfl,hR _ _ ⟨rfl,rfl⟩⟩
 rintro σ1 H1 ⟨rfl,rfl⟩;refine ar (fun σ' H'=>∃ (d:Addr)(o3 o4:Option V),σ'=[some (.ref lk),some (.int day),some (.ref d),o3,o4]∧H'=H1∧de (hide G kc) d ss ns (lkB (aR h.bk day).1 (aR h.bk day).2)) (fun R hR=>?_) ?_
 . walk_at"";refine⟨_,SqL.of (SG _ _ KR0.hlk),_,rfl,kt,rfl,⟨_,SqL.of (SG _ _ hkt)⟩,?_⟩;refine a8 (H0:=H1) (aE (SqL.of (SG _ _ hkt))) (fun i σ' H'=>∃ (d:Addr)(o3 o4:Option V),σ'=[some (.ref lk),some (.int day),some (.ref d),o3,o4]∧H'=H1∧∀ b,fJ (Tb.take i) day=some b→de (hide G kc) d ss ns b) ⟨d0,none,none,rfl,rfl,fun b hb=>by cases hb⟩ (fun _ _ _ _ ⟨_,_,_,_,e,_⟩=>by rw[e];exact af.refl _) ?_ ?_
   . rintro i x σ' H' hi hx ⟨d,o3,o4,rfl,rfl,hb⟩ R2 hR2;rw[zX] at hx;obtain⟨p,hp,rfl⟩:=Option.map_eq_some_iff.mp hx;rw[be] at hi;obtain⟨e,he⟩:∃ e,Tb[i]?=some e:=⟨_,zW (by omega)⟩;obtain⟨d1,hd1⟩:∃ d,ds[i]?=some d:=⟨_,zW (by omega)⟩;obtain⟨ht,hG⟩:=hE i p d1 e hp hd1 he;refine em (SG _ _ ht) ?_;walk_at"";refine aB (fun hle=>hR2 _ _ ⟨d1,_,_,rfl,rfl,fun b hb2=>?_⟩) (fun hle=>hR2 _ _ ⟨d,_,_,rfl,rfl,fun b hb2=>hb b ?_⟩)
     . rw[bw he,fP,if_pos hle] at hb2;cases hb2;exact hG
     . rw[bw he,fP,if_neg hle] at hb2;exact hb2
   . rintro σ' H' ⟨d,o3,o4,rfl,rfl,hb⟩;rw[be,hpl,AR] at hb;obtain⟨b,hb1,hb2⟩:=TO.to day hd;exact hR _ _ ⟨d,_,_,rfl,rfl,de.congr (hb b hb1) hb2⟩
 rintro σ2 H2 ⟨d,o3,o4,rfl,rfl,hd2⟩;walk_at"";exact q d hd2
def eZ:Sp:=fun vs H Q _=>∃ (lk kc kd kt lo:Addr)(so ns ss:List Str) (h:Hs)(Tb:List (Int×LK)) (c:Str) (day:Int),vs=[.ref lk,.str c,.int day]∧KR H lk kc kd kt lo so ns ss h Tb∧TOk ss ns h Tb∧fU h∧bH ss ns h∧(∀ e∈h.dp,e.2.2.1∈ns)∧c∈h.cl.map (·.1)∧∀ l ps H',af H H'→H l=none→H' l=some (.lst (ps.map V.ref))→cn H' ps ((aX h.dp c day).map fun e=>[.int e.1,.str e.2.1,.str e.2.2])→Q (.ref l) H'
theorem cQ:ax ["_law_kept", "_law_cloth", "_law_day_here", "_law_at_here", "_law_told", "_law_on", "_law_who", "_law_bath"] ["_law_kept", "_law_cloth", "_law_day_here"] (ao iG):=sM
theorem oY {f fIF:Addr}{fd fdIF:FuncData}(F:Fun K "_law_trail_due" "_law_trail_due" iG f fd)
   (T:Txt mg)
   (GIF:Cl P w K mg base CX0 1 "_law_in_force" ["_law_kept", "_law_day_here"] iK fIF fdIF) :
   aU P w K mg base CX0 2 f fd ["_law_kept", "_law_cloth", "_law_day_here"] eZ:=by
 refine oq F cQ fun cdv A outer s H vs Q E hr h=>?_;obtain⟨lk,kc,kd,kt,lo,so,ns,ss,h,Tb,c,day,rfl,KR0,TO,HR,ho,hbn,hc,q⟩:=h;have hu:=eM hr;have hr1:=hr.mono (j:=1) (by omega)
 refine⟨_,(aj (pS 3 cQ.nd (cx hu (pI ak (pv 0) ag) (pv 1) (fun _ _=>rfl)))
   (aj (pS 4 cQ.nd (ba ae))
   (aj (bq PassesOwn.never rfl (aY (pI ak (pv 0) ag)) (cz (n:=3) rfl (aH (pN 5 cQ.nd) (aH (pN 6 cQ.nd) (aH (pN 7 cQ.nd) bT)))) (ah (aC (PW.pt (jV (aq bK (pv 6) (pv 1) (aw _)) (gT (aq rj (pv 5) (pv 2) (aw _))))) (aN (pS 3 cQ.nd (cx hu (cx hu (pC GIF hr1 az (aa (pv 0) (aa (pv 5) ae))) (pv 7) (fun _ _=>rfl)) (pv 3) (fun _ _=>rfl)))
   (ah (aM (eI Aw AE AF bN (pv 4) (aa (bj (aa (pv 5) (aa (pv 7) (aa (pv 3) ae)))) ae))))) am)))
   (ah (ap (pv 4)))))),?_⟩
 try dsimp only[aF,aO]
 have hs:=aL;obtain⟨ps,hkd,hT⟩:=KR0.hkd;have hpl:=hT.1;rw[be] at hpl;have hdl:=ho.dl
 obtain⟨z0,hz0⟩:∃ z0,(h.cl.lookup c)=some z0:=by
   obtain⟨x,hx,rfl⟩:=List.mem_map.mp hc;exact⟨_,dA ho.cnd hx⟩
 have hz0m:(c,z0)∈h.cl:=by
   obtain⟨x,hx,hxe⟩:=List.mem_map.mp hc;have:=dA ho.cnd hx;rw[hxe,hz0] at this;cases this;rw[←hxe];exact hx
 have hval:bG (clV h.cl) (Sum.inr c)=some (V.str z0):=eB ho.cnd hz0m;refine ar (fun σ' H'=>σ'=[some (.ref lk),some (.str c),some (.int day),some (.str z0),none,none,none,none]∧H'=H) (fun R hR=>?_) ?_
 . walk_at"";exact⟨_,SqL.of KR0.hlk,_,rfl,kc,rfl,_,.inl ⟨_,Sum.inr c,KR0.hkc,rfl,hval.symm⟩,hR _ _ ⟨rfl,rfl⟩⟩
 rintro σ1 H1 ⟨rfl,rfl⟩;refine ar (fun σ' H'=>∃ lt,H1 lt=none∧σ'=[some (.ref lk),some (.str c),some (.int day),some (.str z0),some (.ref lt),none,none,none]∧H'=upd H1 lt (.lst [])) (fun R hR=>?_) ?_
 . walk_at"";exact⟨by omega,fun p hp=>hR _ _ ⟨p,hp,rfl,rfl⟩⟩
 rintro σ2 H2 ⟨lt,hlt,rfl,rfl⟩;have S2:=af.updN (o:=.lst []) hlt;have hlt2:upd H1 lt (.lst []) lt=some (.lst []):=ac;generalize upd H1 lt (.lst [])=H2 at *;have hkd2:=S2 _ _ hkd;refine ar (fun σ' H'=>∃ (at_:Str)(qs:List Addr)(o5 o6 o7:Option V),σ'=[some (.ref lk),some (.str c),some (.int day),some (.str at_),some (.ref lt),o5,o6,o7]∧af H1 H'∧H' lt=some (.lst (qs.map V.ref))∧cn H' qs ((aX h.dp c day).map fun e=>[.int e.1,.str e.2.1,.str e.2.2])) (fun R hR=>?_) ?_
 . walk_at"";refine⟨_,SqL.of (S2 _ _ KR0.hlk),_,rfl,kd,rfl,⟨_,SqL.of hkd2⟩,?_⟩;refine a8 (H0:=H1) (aE (SqL.of hkd)) (fun i σ' H'=>∃ (qs:List Addr)(o5 o6 o7:Option V),σ'=[some (.ref lk),some (.str c),some (.int day),some (.str (aV { h with dp:=h.dp.take i } c day)),some (.ref lt),o5,o6,o7]∧af H1 H'∧aV { h with dp:=h.dp.take i } c day∈ss∧H' lt=some (.lst (qs.map V.ref))∧cn H' qs ((aX (h.dp.take i) c day).map fun e=>[.int e.1,.str e.2.1,.str e.2.2])) ⟨[],none,none,none,?_,S2,?_,hlt2,rfl,fun _ _ _ h=>by cases h⟩ (fun _ _ _ _ ⟨_,_,_,_,_,h,_⟩=>h) ?_ ?_
   . rw[show aV { h with dp:=h.dp.take 0 } c day=z0 from by rw[f9 rfl];show(h.cl.lookup c).getD _=z0;rw[hz0];rfl]
   . rw[show aV { h with dp:=h.dp.take 0 } c day=z0 from by rw[f9 rfl];show(h.cl.lookup c).getD _=z0;rw[hz0];rfl];exact ho.csh _ hz0m
   . rintro i x σ' H' hi hx ⟨qs,o5,o6,o7,rfl,hS,hat,hl,hTq⟩ R2 hR2;rw[zX] at hx;obtain⟨p,hp,rfl⟩:=Option.map_eq_some_iff.mp hx;rw[be] at hi;obtain⟨e,he⟩:∃ e,h.dp[i]?=some e:=⟨_,zW (by omega)⟩;have ht:=hS _ _ (hT.2 i p _ hp (by rw[zX,he];rfl));have hem:=z6 he
     have hts:aX (h.dp.take (i+1)) c day=aX (h.dp.take i) c day++(if e.2.1=c∧e.1≤day then[(e.1,e.2.2.1,e.2.2.2)] else[]):=by
       rw[bw he];exact iZ (h.dp.take i) e.1 e.2.1 e.2.2.1 e.2.2.2 c day
     have hss:aV { h with dp:=h.dp.take (i+1) } c day=if e.2.1=c∧e.1≤day then e.2.2.2 else aV { h with dp:=h.dp.take i } c day:=by
       rw[bw he];exact i6 { h with dp:=h.dp.take i } e.1 e.2.1 e.2.2.1 e.2.2.2 c day h.day
     have hql:qs.length≤i:=by
       rw[hTq.1,be];unfold aX;rw[be];exact AO (Bf _ _) (by rw[Ao];omega)
     refine pw ht ?_;walk_at"";by_cases hce:e.2.1=c∧e.1≤day
     . obtain⟨hc1,hc2⟩:=hce;rw[if_pos ⟨hc1,hc2⟩] at hts hss;have hout:=HR.out i e he
       have hsh:aV { h with dp:=h.dp.take i } e.2.1 e.1=aV { h with dp:=h.dp.take i } c day:=by
         rw[hc1];refine(mU (fun x hx=>?_) hc2 c).symm;obtain⟨j,hj⟩:=AX hx
         have hji:j < i:=by
           have:=(List.getElem?_eq_some_iff.mp hj).1;rw[Ao] at this;omega
         have hj2:h.dp[j]?=some x:=by
           have:=hj;rw[List.getElem?_take_of_lt hji] at this;exact this
         exact List.pairwise_iff_getElem.mp HR.srt j i (List.getElem?_eq_some_iff.mp hj2).1 (List.getElem?_eq_some_iff.mp he).1 hji |> fun k=>by
           rw[(List.getElem?_eq_some_iff.mp hj2).2,(List.getElem?_eq_some_iff.mp he).2] at k;exact k
       rw[hsh] at hout;refine⟨rfl,aB (fun _=>aB (fun _=>?_) (fun h=>absurd hc2 h)) (fun h=>absurd hc1 h)⟩;refine⟨_,lk,kc,kd,kt,lo,so,ns,ss,h,Tb,e.1,rfl,af.refl _,KR0.same hS,TO,(ho.dd e hem).1,fun d hG0=>?_⟩;have hG:=Fz.tabG (af.fz bP) hG0;obtain⟨r,g1,g2⟩:=hG.get (hbn e hem) hat;rw[←hout] at g2;refine⟨d,rfl,_,g1,r,rfl,_,g2,.inl ⟨rfl,_,SqL.of hl⟩,by omega,fun p1 hp1=>⟨_,by rw[ai (aG hl hp1)];exact hl,by rw[be];omega,?_⟩⟩;rw[show qs.map V.ref++[V.ref p1]=(qs++[p1]).map V.ref by rw[z8];rfl];refine hR2 _ _ ⟨qs++[p1],_,_,_,by rw[hss],?_,by rw[hss];exact ho.ds e hem,ac,?_⟩
       . exact cI (hS.trans (af.updN hp1)) hlt
       . rw[hts,z8 (f:=fun e:Int×Str×Str=>[V.int e.1,V.str e.2.1,V.str e.2.2])];exact tR hTq hl hp1
     . rw[if_neg hce] at hts hss;rw[A2] at hts;have hno:R2 [some (.ref lk),some (.str c),some (.int day),some (.str (aV { h with dp:=h.dp.take i } c day)),some (.ref lt),some (.int e.1),some (.str e.2.1),some (.str e.2.2.1)] H':=hR2 _ _ ⟨qs,_,_,_,by rw[hss],hS,by rw[hss];exact hat,hl,by rw[hts];exact hTq⟩;exact⟨rfl,aB (fun h1=>aB (fun h2=>absurd ⟨h1,h2⟩ hce) (fun _=>hno)) (fun _=>hno)⟩
   . rintro σ' H' ⟨qs,o5,o6,o7,rfl,hS,hat,hl,hTq⟩;rw[be,hpl,AR] at hTq;exact hR _ _ ⟨_,qs,_,_,_,rfl,hS,hl,hTq⟩
 rintro σ3 H3 ⟨at_,qs,o5,o6,o7,rfl,S3,hl3,hT3⟩;walk_at"";exact q lt qs H3 S3 hlt hl3 hT3
def fg:Sp:=fun vs H Q _=>∃ (lk kc kd kt lo:Addr)(so ns ss:List Str) (h:Hs)(Tb:List (Int×LK)) (c:Str) (day:Int),vs=[.ref lk,.str c,.int day]∧KR H lk kc kd kt lo so ns ss h Tb∧TOk ss ns h Tb∧fU h∧bH ss ns h∧(∀ e∈h.dp,e.2.2.1∈ns)∧c∈h.cl.map (·.1)∧∀ H',af H H'→Q (.str (aV h c day)) H'
theorem jD:ax ["_law_kept", "_law_cloth", "_law_day_here", "_law_told"] ["_law_kept", "_law_cloth", "_law_day_here"] (ao iM):=sM
theorem nz {f fTD:Addr}{fd fdTD:FuncData}(F:Fun K "_law_shade_due" "_law_shade_due" iM f fd)
   (T:Txt mg)
   (GTD:Cl P w K mg base CX0 2 "_law_trail_due" ["_law_kept", "_law_cloth", "_law_day_here"] eZ fTD fdTD) :
   aU P w K mg base CX0 3 f fd ["_law_kept", "_law_cloth", "_law_day_here"] fg:=by
 refine oq F jD fun cdv A outer s H vs Q E hr h=>?_;obtain⟨lk,kc,kd,kt,lo,so,ns,ss,h,Tb,c,day,rfl,KR0,TO,HR,ho,hbn,hc,q⟩:=h;have hu:=eM hr;have hr2:=hr.mono (j:=2) (by omega)
 refine⟨_,(aj (pS 3 jD.nd (pC GTD hr2 az (aa (pv 0) (aa (pv 1) (aa (pv 2) ae)))))
   (aj (aC (aq (vc (B1 hu)) (pv 3) (ba ae) (aw _)) (ah (ap (cx hu (pI ak (pv 0) ag) (pv 1) (fun _ _=>rfl)))) am)
   (ah (ap (pI aI (pI ak (pv 3) (d9 cK ag)) ag))))),?_⟩
 try dsimp only[aF,aO]
 have hs:=aL
 obtain⟨z0,hz0⟩:∃ z0,(h.cl.lookup c)=some z0:=by
   obtain⟨x,hx,rfl⟩:=List.mem_map.mp hc;exact⟨_,dA ho.cnd hx⟩
 have hz0m:(c,z0)∈h.cl:=by
   obtain⟨x,hx,hxe⟩:=List.mem_map.mp hc;have:=dA ho.cnd hx;rw[hxe,hz0] at this;cases this;rw[←hxe];exact hx
 have hval:bG (clV h.cl) (Sum.inr c)=some (V.str z0):=eB ho.cnd hz0m;refine ar (fun σ' H'=>∃ (l:Addr)(ps:List Addr),σ'=[some (.ref lk),some (.str c),some (.int day),some (.ref l)]∧af H H'∧H' l=some (.lst (ps.map V.ref))∧cn H' ps ((aX h.dp c day).map fun e=>[.int e.1,.str e.2.1,.str e.2.2])) (fun R hR=>?_) ?_
 . walk_at"";exact⟨lk,kc,kd,kt,lo,so,ns,ss,h,Tb,c,day,rfl,KR0,TO,HR,ho,hbn,hc,fun l ps H' S _ hl hT=>hR _ _ ⟨l,ps,rfl,S,hl,hT⟩⟩
 rintro σ1 H1 ⟨l,ps,rfl,S1,hl,hT⟩;have KR1:=KR0.same S1;have hpl:=hT.1;rw[be] at hpl;refine ar (fun σ' H'=>aX h.dp c day≠[]∧σ'=[some (.ref lk),some (.str c),some (.int day),some (.ref l)]∧af H1 H') (fun R hR=>?_) ?_
 . walk_at"";refine⟨by omega,fun p hp=>?_⟩;have Sp:=af.updN (o:=.lst []) hp;refine⟨_,SqL.of (Sp _ _ hl),[],SqL.of ac,?_,?_⟩
   . by_cases e:ps=[]
     . exact .inr (.inr (by rw[e];rfl))
     . exact .inr (.inl (by rw[be];exact fun z=>e (List.length_eq_zero_iff.mp z)))
   rw[ia];by_cases hne:aX h.dp c day=[]
   . have hpe:ps=[]:=List.length_eq_zero_iff.mp (by rw[hpl,hne];rfl);rw[hpe,if_pos (by decide)];refine⟨_,SqL.of (Sp _ _ KR1.hlk),_,rfl,kc,rfl,_,.inl ⟨_,Sum.inr c,af.rd Sp KR1.hkc,rfl,hval.symm⟩,?_⟩;have:=q _ (S1.trans Sp);rw[f9 hne,hz0] at this;exact this
   . have hpe:ps≠[]:=fun e=>hne (List.length_eq_zero_iff.mp (by rw[←hpl,e];rfl));rw[if_neg (by rw[decide_eq_false (fun e=>hpe (List.map_eq_nil_iff.mp e))];decide)];exact hR _ _ ⟨hne,rfl,Sp⟩
 rintro σ2 H2 ⟨hne,rfl,S2⟩;obtain⟨x,hx⟩:∃ x,(aX h.dp c day).getLast?=some x:=⟨_,AY hne⟩;walk_at"";have hpe:ps≠[]:=fun e=>hne (List.length_eq_zero_iff.mp (by rw[←hpl,e];rfl));obtain⟨ps0,p0,rfl⟩:∃ s q,ps=s++[q]:=⟨_,_,(Ap hpe).symm⟩;obtain⟨L0,rfl'⟩:∃ L0,aX h.dp c day=L0++[x]:=⟨_,by rw[AY hne] at hx;rw[←Option.some.inj hx];exact(Ap hne).symm⟩;rw[rfl'] at hT hpl
 have hpl0:ps0.length=L0.length:=by
   rw[zY,zY] at hpl
   simpa using hpl
 have ht0:H1 p0=some (.tup [.int x.1,.str x.2.1,.str x.2.2]):=hT.2 ps0.length p0 _ (by rw[z9 (z7 _),AL];rfl) (by rw[z8,z9 (by rw[be,hpl0];exact z7 _),be,hpl0,AL];rfl);refine⟨_,SqL.of (S2 _ _ hl),V.ref p0,by rw[z8];exact eQ _ _,p0,rfl,_,SqT.of (S2 _ _ ht0),_,rfl,?_⟩;have:=q _ (S1.trans S2);rw[nA hx] at this;exact this
def ge:Sp:=fun vs H Q _=>∃ (lk kc kd kt lo:Addr)(so ns ss:List Str) (h:Hs)(Tb:List (Int×LK)) (day:Int),vs=[.ref lk,.int day]∧KR H lk kc kd kt lo so ns ss h Tb∧h.dp.length≤1000∧∀ l ps H',af H H'→H l=none→H' l=some (.lst (ps.map V.ref))→cn H' ps ((bf h.dp day).map fun e=>[.str e.1,.str e.2])→Q (.ref l) H'
theorem sE:ax ["_law_kept", "_law_day_here"] ["_law_kept", "_law_day_here"] (ao ke):=sM
theorem qw {f:Addr}{fd:FuncData}(F:Fun K "_law_dips_due" "_law_dips_due" ke f fd)
   (T:Txt mg)  :
   aU P w K mg base CX0 1 f fd ["_law_kept", "_law_day_here"] ge:=by
 refine oq F sE fun cdv A outer s H vs Q E hr h=>?_;obtain⟨lk,kc,kd,kt,lo,so,ns,ss,h,Tb,day,rfl,KR0,hdl,q⟩:=h;refine⟨_,(ah (ap (eP (N':=["_law_on", "_law_who", "_law_bath", "_law_day_here"]) (pk:=[none,none,none,some 1]) rfl (bW.of (by rfl)) (aY (pI ak (pv 0) ag)) (fun s H ex=>((cz (n:=3) rfl (aH (pN 0 (by show(["_law_on", "_law_who", "_law_bath", "_law_day_here"]:List Str).Nodup;decide)) (aH (pN 1 (by show(["_law_on", "_law_who", "_law_bath", "_law_day_here"]:List Str).Nodup;decide)) (aH (pN 2 (by show(["_law_on", "_law_who", "_law_bath", "_law_day_here"]:List Str).Nodup;decide)) bT)))):PG _ _ (kx K 3 (bO (bB 0) (bO (bB 1) (bO (bB 2) iO)))))) (fun s H ex=>(aq bK (pv 0) (pv 3) (aw _))) (fun s H ex=>(bj (aa (pv 1) (aa (pv 2) ae))))))),?_⟩
 try dsimp only[aF,aO]
 have hs:=aL;obtain⟨ps,hkd,hT⟩:=KR0.hkd;have hpl:=hT.1;rw[be] at hpl;walk_at"";refine⟨_,SqL.of KR0.hlk,_,rfl,kd,rfl,⟨_,SqL.of hkd⟩,fun D hD=>?_⟩;refine iW (aE (SqL.of hkd)) (by rw[be];omega) hD (fun σ=>∃ o1 o2 o3,σ=[o1,o2,o3,some (.int day)]) (fun i=>(fun e:Int×Str×Str×Str=>decide (e.1=day)) (h.dp.getD i d0)) (fun i=>(fun e:Int×Str×Str×Str=>[V.str e.2.1,.str e.2.2.1]) (h.dp.getD i d0)) ⟨none,none,none,rfl⟩ ?_ ?_
 . rintro i x σ' H3 hi hx ⟨o1,o2,o3,rfl⟩ hS R1 R0 h1 h0;rw[zX] at hx;obtain⟨p,hp,rfl⟩:=Option.map_eq_some_iff.mp hx;obtain⟨e,he⟩:∃ e,h.dp[i]?=some e:=⟨_,zW (by rw[be] at hi;omega)⟩;have ht:=hS _ _ (hT.2 i p _ hp (by rw[zX,he];rfl))
   have eg:h.dp.getD i d0=e:=by rw[zZ,he];rfl
   simp only[eg] at h1 h0;refine pw ht ?_;walk_at"";refine⟨rfl,aB (fun hle=>⟨by omega,fun p hp=>h1 (by simp[hle]) p _ ⟨_,_,_,rfl⟩ hp⟩) (fun hle=>h0 (by simp[hle]) _ ⟨_,_,_,rfl⟩)⟩
 . intro qs H' S' hHD hT2;rw[be,hpl,fq h.dp d0 (fun e=>decide (e.1=day)) (fun e=>[V.str e.2.1,.str e.2.2.1])] at hT2;refine q D qs H' S' hD hHD ?_;unfold bf;rw[AH];exact hT2
def bv (F:Addr→Bool)(H:Hp):Hp:=fun b=>if F b=true then none else H b
theorem aK {F:Addr→Bool}{H:Hp}{b:Addr}{o:HO}(h:bv F H b=some o):H b=some o∧F b=false:=by
 unfold bv at h
 cases hf:F b with
 | true=>rw[if_pos hf] at h;cases h
 | false=>rw[if_neg (by rw[hf];decide)] at h;exact⟨h,rfl⟩
theorem cc {F:Addr→Bool}{H:Hp}{b:Addr}{o:HO}(h:H b=some o)(f:F b=false):bv F H b=some o:=by
 unfold bv;rw[if_neg (by rw[f];decide)];exact h
theorem av {F:Addr→Bool}{H:Hp}:af (bv F H) H:=fun b o e=>(aK e).1
theorem aQ {F:Addr→Bool}{H H':Hp}(S:af H H'):af (bv F H) (bv F H'):=fun b o e=>cc (S b o (aK e).1) (aK e).2
theorem dk {F:Addr→Bool}{H:Hp}{x:Addr}{o:HO}(f:F x=false):bv F (upd H x o)=upd (bv F H) x o:=by
 funext b;by_cases e:b=x
 . rw[e,ac];exact cc ac f
 . rw[ai e];unfold bv;rw[ai e]
def fc (F:Addr→Bool)(H:Hp):Prop:=∀ b,F b=true→H b≠none
theorem fc.new {F:Addr→Bool}{H:Hp}{b:Addr}(h:fc F H)(n:H b=none):F b=false:=by
 cases hf:F b with
 | true=>exact absurd n (h b hf)
 | false=>rfl
theorem fc.same {F:Addr→Bool}{H H':Hp}(h:fc F H)(S:af H H'):fc F H':=fun b hb e=>h b hb (S.free e)
def Owx (ks:List Addr)(H H':Hp):Prop:=∀ b o,b∉ks→H b=some o→H' b=some o
theorem Owx.same {ks:List Addr}{H H':Hp}(S:af H H'):Owx ks H H':=fun b o _ h=>S b o h
theorem Owx.trans {ks:List Addr}{H H1 H2:Hp}(a:Owx ks H H1)(b:Owx ks H1 H2):Owx ks H H2:=fun c o n h=>b c o n (a c o n h)
theorem Owx.upd {ks:List Addr}{H:Hp}{x:Addr}{o:HO}(hx:x∈ks):Owx ks H (L2.upd H x o):=fun b u n h=>by
 rw[ai (fun e=>n (by rw[e];exact hx))];exact h
theorem vQ {G:Hp}{x d:Addr}{ss ns:List Str}{lk:LK}{xs:List V}{o:HO}(h:de G d ss ns lk)(hx:G x=some (.lst xs)):de (upd G x o) d ss ns lk:=by
 have k:∀ {b kv},Rd G b (.dK kv)→Rd (upd G x o) b (.dK kv):=fun {b kv} h=>by
   have hne:b≠x:=fun e=>by rcases h with h | ⟨_,h⟩<;>(rw[e,hx] at h;cases h)
   rcases h with h | ⟨w,h⟩
   . exact .inl (by rw[ai hne];exact h)
   . exact .inr ⟨w,by rw[ai hne];exact h⟩
 obtain⟨kvs,h1,h2,h3⟩:=h;refine⟨kvs,k h1,h2,fun n hn=>?_⟩;obtain⟨r,kv,e1,e2,e3⟩:=h3 n hn;exact⟨r,kv,e1,k e2,e3⟩
theorem kU {G:Hp}{x:Addr}{o:HO}:hide (upd G x o) x=hide G x:=by
 funext b;by_cases e:b=x
 . rw[e];unfold hide;rw[if_pos rfl,if_pos rfl]
 . rw[aW e,aW e,ai e]
theorem nR {G:Hp}{x y:Addr}{o:HO}(h:x≠y):hide (upd G x o) y=upd (hide G y) x o:=by
 funext b;by_cases e:b=y
 . rw[e,ai (Ne.symm h)];unfold hide;rw[if_pos rfl,if_pos rfl]
 . rw[aW e];by_cases k:b=x
   . rw[k,ac,ac]
   . rw[ai k,ai k,aW e]
theorem eW {G G':Hp}(S:af G G')(c:Addr):af (hide G c) (hide G' c):=fun b o h=>by
 by_cases e:b=c
 . rw[e] at h;unfold hide at h;rw[if_pos rfl] at h;cases h
 . rw[aW e] at h ⊢;exact S b o h
structure KI (G:Hp)(lk kc kd kt lo:Addr)(so ns ss:List Str) (h:Hs)(T:List (Int×LK)):Prop where
 r:KR G lk kc kd kt lo so ns ss h T
 kcx:G kc=some (.dK (clV h.cl))
 ne:lk≠kd∧lk≠kt∧kd≠kt∧lo≠lk∧lo≠kd∧lo≠kt
section
variable {G G':Hp}{lk kc kd kt lo:Addr}{so ns ss:List Str}{h:Hs}{T:List (Int×LK)}
theorem KI.same (K:KI G lk kc kd kt lo so ns ss h T)(S:af G G'):KI G' lk kc kd kt lo so ns ss h T:=⟨K.r.same S,S _ _ K.kcx,K.ne⟩
theorem kO {ps:List Addr}{L:List (List V)}{x:Addr}{xs:List V}{o:HO}(t:cn G ps L)(hx:G x=some (.lst xs)):cn (upd G x o) ps L :=
 ⟨t.1,fun i p e hp he=>by
   have ht:=t.2 i p e hp he
   rw[ai (fun z=>by rw[z,hx] at ht;cases ht)];exact ht⟩
theorem wD {ps:List Addr}{L:List (List V)}{x:Addr}{xs:List (Key×V)}{o:HO}(t:cn G ps L)(hx:G x=some (.dK xs)):cn (upd G x o) ps L :=
 ⟨t.1,fun i p e hp he=>by
   have ht:=t.2 i p e hp he
   rw[ai (fun z=>by rw[z,hx] at ht;cases ht)];exact ht⟩
theorem KI.cl {cl2:List (Str×Str)}(K:KI G lk kc kd kt lo so ns ss h T):KI (upd G kc (.dK (clV cl2))) lk kc kd kt lo so ns ss { h with cl:=cl2 } T:=by
 obtain⟨⟨h1,h2,h3,⟨ps,h4,h5⟩,⟨qs,ds,h6,h7,h8,h9⟩⟩,h10,h11⟩:=K
 have nl:∀ {x xs},G x=some (.lst xs)→x≠kc:=fun {x xs} e z=>by rw[z,h10] at e;cases e
 have nt:∀ {x xs},G x=some (.tup xs)→x≠kc:=fun {x xs} e z=>by rw[z,h10] at e;cases e
 exact⟨⟨by rw[ai (nl h1)];exact h1,by rw[ai (nl h2)];exact h2,.inl ac,⟨ps,by rw[ai (nl h4)];exact h4,wD h5 h10⟩,⟨qs,ds,by rw[ai (nl h6)];exact h6,h7,h8,fun i p d e a b c=>⟨by rw[ai (nt (h9 i p d e a b c).1)];exact(h9 i p d e a b c).1,by rw[kU];exact(h9 i p d e a b c).2⟩⟩⟩,ac,h11⟩
theorem KI.tabl {x:Addr}{xs:List V}{o:HO}{d:Addr}{lk2:LK}(hx:G x=some (.lst xs))(hkc:G kc=some (.dK (clV h.cl)))(t:de (hide G kc) d ss ns lk2):de (hide (upd G x o) kc) d ss ns lk2:=by
 have hne:x≠kc:=fun z=>by rw[z,hkc] at hx;cases hx
 rw[nR hne];exact vQ t (by rw[aW hne];exact hx)
theorem KI.dp {dp2:List (Int×Str×Str×Str)}{ps2:List Addr}(K:KI G lk kc kd kt lo so ns ss h T)(hT:cn G ps2 (dp2.map fun e=>[.int e.1,.str e.2.1,.str e.2.2.1])):KI (upd G kd (.lst (ps2.map V.ref))) lk kc kd kt lo so ns ss { h with dp:=dp2 } T:=by
 obtain⟨⟨h1,h2,h3,⟨ps,h4,h5⟩,⟨qs,ds,h6,h7,h8,h9⟩⟩,h10,h11⟩:=K
 have hne:kc≠kd:=fun z=>by rw[z,h4] at h10;cases h10
 have nt:∀ {x xs},G x=some (.tup xs)→x≠kd:=fun {x xs} e z=>by rw[z,h4] at e;cases e
 exact⟨⟨by rw[ai h11.1];exact h1,by rw[ai h11.2.2.2.2.1];exact h2,.inl (by rw[ai hne];exact h10),⟨ps2,ac,kO hT h4⟩,⟨qs,ds,by rw[ai (Ne.symm h11.2.2.1)];exact h6,h7,h8,fun i p d e a b c=>⟨by rw[ai (nt (h9 i p d e a b c).1)];exact(h9 i p d e a b c).1,KI.tabl h4 h10 (h9 i p d e a b c).2⟩⟩⟩,by rw[ai hne];exact h10,h11⟩
theorem KI.dy {d2:Int}(K:KI G lk kc kd kt lo so ns ss h T):KI (upd G lk (.lst [.ref kc,.ref kd,.ref kt,.int d2,.ref lo])) lk kc kd kt lo so ns ss { h with day:=d2 } T:=by
 obtain⟨⟨h1,h2,h3,⟨ps,h4,h5⟩,⟨qs,ds,h6,h7,h8,h9⟩⟩,h10,h11⟩:=K
 have hne:kc≠lk:=fun z=>by rw[z,h1] at h10;cases h10
 have nt:∀ {x xs},G x=some (.tup xs)→x≠lk:=fun {x xs} e z=>by rw[z,h1] at e;cases e
 exact⟨⟨ac,by rw[ai h11.2.2.2.1];exact h2,.inl (by rw[ai hne];exact h10),⟨ps,by rw[ai (Ne.symm h11.1)];exact h4,kO h5 h1⟩,⟨qs,ds,by rw[ai (Ne.symm h11.2.1)];exact h6,h7,h8,fun i p d e a b c=>⟨by rw[ai (nt (h9 i p d e a b c).1)];exact(h9 i p d e a b c).1,KI.tabl h1 h10 (h9 i p d e a b c).2⟩⟩⟩,by rw[ai hne];exact h10,h11⟩
theorem KI.tb {p d:Addr}{dd:Int}{lk2:LK}{qs ds:List Addr}(K:KI G lk kc kd kt lo so ns ss h T)(hq:G kt=some (.lst (qs.map V.ref)))(hd:ds.length=T.length)(hE:∀ (i:Nat) p d e,qs[i]?=some p→ds[i]?=some d→T[i]?=some e→G p=some (.tup [.int e.1,.ref d])∧de (hide G kc) d ss ns e.2)(hp:G p=some (.tup [.int dd,.ref d]))(ht:de (hide G kc) d ss ns lk2):KI (upd G kt (.lst ((qs++[p]).map V.ref))) lk kc kd kt lo so ns ss h (T++[(dd,lk2)]):=by
 obtain⟨⟨h1,h2,h3,⟨ps,h4,h5⟩,⟨qs0,ds0,h6,h7,h8,h9⟩⟩,h10,h11⟩:=K
 have hqe:qs=qs0:=by
   rw[hq] at h6;have:=HO.lst.inj (Option.some.inj h6);exact List.map_inj_right (fun _ _ e=>V.ref.inj e) |>.mp this
 subst hqe
 have hne:kc≠kt:=fun z=>by rw[z,hq] at h10;cases h10
 have nt:∀ {x xs},G x=some (.tup xs)→x≠kt:=fun {x xs} e z=>by rw[z,hq] at e;cases e
 refine⟨⟨by rw[ai h11.2.1];exact h1,by rw[ai h11.2.2.2.2.2];exact h2,.inl (by rw[ai hne];exact h10),⟨ps,by rw[ai h11.2.2.1];exact h4,kO h5 hq⟩,⟨qs++[p],ds++[d],ac,by rw[zY,zY,h7];rfl,by rw[zY,zY,hd];rfl,fun i p' d' e' a b c=>?_⟩⟩,by rw[ai hne];exact h10,h11⟩
 have key:G p'=some (.tup [.int e'.1,.ref d'])∧de (hide G kc) d' ss ns e'.2:=by
   by_cases hi:i < qs.length
   . rw[Af hi] at a;rw[Af (by omega)] at b c;exact hE i p' d' e' a b c
   . rw[z9 (by omega)] at a b c
     have hj0:i - qs.length=0:=by
       have:=(List.getElem?_eq_some_iff.mp a).1;simp only[Aa] at this;omega
     rw[hj0] at a;rw[show i - ds.length=0 by omega] at b;rw[show i - T.length=0 by omega] at c;cases a;cases b;cases c;exact⟨hp,ht⟩
 exact⟨by rw[ai (nt key.1)];exact key.1,KI.tabl hq h10 key.2⟩
end
def dJ (w:Str):List V:=[.str "refused",.str (zV "ValueError "++w),.int 0]
def iU:Sp:=fun vs H Q _=>∃ wd:Str,vs=[.str wd]∧wd.length≤100∧∀ t,H t=none→Q (.ref t) (upd H t (.tup [.str "refused",.str (zV "ValueError "++wd),.int 0]))
theorem zU:ax ["_law_word"] ["_law_word"] (ao sNo):=sM
theorem zi {f:Addr}{fd:FuncData}(F:Fun K "_law_no" "_law_no" sNo f fd)
   (T:Txt mg)  :
   aU P w K mg base CX0 1 f fd ["_law_word"] iU:=by
 refine oq F zU fun cdv A outer s H vs Q E hr h=>?_;obtain⟨wd,rfl,hw,q⟩:=h;refine⟨_,(ah (ap (bj (aa ay (aa (aA fr ay (pv 0)) (aa ag ae)))))),?_⟩
 try dsimp only[aF,aO]
 have hs:=aL
 have h11:(zV "ValueError ").length=11:=by decide
 walk_at"";exact⟨by rw[h11];omega,by omega,fun p hp=>q p hp⟩
def oC:Sp:=fun vs H Q _=>∃ z:Str,vs=[.str z]∧z.length≤1000∧Q (.bl (bc z)) H
theorem nC:ax ["_law_text", "_law_sign"] ["_law_text"] (ao nj):=sM
theorem sC {f:Addr}{fd:FuncData}(F:Fun K "_law_is_name" "_law_is_name" nj f fd)
   (T:Txt mg)  :
   aU P w K mg base CX0 1 f fd ["_law_text"] oC:=by
 refine oq F nC fun cdv A outer s H vs Q E hr h=>?_;obtain⟨z,rfl,hz,q⟩:=h
 refine⟨_,(aj (aC (PW.pt (eE (aq cW (al dY (by rfl) T.len Ac (aa (pv 0) ae)) ag (aw _)) (dc (aq fE (al dY (by rfl) T.len Ac (aa (pv 0) ae)) ag (aw _))))) (ah (ap cv)) am)
   (aj (bq PassesOwn.never rfl (uf (pv 0)) (pN 1 nC.nd) (ah (aC (aq mj (pv 1) ay (by with_unfolding_all rfl)) (ah (ap cv)) am)))
   (ah (ap cv)))),?_⟩
 try dsimp only[aF,aO]
 have hs:=aL
 have hgl:∀ c,c∈z.cps.toList→inL c=false→bc z=false:=fun c hc h=>by
   cases hg:bc z with
   | false=>rfl
   | true =>
     unfold bc at hg;rw[Bool.and_eq_true] at hg;have:=List.all_eq_true.mp hg.2 c hc;rw[h] at this;cases this
 refine ar (fun σ' H'=>σ'=[some (.str z),none]∧H'=H∧1≤z.length∧z.length≤8) (fun R hR=>?_) ?_
 . have gf:¬(1≤z.length∧z.length≤8)→bc z=false:=fun h=>by
     cases hg:bc z with
     | false=>rfl
     | true =>
       unfold bc at hg;rw[Bool.and_eq_true,Bool.and_eq_true] at hg;exact absurd ⟨of_decide_eq_true hg.1.1,of_decide_eq_true hg.1.2⟩ h
   walk_at"";exact⟨by omega,aB (fun h=>by rw[←gf (by omega)];exact q) (fun h=>⟨by omega,aB (fun h'=>by rw[←gf (by omega)];exact q) (fun h'=>hR _ _ ⟨rfl,rfl,by omega,by omega⟩)⟩)⟩
 rintro σ1 H1 ⟨rfl,rfl,h1,h8⟩;refine ar (fun σ' H'=>∃ o,σ'=[some (.str z),o]∧H'=H1∧bc z=true) (fun R hR=>?_) ?_
 . walk_at"";refine a8 (H0:=H1) iY (fun i σ' H'=>∃ o,σ'=[some (.str z),o]∧H'=H1∧(z.cps.toList.take i).all inL=true) ⟨none,rfl,rfl,rfl⟩ (fun _ _ _ _ ⟨_,_,h,_⟩=>h▸af.refl _) ?_ ?_
   . rintro i x σ H' hi ⟨c,hc,rfl⟩ ⟨o,rfl,rfl,hp⟩ R2 hR2
     have hc':z.cps.toList[i]?=some c:=by simpa using hc
     have e:inL c=!(Builtin.Str.occurrences (zV "abcdefghijklmnopqrstuvwxyz") ⟨#[c]⟩ 0 (zV "abcdefghijklmnopqrstuvwxyz").length 1).isEmpty:=rfl;walk_at"";rw[←e];exact aB (fun h=>by rw[←hgl c (z6 hc') h];exact q) (fun h=>hR2 _ _ ⟨_,rfl,rfl,by rw[bw hc',List.all_append,hp];simp[Bool.of_not_eq_false h]⟩)
   . rintro σ H' ⟨o,rfl,rfl,hp⟩;rw[show z.cps.size=z.cps.toList.length from Array.length_toList.symm,AR] at hp;refine hR _ _ ⟨o,rfl,rfl,?_⟩;unfold bc;rw[decide_eq_true h1,decide_eq_true h8,hp];rfl
 rintro σ2 H2 ⟨o,rfl,rfl,hg⟩;walk_at"";rw[←hg];exact q
def kJ:Sp:=fun vs H Q _=>∃ (F:Addr→Bool)(lk kc kd kt lo:Addr)(so ns ss:List Str) (h:Hs)(Tb:List (Int×LK)) (c z:Str),vs=[.ref lk,.str c,.str z]∧KI (bv F H) lk kc kd kt lo so ns ss h Tb∧fc F H∧bH ss ns h∧Shw c∧h.cl.length≤60∧(∀ t H' w,((bc c=false∧w=zV "BadName")∨(bc c=true∧c∈h.cl.map (·.1)∧w=zV "Known")∨(bc c=true∧c∉h.cl.map (·.1)∧z∉so∧w=zV "NoShade"))→af H H'→H t=none→H' t=some (.tup (dJ w))→Q (.ref t) H')∧(bc c=true→c∉h.cl.map (·.1)→z∈so→∀ H',Owx [lk,kc,kd,kt] H H'→KI (bv F H') lk kc kd kt lo so ns ss { h with cl:=h.cl++[(c,z)] } Tb→Q .non H')
theorem qM:ax ["_law_kept", "_law_cloth", "_law_shade"] ["_law_kept", "_law_cloth", "_law_shade"] (ao io):=sM
theorem oI {f fIs fNw:Addr}{fd fdIs fdNw:FuncData}(F:Fun K "_law_bring_due" "_law_bring_due" io f fd)
   (T:Txt mg)
   (GIs:Cl P w K mg base CX0 1 "_law_is_name" ["_law_text"] oC fIs fdIs)
   (GNw:Cl P w K mg base CX0 1 "_law_no" ["_law_word"] iU fNw fdNw) :
   aU P w K mg base CX0 2 f fd ["_law_kept", "_law_cloth", "_law_shade"] kJ:=by
 refine oq F qM fun cdv A outer s H vs Q E hr h=>?_;obtain⟨F,lk,kc,kd,kt,lo,so,ns,ss,h,Tb,c,z,rfl,K0,oF,ho,hc,hcl,q1,q2⟩:=h;have hu:=eM hr;have hr1:=hr.mono (j:=1) (by omega)
 refine⟨_,(aj (aC (cf (bL (pC GIs hr1 az (aa (pv 1) ae)))) (ah (ap (pC GNw hr1 az (aa ay ae)))) am)
   (aj (aC (fu (uw hu (pv 1) (pI ak (pv 0) ag))) (ah (ap (pC GNw hr1 az (aa ay ae)))) am)
   (aj (aC (aq cC (pv 2) (pI ak (pv 0) ag) (by with_unfolding_all rfl)) (ah (ap (pC GNw hr1 az (aa ay ae)))) am)
   (aj (dF hu (pI ak (pv 0) ag) (pv 1) (pv 2) rfl)
   (ah (ap mP)))))),?_⟩
 try dsimp only[aF,aO]
 have hs:=aL;have up:=av (F:=F) (H:=H);have KR0:=K0.r
 have hcll:(clV h.cl).length=h.cl.length:=by unfold clV;rw[be]
 refine ar (fun σ' H'=>bc c=true∧σ'=[some (.ref lk),some (.str c),some (.str z)]∧H'=H) (fun R hR=>?_) ?_
 . walk_at"";exact⟨c,rfl,hc.1,_,rfl,aB (fun hg=>⟨_,rfl,by decide,fun t ht=>q1 t _ _ (.inl ⟨hg,rfl⟩) (af.updN ht) ht ac⟩) (fun hg=>hR _ _ ⟨by cases hb:bc c<;>first | rfl | exact absurd hb hg,rfl,rfl⟩)⟩
 rintro σ1 H1 ⟨hg,rfl,rfl⟩;refine ar (fun σ' H'=>c∉h.cl.map (·.1)∧σ'=[some (.ref lk),some (.str c),some (.str z)]∧H'=H1) (fun R hR=>?_) ?_
 . walk_at"";by_cases hm:c∈h.cl.map (·.1)
   . obtain⟨z0,hv⟩:∃ z0,bG (clV h.cl) (Sum.inr c)=some (V.str z0):=by
       obtain⟨x,hx,rfl⟩:=List.mem_map.mp hm;exact⟨x.2,eB ho.cnd hx⟩
     exact⟨_,SqL.of (up _ _ KR0.hlk),_,rfl,kc,rfl,some _,.inl ⟨_,Sum.inr c,af.rd up KR0.hkc,rfl,hv.symm⟩,aB (fun _=>⟨_,rfl,by decide,fun t ht=>q1 t _ _ (.inr (.inl ⟨hg,hm,rfl⟩)) (af.updN ht) ht ac⟩) (fun h=>absurd rfl h)⟩
   . exact⟨_,SqL.of (up _ _ KR0.hlk),_,rfl,kc,rfl,none,.inl ⟨_,Sum.inr c,af.rd up KR0.hkc,rfl,(bM hm).symm⟩,aB (fun h=>by cases h) (fun _=>hR _ _ ⟨hm,rfl,rfl⟩)⟩
 rintro σ2 H2 ⟨hcn,rfl,rfl⟩;refine ar (fun σ' H'=>z∈so∧σ'=[some (.ref lk),some (.str c),some (.str z)]∧H'=H2) (fun R hR=>?_) ?_
 . walk_at"";refine⟨_,SqL.of (up _ _ KR0.hlk),_,rfl,lo,rfl,_,.inl (SqL.of (up _ _ KR0.hlo)),rfl,cT so,aB (fun hn=>?_) (fun hn=>hR _ _ ⟨?_,rfl,rfl⟩)⟩
   . rw[cY,decide_eq_false_iff_not] at hn;exact⟨_,rfl,by decide,fun t ht=>q1 t _ _ (.inr (.inr ⟨hg,hcn,hn,rfl⟩)) (af.updN ht) ht ac⟩
   . rw[cY,decide_eq_false_iff_not] at hn;exact Classical.not_not.mp hn
 rintro σ3 H3 ⟨hzs,rfl,rfl⟩;refine ar (fun σ' H'=>σ'=[some (.ref lk),some (.str c),some (.str z)]∧H'=upd H3 kc (.dK (clV (h.cl++[(c,z)])))) (fun R hR=>?_) ?_
 . walk_at"";refine⟨_,SqL.of (up _ _ KR0.hlk),_,rfl,kc,rfl,_,.inl ⟨_,Sum.inr c,up _ _ K0.kcx,rfl,by rw[hcll];omega,rfl⟩,hR _ _ ⟨rfl,?_⟩⟩;rw[cU _ (bM hcn)];unfold clV;rw[z8];rfl
 rintro σ4 H4 ⟨rfl,rfl⟩;walk_at"";have hf:=(aK K0.kcx).2;exact q2 hg hcn hzs _ (Owx.upd (by simp)) (by rw[dk hf];exact K0.cl)
theorem gx {kvs:List (Key×V)}{k:Key}:(bG kvs k).isSome=true↔k∈kvs.map (·.1):=by
 rw[←d8,List.any_eq_true];exact⟨fun⟨x,hx,he⟩=>by rw[←of_decide_eq_true he];exact AA hx,fun h=>by obtain⟨x,hx,rfl⟩:=List.mem_map.mp h;exact⟨x,hx,decide_eq_true rfl⟩⟩
theorem fU.dip {ss ns:List Str}{h:Hs}(HR:fU h)(ho:bH ss ns h){c b:Str}{d:Int}(hge:h.day≤d):fU { h with day:=d,dp:=h.dp++[(d,c,b,lkB (aR h.bk d).1 (aR h.bk d).2 b (aV h c d))] }:=by
 refine⟨?_,fun i e he=>?_⟩
 . show(h.dp++[_]).Pairwise _;rw[BJ];exact⟨HR.srt,BB _ _,fun x hx y hy=>by rw[List.mem_singleton.mp hy];exact CC (ho.dd x hx).2 hge⟩
 . show e.2.2.2=lkB (aR h.bk e.1).1 (aR h.bk e.1).2 e.2.2.1 (aV { h with dp:=(h.dp++[_]).take i } e.2.1 e.1);have he':(h.dp++[(d,c,b,lkB (aR h.bk d).1 (aR h.bk d).2 b (aV h c d))])[i]?=some e:=he;by_cases hi:i < h.dp.length
   . rw[Af hi] at he';rw[List.take_append_of_le_length (by omega)];exact HR.out i e he'
   . rw[z9 (by omega)] at he'
     have hj0:i - h.dp.length=0:=by
       have:=(List.getElem?_eq_some_iff.mp he').1;simp only[Aa] at this;omega
     rw[hj0] at he';cases he'
     have:i=h.dp.length:=by omega
     subst this;rw[List.take_left]
def oZ:Sp:=fun vs H Q _=>∃ (F:Addr→Bool)(lk kc kd kt lo:Addr)(so ns ss:List Str) (h:Hs)(Tb:List (Int×LK)) (c b:Str) (d:Int),vs=[.ref lk,.str c,.str b,.int d]∧KI (bv F H) lk kc kd kt lo so ns ss h Tb∧fc F H∧TOk ss ns h Tb∧fU h∧bH ss ns h∧(∀ e∈h.dp,e.2.2.1∈ns)∧h.dp.length < 1000∧(∀ t H' w,((c∉h.cl.map (·.1)∧w=zV "NoCloth")∨(c∈h.cl.map (·.1)∧b∉ns∧w=zV "NoBath")∨(c∈h.cl.map (·.1)∧b∈ns∧¬(1≤d∧d≤400)∧w=zV "NoDay")∨(c∈h.cl.map (·.1)∧b∈ns∧(1≤d∧d≤400)∧d < h.day∧w=zV "Late"))→af H H'→H t=none→H' t=some (.tup (dJ w))→Q (.ref t) H')∧(c∈h.cl.map (·.1)→b∈ns→(1≤d∧d≤400)→h.day≤d→∀ o,lkB (aR h.bk d).1 (aR h.bk d).2 b (aV h c d)=o→∀ H',Owx [lk,kc,kd,kt] H H'→KI (bv F H') lk kc kd kt lo so ns ss { h with day:=d,dp:=h.dp++[(d,c,b,o)] } Tb→Q (.str o) H')
theorem vK:ax ["_law_kept", "_law_cloth", "_law_bath", "_law_day_here"] ["_law_kept", "_law_cloth", "_law_bath", "_law_day_here"] (ao mI):=sM
theorem tm {f fNw fSD:Addr}{fd fdNw fdSD:FuncData}(F:Fun K "_law_dip_due" "_law_dip_due" mI f fd)
   (T:Txt mg)
   (GNw:Cl P w K mg base CX0 1 "_law_no" ["_law_word"] iU fNw fdNw)
   (GSD:Cl P w K mg base CX0 3 "_law_shade_due" ["_law_kept", "_law_cloth", "_law_day_here"] fg fSD fdSD) :
   aU P w K mg base CX0 4 f fd ["_law_kept", "_law_cloth", "_law_bath", "_law_day_here"] oZ:=by
 refine oq F vK fun cdv A outer s H vs Q E hr h=>?_;obtain⟨F,lk,kc,kd,kt,lo,so,ns,ss,h,Tb,c,b,d,rfl,K0,oF,TO,HR,ho,hbn,hdl,q1,q2⟩:=h;have hu:=eM hr;have hr1:=hr.mono (j:=1) (by omega);have hr3:=hr.mono (j:=3) (by omega)
 refine⟨_,(aj (aC (fu (dw hu (pv 1) (pI ak (pv 0) ag))) (ah (ap (pC GNw hr1 az (aa ay ae)))) am)
   (aj (aC (fu (dw hu (pv 2) (pI aI (pI ak (pI ak (pv 0) ag) ag) ag))) (ah (ap (pC GNw hr1 az (aa ay ae)))) am)
   (aj (aC (PW.pt (eE (aq cW (pv 3) ag (aw _)) (dc (aq fE (pv 3) ag (aw _))))) (ah (ap (pC GNw hr1 az (aa ay ae)))) am)
   (aj (aC (aq cW (pv 3) (pI ak (pv 0) ag) (aw _)) (ah (ap (pC GNw hr1 az (aa ay ae)))) am)
   (aj (aM (eI Aw AE AF bN (pI ak (pv 0) ag) (aa (bj (aa (pv 3) (aa (pv 1) (aa (pv 2) ae)))) ae)))
   (aj (mJ (pv 3) (pj (pv 0) ag ku))
   (ah (ap (pC GSD hr3 az (aa (pv 0) (aa (pv 1) (aa (pv 3) ae)))))))))))),?_⟩
 try dsimp only[aF,aO]
 have hs:=aL;have up:=av (F:=F) (H:=H);have KR0:=K0.r;refine ar (fun σ' H'=>c∈h.cl.map (·.1)∧σ'=[some (.ref lk),some (.str c),some (.str b),some (.int d)]∧H'=H) (fun R hR=>?_) ?_
 . walk_at"";by_cases hm:c∈h.cl.map (·.1)
   . obtain⟨z0,hv⟩:∃ z0,bG (clV h.cl) (Sum.inr c)=some (V.str z0):=by
       obtain⟨x,hx,rfl⟩:=List.mem_map.mp hm;exact⟨x.2,eB ho.cnd hx⟩
     exact⟨_,SqL.of (up _ _ KR0.hlk),_,rfl,kc,rfl,some _,.inl ⟨_,Sum.inr c,af.rd up KR0.hkc,rfl,hv.symm⟩,aB (fun h=>by cases h) (fun _=>hR _ _ ⟨hm,rfl,rfl⟩)⟩
   . exact⟨_,SqL.of (up _ _ KR0.hlk),_,rfl,kc,rfl,none,.inl ⟨_,Sum.inr c,af.rd up KR0.hkc,rfl,(bM hm).symm⟩,aB (fun _=>⟨_,rfl,by decide,fun t ht=>q1 t _ _ (.inl ⟨hm,rfl⟩) (af.updN ht) ht ac⟩) (fun h=>absurd rfl h)⟩
 rintro σ1 H1 ⟨hcm,rfl,rfl⟩;refine ar (fun σ' H'=>b∈ns∧σ'=[some (.ref lk),some (.str c),some (.str b),some (.int d)]∧H'=H1) (fun R hR=>?_) ?_
 . obtain⟨ps,ds,hkt,hpl,hdl,hE⟩:=KR0.hkt;obtain⟨e0,Tr,hTe⟩:=TO.t0
   have hp0:0 < ps.length:=by rw[hpl,hTe];exact CV _
   obtain⟨p0,hp0'⟩:∃ p,ps[0]?=some p:=⟨_,zW hp0⟩;obtain⟨d0,hd0'⟩:∃ d,ds[0]?=some d:=⟨_,zW (by omega)⟩;obtain⟨ht0,hG0⟩:=hE 0 p0 d0 e0 hp0' hd0' (by rw[hTe];rfl);obtain⟨kvs,hRd,hkeys,_⟩:=Fz.tabG (af.fz (bP.trans up)) hG0
   have hiff:(bG kvs (Sum.inr b)).isSome=true↔b∈ns:=by
     rw[gx,hkeys];exact⟨fun h=>by obtain⟨x,hx,e⟩:=List.mem_map.mp h;cases e;exact hx,fun h=>AA h⟩
   walk_at"";refine⟨_,SqL.of (up _ _ KR0.hlk),_,rfl,kt,rfl,_,SqL.of (up _ _ hkt),_,bS (j:=0) (by rw[zX,hp0'];rfl),p0,rfl,_,SqT.of (up _ _ ht0),_,rfl,d0,rfl,_,.inl ⟨_,Sum.inr b,hRd,rfl,rfl⟩,aB (fun hn=>?_) (fun hn=>hR _ _ ⟨hiff.mp (by cases hb:(bG kvs (Sum.inr b)).isSome<;>first | rfl | exact absurd hb hn),rfl,rfl⟩)⟩;exact⟨_,rfl,by decide,fun t ht=>q1 t _ _ (.inr (.inl ⟨hcm,(fun hb=>by rw[hiff.mpr hb] at hn;cases hn),rfl⟩)) (af.updN ht) ht ac⟩
 rintro σ2 H2 ⟨hbm,rfl,rfl⟩;refine ar (fun σ' H'=>(1≤d∧d≤400)∧σ'=[some (.ref lk),some (.str c),some (.str b),some (.int d)]∧H'=H2) (fun R hR=>?_) ?_
 . walk_at"";have hbad:¬(1≤d∧d≤400)→iU [V.str (zV "NoDay")] H2 Q E0:=fun hn=>⟨_,rfl,by decide,fun t ht=>q1 t _ _ (.inr (.inr (.inl ⟨hcm,hbm,hn,rfl⟩))) (af.updN ht) ht ac⟩;exact aB (fun h=>hbad (by omega)) (fun h1=>aB (fun h=>hbad (by omega)) (fun h2=>hR _ _ ⟨by omega,rfl,rfl⟩))
 rintro σ3 H3 ⟨hday,rfl,rfl⟩;refine ar (fun σ' H'=>h.day≤d∧σ'=[some (.ref lk),some (.str c),some (.str b),some (.int d)]∧H'=H3) (fun R hR=>?_) ?_
 . walk_at"";exact⟨_,SqL.of (up _ _ KR0.hlk),_,rfl,_,rfl,aB (fun hl=>⟨_,rfl,by decide,fun t ht=>q1 t _ _ (.inr (.inr (.inr ⟨hcm,hbm,hday,hl,rfl⟩))) (af.updN ht) ht ac⟩) (fun hl=>hR _ _ ⟨by omega,rfl,rfl⟩)⟩
 rintro σ4 H4 ⟨hge,rfl,rfl⟩;obtain⟨ps,hkd,hT⟩:=KR0.hkd;have hpl:=hT.1;rw[be] at hpl;refine ar (fun σ' H'=>∃ p,H4 p=none∧σ'=[some (.ref lk),some (.str c),some (.str b),some (.int d)]∧H'=upd (upd H4 p (.tup [.int d,.str c,.str b])) kd (.lst ((ps++[p]).map V.ref))) (fun R hR=>?_) ?_
 . walk_at"";refine⟨_,SqL.of (up _ _ KR0.hlk),_,rfl,.inl ⟨rfl,_,SqL.of (up _ _ hkd)⟩,by omega,fun p hp=>⟨kd,rfl,_,by rw[ai (aG (up _ _ hkd) hp)];exact up _ _ hkd,by rw[be];omega,hR _ _ ⟨p,hp,rfl,?_⟩⟩⟩;rw[z8];rfl
 rintro σ5 H5 ⟨p,hp,rfl,rfl⟩;obtain⟨o,hoe⟩:∃ o,lkB (aR h.bk d).1 (aR h.bk d).2 b (aV h c d)=o:=⟨_,rfl⟩
 have hos:o∈ss:=by
   obtain⟨Bd,hNd,hZd⟩:=ho.on d;rw[←hoe];exact(hZd _).mp (rM Bd b ((hNd b).mpr hbm) _ ((hZd _).mpr (gG ho hcm d)))
 have Sp:af H4 (upd H4 p (.tup [.int d,.str c,.str b])):=af.updN hp;have fkd:=(aK hkd).2;have flk:=(aK KR0.hlk).2;have fp:=oF.new hp
 have K1:=(K0.same (aQ Sp)).dp (dp2:=h.dp++[(d,c,b,o)]) (ps2:=ps++[p]) (by
   rw[z8]
   exact(hT.same (aQ Sp)).snoc (cc ac fp))
 rw[←dk fkd] at K1;generalize hH5:upd (upd H4 p (.tup [.int d,.str c,.str b])) kd (.lst ((ps++[p]).map V.ref))=H5 at *
 have O5:Owx [lk,kc,kd,kt] H4 H5:=by rw[←hH5];exact(Owx.same Sp).trans (Owx.upd (by simp))
 refine ar (fun σ' H'=>σ'=[some (.ref lk),some (.str c),some (.str b),some (.int d)]∧H'=upd H5 lk (.lst [.ref kc,.ref kd,.ref kt,.int d,.ref lo])) (fun R hR=>?_) ?_
 . walk_at"";exact⟨_,av _ _ K1.r.hlk,3,(by show ixN 5 3=some 3;decide),hR _ _ ⟨rfl,rfl⟩⟩
 rintro σ6 H6 ⟨rfl,rfl⟩;have K2:=K1.dy (d2:=d);rw[←dk flk] at K2;have O6:Owx [lk,kc,kd,kt] H4 (upd H5 lk (.lst [.ref kc,.ref kd,.ref kt,.int d,.ref lo])):=O5.trans (Owx.upd (by simp));generalize upd H5 lk (.lst [.ref kc,.ref kd,.ref kt,.int d,.ref lo])=H6 at *;have ho6:bH ss ns { h with day:=d,dp:=h.dp++[(d,c,b,o)] }:=ho.dip hday hge hdl hos
 have HR6:fU { h with day:=d,dp:=h.dp++[(d,c,b,o)] }:=by rw[←hoe];exact HR.dip ho hge
 walk_at"";refine⟨lk,kc,kd,kt,lo,so,ns,ss,_,Tb,c,d,rfl,K2.r.same av,⟨TO.t0,TO.to,TO.tl⟩,HR6,ho6,fun e he=>?_,hcm,fun H' S=>?_⟩
 . rcases List.mem_append.mp he with he | he
   . exact hbn e he
   . rw[List.mem_singleton.mp he];exact hbm
 . rw[show aV { h with day:=d,dp:=h.dp++[(d,c,b,o)] } c d=o from by rw[i6,if_pos ⟨rfl,BK _⟩]];exact q2 hcm hbm hday hge o hoe H' (O6.trans (Owx.same S)) (K2.same (aQ S))
theorem fU.last {ss ns:List Str}{h:Hs}(HR:fU h)(ho:bH ss ns h){d:Int}(hge:h.day≤d)(hne:bf h.dp d≠[]):∃ dp0 e0,h.dp=dp0++[e0]∧e0.1=d:=by
 obtain⟨x,hx,hxd⟩:∃ x∈h.dp,x.1=d:=by
   cases hf:h.dp.filter (fun e=>decide (e.1=d)) with
   | nil=>exact absurd (by unfold bf;rw[hf];rfl) hne
   | cons x r =>
     have:=List.mem_filter.mp (hf▸Ag:x∈h.dp.filter _);exact⟨x,this.1,of_decide_eq_true this.2⟩
 have hdn:h.dp≠[]:=fun e=>by rw[e] at hx;cases hx
 refine⟨h.dp.dropLast,h.dp.getLast hdn,(Ap hdn).symm,?_⟩;have h1:=(ho.dd _ (List.getLast_mem hdn)).2;have e:h.dp=h.dp.dropLast++[h.dp.getLast hdn]:=(Ap hdn).symm;have h2:=HR.srt;rw[e,BJ] at h2;rw[e] at hx
 rcases List.mem_append.mp hx with hx | hx
 . have:=h2.2.2 x hx _ Ag;omega
 . rw[←List.mem_singleton.mp hx];exact hxd
theorem oz {n:Nat}{p:Nat→Bool}(h:p n=true):∃ l,(Ab (n+1)).filter p=l++[n]:=by
 rw[Bt,A7,A9 h];exact⟨_,rfl⟩
theorem j9 {dp:List (Int×Str×Str×Str)}{d:Int}:(Ab dp.length).filter (fun i=>decide ((dp.getD i d0).1=d))=[]↔bf dp d=[]:=by
 unfold bf;rw[List.map_eq_nil_iff,B3,B3];constructor
 . intro h x hx;obtain⟨i,hi⟩:=AX hx;have:=h i (List.mem_range.mpr (List.getElem?_eq_some_iff.mp hi).1);rw[zZ,hi] at this;exact this
 . intro h i hi;have hl:=List.mem_range.mp hi;rw[zZ,zW hl];exact h _ (A4 hl)
def lB:Sp:=fun vs H Q _=>∃ (F:Addr→Bool)(lk kc kd kt lo:Addr)(so ns ss:List Str) (h:Hs)(Tb:List (Int×LK)) (d:Int),vs=[.ref lk,.int d]∧KI (bv F H) lk kc kd kt lo so ns ss h Tb∧fc F H∧fU h∧bH ss ns h∧(∀ t H' w,((¬(1≤d∧d≤400)∧w=zV "NoDay")∨((1≤d∧d≤400)∧d < h.day∧w=zV "Late")∨((1≤d∧d≤400)∧h.day≤d∧bf h.dp d=[]∧w=zV "NoDip"))→af H H'→H t=none→H' t=some (.tup (dJ w))→Q (.ref t) H')∧((1≤d∧d≤400)→h.day≤d→∀ e,(bf h.dp d).getLast?=some e→∀ t H',Owx [lk,kc,kd,kt] H H'→H' t=some (.tup [.str e.1,.str e.2])→KI (bv F H') lk kc kd kt lo so ns ss { h with dp:=h.dp.dropLast } Tb→Q (.ref t) H')
theorem iQ:ax ["_law_kept", "_law_day_here", "_law_spots", "_law_taken"] ["_law_kept", "_law_day_here"] (ao kD):=sM
theorem qE {f fNw:Addr}{fd fdNw:FuncData}(F:Fun K "_law_back_due" "_law_back_due" kD f fd)
   (T:Txt mg)
   (GNw:Cl P w K mg base CX0 1 "_law_no" ["_law_word"] iU fNw fdNw) :
   aU P w K mg base CX0 2 f fd ["_law_kept", "_law_day_here"] lB:=by
 refine oq F iQ fun cdv A outer s H vs Q E hr h=>?_;obtain⟨F,lk,kc,kd,kt,lo,so,ns,ss,h,Tb,d,rfl,K0,oF,HR,ho,q1,q2⟩:=h;have hu:=eM hr;have hr1:=hr.mono (j:=1) (by omega)
 refine⟨_,(aj (aC (PW.pt (eE (aq cW (pv 1) ag (aw _)) (dc (aq fE (pv 1) ag (aw _))))) (ah (ap (pC GNw hr1 az (aa ay ae)))) am)
   (aj (aC (aq cW (pv 1) (pI ak (pv 0) ag) (aw _)) (ah (ap (pC GNw hr1 az (aa ay ae)))) am)
   (aj (vq (i:=2) (N':=["_law_k", "_law_kept", "_law_day_here"]) (pk:=[none,some 0,some 1]) iQ.nd rfl (Or.inl rfl) rfl (bW.of (by rfl)) (cb rfl T.range (aa (al au (by rfl) T.len Ac (aa (pI ak (pv 0) ag) ae)) ae)) (fun s H ex=>(pN 0 (by show(["_law_k", "_law_kept", "_law_day_here"]:List Str).Nodup;decide))) (fun s H ex=>(aq bK (pI (aI:IxR _ (qA K)) (pI (ak:IxR _ (gQ K)) (pI (ak:IxR _ (gQ K)) (pv 1) ag) (pv 0)) ag) (pv 2) (aw _))) (fun s H ex=>(pv 0)))
   (aj (aC (aq (vc (B1 hu)) (pv 2) (ba ae) (aw _)) (ah (ap (pC GNw hr1 az (aa ay ae)))) am)
   (aj (pS 3 iQ.nd (eI Aw PySem.F.slot_list_pop PySem.F.type_list_pop ul (pI ak (pv 0) ag) (aa (pI ak (pv 2) (d9 cK ag)) ae)))
   (ah (ap (bj (aa (pI aI (pv 3) ag) (aa (pI aI (pv 3) ag) ae)))))))))),?_⟩
 try dsimp only[aF,aO]
 have hs:=aL;have up:=av (F:=F) (H:=H);have KR0:=K0.r;refine ar (fun σ' H'=>(1≤d∧d≤400)∧σ'=[some (.ref lk),some (.int d),none,none]∧H'=H) (fun R hR=>?_) ?_
 . walk_at"";have hbad:¬(1≤d∧d≤400)→iU [V.str (zV "NoDay")] H Q E0:=fun hn=>⟨_,rfl,by decide,fun t ht=>q1 t _ _ (.inl ⟨hn,rfl⟩) (af.updN ht) ht ac⟩;exact aB (fun h=>hbad (by omega)) (fun h1=>aB (fun h=>hbad (by omega)) (fun h2=>hR _ _ ⟨by omega,rfl,rfl⟩))
 rintro σ3 H3 ⟨hday,rfl,rfl⟩;refine ar (fun σ' H'=>h.day≤d∧σ'=[some (.ref lk),some (.int d),none,none]∧H'=H3) (fun R hR=>?_) ?_
 . walk_at"";exact⟨_,SqL.of (up _ _ KR0.hlk),_,rfl,_,rfl,aB (fun hl=>⟨_,rfl,by decide,fun t ht=>q1 t _ _ (.inr (.inl ⟨hday,hl,rfl⟩)) (af.updN ht) ht ac⟩) (fun hl=>hR _ _ ⟨by omega,rfl,rfl⟩)⟩
 rintro σ4 H4 ⟨hge,rfl,rfl⟩;obtain⟨ps,hkd,hT⟩:=KR0.hkd;have hpl:=hT.1;rw[be] at hpl;have hdl:=ho.dl;refine ar (fun σ' H'=>∃ ls,H4 ls=none∧σ'=[some (.ref lk),some (.int d),some (.ref ls),none]∧H'=upd H4 ls (.lst (((Ab h.dp.length).filter (fun i=>decide ((h.dp.getD i d0).1=d))).map fun i:Nat=>V.int (i:Int)))) (fun R hR=>?_) ?_
 . walk_at"";refine⟨_,SqL.of (up _ _ KR0.hlk),_,rfl,kd,rfl,_,.inl (SqL.of (up _ _ hkd)),by rw[be];omega,by rw[be];omega,fun D hD=>?_⟩;rw[be,AG,hpl];refine fh (bu (n:=h.dp.length)) (by omega) hD (fun σ=>∃ o,σ=[o,some (.ref lk),some (.int d)]) (fun i=>decide ((h.dp.getD i d0).1=d)) (fun i=>V.int (i:Int)) ⟨none,rfl⟩ ?_ (hR _ _ ⟨D,hD,rfl,rfl⟩);rintro i x σ' H' hi rfl ⟨o,rfl⟩ hS R1 R0 h1 h0
   have ei:(0:Int)+(i:Int)=i:=by omega
   rw[ei];obtain⟨e,he⟩:∃ e,h.dp[i]?=some e:=⟨_,zW hi⟩;obtain⟨p,hp⟩:∃ p,ps[i]?=some p:=⟨_,zW (by omega)⟩;have ht:=hS _ _ (up _ _ (hT.2 i p _ hp (by rw[zX,he];rfl)))
   have eg:h.dp.getD i d0=e:=by rw[zZ,he];rfl
   simp only[eg] at h1 h0;walk_at"";refine⟨_,SqL.of (hS _ _ (up _ _ KR0.hlk)),_,rfl,kd,rfl,_,SqL.of (hS _ _ (up _ _ hkd)),_,bS (by rw[zX,hp];rfl),p,rfl,_,SqT.of ht,_,rfl,rfl,aB (fun he=>h1 (decide_eq_true (V.int.inj he)) _ ⟨_,rfl⟩) (fun he=>h0 (decide_eq_false (fun k=>he (by rw[k]))) _ ⟨_,rfl⟩)⟩
 rintro σ5 H5 ⟨ls,hls,rfl,rfl⟩;have S5:=af.updN (o:=.lst (((Ab h.dp.length).filter (fun i=>decide ((h.dp.getD i d0).1=d))).map fun i:Nat=>V.int (i:Int))) hls;have hls5:upd H4 ls (.lst (((Ab h.dp.length).filter (fun i=>decide ((h.dp.getD i d0).1=d))).map fun i:Nat=>V.int (i:Int))) ls=some (.lst (((Ab h.dp.length).filter (fun i=>decide ((h.dp.getD i d0).1=d))).map fun i:Nat=>V.int (i:Int))):=ac;have fls:=oF.new hls;generalize hH5:upd H4 ls (.lst (((Ab h.dp.length).filter (fun i=>decide ((h.dp.getD i d0).1=d))).map fun i:Nat=>V.int (i:Int)))=H5 at *;have K5:=K0.same (aQ S5);refine ar (fun σ' H'=>bf h.dp d≠[]∧σ'=[some (.ref lk),some (.int d),some (.ref ls),none]∧af H5 H') (fun R hR=>?_) ?_
 . walk_at"";refine⟨by omega,fun p hp=>?_⟩;have Sp:=af.updN (o:=.lst []) hp;refine⟨_,SqL.of (Sp _ _ hls5),[],SqL.of ac,.inl ⟨by rw[List.all_eq_true];intro x hx;obtain⟨y,_,rfl⟩:=List.mem_map.mp hx;rfl,rfl⟩,?_⟩;rw[ia];by_cases hne:bf h.dp d=[]
   . rw[j9.mpr hne,Bw,if_pos (by decide)];exact⟨_,rfl,by decide,fun t ht=>q1 t _ _ (.inr (.inr ⟨hday,hge,hne,rfl⟩)) ((S5.trans Sp).trans (af.updN ht)) ((S5.trans Sp).free ht) ac⟩
   . rw[if_neg (by rw[decide_eq_false (fun e=>hne (j9.mp (List.map_eq_nil_iff.mp e)))];decide)];exact hR _ _ ⟨hne,rfl,Sp⟩
 rintro σ6 H6 ⟨hne,rfl,S6⟩;have K6:=K5.same (aQ S6);have oF6:=(oF.same S5).same S6;have hls6:=S6 _ _ hls5;obtain⟨dp0,e0,hdp,he0⟩:∃ dp0 e0,h.dp=dp0++[e0]∧e0.1=d:=HR.last ho hge hne;have hkd6:=(aQ (S5.trans S6)) _ _ hkd
 have hpe:ps≠[]:=fun e=>by rw[e,hdp] at hpl;simp at hpl
 obtain⟨ps0,p0,rfl⟩:∃ s q,ps=s++[q]:=⟨_,_,(Ap hpe).symm⟩
 have hpl0:ps0.length=dp0.length:=by
   rw[hdp,zY,zY] at hpl
   simpa using hpl
 have ht0:bv F H4 p0=some (.tup [.int e0.1,.str e0.2.1,.str e0.2.2.1]):=hT.2 ps0.length p0 _ (by rw[z9 (z7 _),AL];rfl) (by rw[hdp,z8,z9 (by rw[be,hpl0];exact z7 _),be,hpl0,AL];rfl);have hT0:cn (bv F H4) ps0 (dp0.map fun e=>[.int e.1,.str e.2.1,.str e.2.2.1]):=⟨by rw[be,hpl0],fun i p e hp he=>hT.2 i p e (by rw[Af (List.getElem?_eq_some_iff.mp hp).1];exact hp) (by rw[hdp,z8,Af (List.getElem?_eq_some_iff.mp he).1];exact he)⟩;have SS:=aQ (F:=F) (S5.trans S6);have fkd:=(aK hkd).2;refine ar (fun σ' H'=>σ'=[some (.ref lk),some (.int d),some (.ref ls),some (.ref p0)]∧H'=upd H6 kd (.lst (ps0.map V.ref))) (fun R hR=>?_) ?_
 . walk_at""
   obtain⟨ll,hll⟩:=oz (n:=dp0.length) (p:=fun i=>decide ((h.dp.getD i d0).1=d)) (by
     rw[hdp,zZ,z9 (z7 _),AL]
     exact decide_eq_true he0)
   have hdl1:h.dp.length=dp0.length+1:=by rw[hdp,zY];rfl
   have hsl:atI (((Ab h.dp.length).filter (fun i=>decide ((h.dp.getD i d0).1=d))).map fun i:Nat=>V.int (i:Int)) (-1)=some (V.int (dp0.length:Int)):=by
     rw[hdl1,hll,z8];exact eQ _ _
   refine⟨_,SqL.of (av _ _ K6.r.hlk),_,rfl,.inl ⟨rfl,_,SqL.of (av _ _ hkd6)⟩,_,SqL.of hls6,_,hsl,kd,rfl,_,_,rfl,av _ _ hkd6,by omega,by omega,dp0.length,?_,V.ref p0,?_,hR _ _ ⟨rfl,?_⟩⟩
   . rw[be,zY,hpl0];exact(PySem.StrLaws.seqIndex_nonneg (by omega) (by rw[Aa];omega)).trans (by rw[AG])
   . rw[zX,z9 (by omega),hpl0,AL];rfl
   . rw[z8,List.eraseIdx_append_of_length_le (by rw[be];omega),be,hpl0,AL];simp
 rintro σ7 H7 ⟨rfl,rfl⟩;have K7:=K6.dp (dp2:=dp0) (hT0.same SS);rw[←dk fkd] at K7;have O7:Owx [lk,kc,kd,kt] H4 (upd H6 kd (.lst (ps0.map V.ref))):=(Owx.same (S5.trans S6)).trans (Owx.upd (by simp))
 have ht7:upd H6 kd (.lst (ps0.map V.ref)) p0=some (.tup [.int e0.1,.str e0.2.1,.str e0.2.2.1]):=by
   have h6:=av _ _ (SS _ _ ht0);rw[ai (fun z=>by rw[z,av _ _ hkd6] at h6;cases h6)];exact h6
 generalize upd H6 kd (.lst (ps0.map V.ref))=H7 at *;walk_at"";refine⟨_,SqT.of ht7,_,rfl,_,SqT.of ht7,_,rfl,by omega,fun t ht=>?_⟩;have St:=af.updN (o:=.tup [V.str e0.2.1,V.str e0.2.2.1]) ht;refine q2 hday hge (e0.2.1,e0.2.2.1) ?_ t _ (O7.trans (Owx.same St)) ac ?_
 . rw[hdp];unfold bf;rw[A7,A9 (by simp[he0]),Bu,z8];simp
 . rw[show h.dp.dropLast=dp0 by rw[hdp,List.dropLast_concat]];exact K7.same (aQ St)
def i0 (K:PySem.W.Frag):Sp:=fun vs H Q _=>∃ (F:Addr→Bool)(lk kc kd kt lo:Addr)(so ns ss:List Str) (h:Hs)(Tb:List (Int×LK)) (b:Str)(lu:Addr)(os:List Str) (d:Int),vs=[.ref lk,.str b,.ref lu,.int d]∧KI (bv F H) lk kc kd kt lo so ns ss h Tb∧fc F H∧TOk ss ns h Tb∧bH ss ns h∧so.Nodup∧so.Perm ss∧so.length≤12∧ns.length≤8∧H lu=some (.lst (os.map V.str))∧os.length≤100∧Tb.length < 1000∧(∀ t H' w,((b∉ns∧w=zV "NoBath")∨(b∈ns∧¬GO so os∧w=zV "BadBook")∨(b∈ns∧GO so os∧¬(1≤d∧d≤400)∧w=zV "NoDay")∨(b∈ns∧GO so os∧(1≤d∧d≤400)∧(d < h.day∨bf h.dp d≠[])∧w=zV "Late"))→af H H'→H t=none→H' t=some (.tup (dJ w))→Q (.ref t) H')∧(b∈ns→GO so os→(1≤d∧d≤400)→h.day≤d→bf h.dp d=[]→∀ el,Tb.getLast?=some el→∀ H',Owx [lk,kc,kd,kt] H H'→KI (bv F H') lk kc kd kt lo so ns ss { h with day:=d } (Tb++[(d,eo so b os el.2)])→Q .non H')
theorem fV:ax ["_law_kept", "_law_bath", "_law_outs", "_law_day_here", "_law_tables_here", "_law_k"] ["_law_kept", "_law_bath", "_law_outs", "_law_day_here"] (ao gF):=sM
theorem mf {f fNw fDpD:Addr}{fd fdNw fdDpD:FuncData}(F:Fun K "_law_change_due" "_law_change_due" gF f fd)
   (T:Txt mg)
   (GNw:Cl P w K mg base CX0 1 "_law_no" ["_law_word"] iU fNw fdNw)
   (GDpD:Cl P w K mg base CX0 1 "_law_dips_due" ["_law_kept", "_law_day_here"] ge fDpD fdDpD) :
   aU P w K mg base CX0 2 f fd ["_law_kept", "_law_bath", "_law_outs", "_law_day_here"] (i0 K):=by
 refine oq F fV fun cdv A outer s H vs Q E hr h=>?_;obtain⟨F,lk,kc,kd,kt,lo,so,ns,ss,h,Tb,b,lu,os,d,rfl,K0,oF,TO,ho,hson,hpm,hso12,hns8,hlu,hos100,htl9,q1,q2⟩:=h;have hu:=eM hr;have hr1:=hr.mono (j:=1) (by omega)
 refine⟨_,(aj (aC (fu (dw hu (pv 1) (pI aI (pI ak (pI ak (pv 0) ag) ag) ag))) (ah (ap (pC GNw hr1 az (aa ay ae)))) am)
   (aj (aC (PW.pt (eE (aq jc (al au (by rfl) T.len Ac (aa (pv 2) ae)) (al au (by rfl) T.len Ac (aa (pI ak (pv 0) ag) ae)) (aw _)) (dc (aq (vn (B1 hu)) (eP (N':=["_law_one", "_law_kept"]) (pk:=[none,some 0]) rfl (bW.of (by rfl)) (aY (pv 2)) (fun s H ex=>(pN 0 (by show(["_law_one", "_law_kept"]:List Str).Nodup;decide))) (fun s H ex=>(aq (cC:OpR _ (compareOp .NotIn) (rIn K true)) (pv 0) (pI (ak:IxR _ (gQ K)) (pv 1) ag) (by with_unfolding_all rfl))) (fun s H ex=>(pv 0))) (ba ae) (aw _))))) (ah (ap (pC GNw hr1 az (aa ay ae)))) am)
   (aj (aC (PW.pt (eE (aq cW (pv 3) ag (aw _)) (dc (aq fE (pv 3) ag (aw _))))) (ah (ap (pC GNw hr1 az (aa ay ae)))) am)
   (aj (aC (PW.pt (eE (aq cW (pv 3) (pI ak (pv 0) ag) (aw _)) (dc (aq (vn (B1 hu)) (pC GDpD hr1 az (aa (pv 0) (aa (pv 3) ae))) (ba ae) (aw _))))) (ah (ap (pC GNw hr1 az (aa ay ae)))) am)
   (aj (pS 4 fV.nd (cu pF (by rfl) T.dict (by decide) (aa (pI aI (pI ak (pI ak (pv 0) ag) (d9 cK ag)) ag) ae)))
   (aj (dF hu (pv 4) (pv 1) ee rfl)
   (aj (bq PassesOwn.never rfl (cb rfl T.range (aa (al au (by rfl) T.len Ac (aa (pv 2) ae)) ae)) (pN 5 fV.nd) (ah (dF hu (cx hu (pv 4) (pv 1) (fun _ _=>rfl)) (pI ak (pI ak (pv 0) ag) (pv 5)) (pI ak (pv 2) (pv 5)) rfl)))
   (aj (aM (eI Aw AE AF bN (pI ak (pv 0) ag) (aa (bj (aa (pv 3) (aa (pv 4) ae))) ae)))
   (aj (mJ (pv 3) (pj (pv 0) ag ku))
   (ah (ap mP))))))))))),?_⟩
 try dsimp only[aF,aO]
 have hs:=aL;have up:=av (F:=F) (H:=H);have KR0:=K0.r;obtain⟨qs,ds,hkt,hql,hdsl,hE⟩:=KR0.hkt;obtain⟨e0,Tr,hTe⟩:=TO.t0
 have hp0:0 < qs.length:=by rw[hql,hTe];exact CV _
 have hnl2:Tb≠[]:=fun e=>by rw[hTe] at e;cases e
 have htl:=TO.tl;refine ar (fun σ' H'=>b∈ns∧σ'=[some (.ref lk),some (.str b),some (.ref lu),some (.int d),none,none]∧H'=H) (fun R hR=>?_) ?_
 . obtain⟨p0,hp0'⟩:∃ p,qs[0]?=some p:=⟨_,zW hp0⟩;obtain⟨d0,hd0'⟩:∃ d,ds[0]?=some d:=⟨_,zW (by omega)⟩;obtain⟨ht0,hG0⟩:=hE 0 p0 d0 e0 hp0' hd0' (by rw[hTe];rfl);obtain⟨kvs,hRd,hkeys,_⟩:=Fz.tabG (af.fz (bP.trans up)) hG0
   have hiff:(bG kvs (Sum.inr b)).isSome=true↔b∈ns:=by
     rw[gx,hkeys];exact⟨fun h=>by obtain⟨x,hx,e⟩:=List.mem_map.mp h;cases e;exact hx,fun h=>AA h⟩
   walk_at"";refine⟨_,SqL.of (up _ _ KR0.hlk),_,rfl,kt,rfl,_,SqL.of (up _ _ hkt),_,bS (j:=0) (by rw[zX,hp0'];rfl),p0,rfl,_,SqT.of (up _ _ ht0),_,rfl,d0,rfl,_,.inl ⟨_,Sum.inr b,hRd,rfl,rfl⟩,aB (fun hn=>?_) (fun hn=>hR _ _ ⟨hiff.mp (by cases hb:(bG kvs (Sum.inr b)).isSome<;>first | rfl | exact absurd hb hn),rfl,rfl⟩)⟩;exact⟨_,rfl,by decide,fun t ht=>q1 t _ _ (.inl ⟨(fun hb=>by rw[hiff.mpr hb] at hn;cases hn),rfl⟩) (af.updN ht) ht ac⟩
 rintro σ2 H2 ⟨hbm,rfl,rfl⟩;refine ar (fun σ' H'=>GO so os∧σ'=[some (.ref lk),some (.str b),some (.ref lu),some (.int d),none,none]∧af H2 H') (fun R hR=>?_) ?_
 . walk_at"";refine⟨_,.inl (SqL.of hlu),_,SqL.of (up _ _ KR0.hlk),_,rfl,lo,rfl,_,.inl (SqL.of (up _ _ KR0.hlo)),rfl,aB (fun hn=>?_) (fun hn=>⟨⟨_,SqL.of hlu⟩,fun D hD=>?_⟩)⟩
   . rw[be,be] at hn;exact⟨_,rfl,by decide,fun t ht=>q1 t _ _ (.inr (.inl ⟨hbm,(fun g=>hn (by rw[g.1])),rfl⟩)) (af.updN ht) ht ac⟩
   rw[be,be] at hn
   have hol:os.length=so.length:=by have:=Classical.not_not.mp hn;omega
   refine fh (aE (SqL.of hlu)) (by rw[be];omega) hD (fun σ=>∃ o,σ=[o,some (.ref lk)]) (fun i=>decide (os.getD i ⟨#[]⟩∉so)) (fun i=>V.str (os.getD i ⟨#[]⟩)) ⟨none,rfl⟩ ?_ ?_
   . rintro i x σ' H' hi hx ⟨o,rfl⟩ hS R1 R0 h1 h0;rw[zX] at hx;obtain⟨y,hy,rfl⟩:=Option.map_eq_some_iff.mp hx
     have eg:os.getD i ⟨#[]⟩=y:=by rw[zZ,hy];rfl
     simp only[eg] at h1 h0;walk_at"";refine⟨_,SqL.of (hS _ _ (up _ _ KR0.hlk)),_,rfl,lo,rfl,_,.inl (SqL.of (hS _ _ (up _ _ KR0.hlo))),rfl,cT so,aB (fun hin=>?_) (fun hin=>?_)⟩
     . rw[cY,decide_eq_false_iff_not] at hin;exact h1 (decide_eq_true hin) _ ⟨_,rfl⟩
     . rw[cY,decide_eq_false_iff_not] at hin;exact h0 (decide_eq_false hin) _ ⟨_,rfl⟩
   . have SD:=af.updN (o:=.lst (((Ab (os.map V.str).length).filter fun i=>decide (os.getD i ⟨#[]⟩∉so)).map fun i=>V.str (os.getD i ⟨#[]⟩))) hD;have hDs:upd H2 D (.lst (((Ab (os.map V.str).length).filter fun i=>decide (os.getD i ⟨#[]⟩∉so)).map fun i=>V.str (os.getD i ⟨#[]⟩))) D=some (.lst (((Ab (os.map V.str).length).filter fun i=>decide (os.getD i ⟨#[]⟩∉so)).map fun i=>V.str (os.getD i ⟨#[]⟩))):=ac;refine⟨by omega,fun p hp=>?_⟩;have Sp:=af.updN (o:=.lst []) hp;refine⟨_,SqL.of (Sp _ _ hDs),[],SqL.of ac,.inl ⟨by rw[List.all_eq_true];intro x hx;obtain⟨y,_,rfl⟩:=List.mem_map.mp hx;rfl,rfl⟩,?_⟩;rw[ia];by_cases hall:∀ x∈os,x∈so
     . have hnil:((Ab (os.map V.str).length).filter fun i=>decide (os.getD i ⟨#[]⟩∉so))=[]:=by
         rw[B3];intro i hi;have hl:=List.mem_range.mp hi;rw[be] at hl;rw[zZ,zW hl];simp only[decide_eq_true_eq,Classical.not_not];exact hall _ (A4 hl)
       rw[hnil,Bw,if_neg (by decide)];rw[hnil,Bw] at SD Sp;exact hR _ _ ⟨⟨hol,hall⟩,rfl,SD.trans Sp⟩
     . have hnn:¬((Ab (os.map V.str).length).filter fun i=>decide (os.getD i ⟨#[]⟩∉so))=[]:=fun e=>hall fun x hx=>by
         obtain⟨i,hi⟩:=AX hx;have hl:=(List.getElem?_eq_some_iff.mp hi).1;have:=List.filter_eq_nil_iff.mp e i (List.mem_range.mpr (by rw[be];exact hl));rw[zZ,hi] at this;simp only[BM,decide_eq_true_eq,Classical.not_not] at this;exact this
       rw[if_pos (by rw[decide_eq_false (fun e=>hnn (List.map_eq_nil_iff.mp e))];decide)];exact⟨_,rfl,by decide,fun t ht=>q1 t _ _ (.inr (.inl ⟨hbm,(fun g=>hall g.2),rfl⟩)) ((SD.trans Sp).trans (af.updN ht)) ((SD.trans Sp).free ht) ac⟩
 rintro σ3 H3 ⟨hGO,rfl,S3⟩;have K3:=K0.same (aQ S3);have oF3:=oF.same S3;refine ar (fun σ' H'=>(1≤d∧d≤400)∧σ'=[some (.ref lk),some (.str b),some (.ref lu),some (.int d),none,none]∧H'=H3) (fun R hR=>?_) ?_
 . walk_at"";have hbad:¬(1≤d∧d≤400)→iU [V.str (zV "NoDay")] H3 Q E0:=fun hn=>⟨_,rfl,by decide,fun t ht=>q1 t _ _ (.inr (.inr (.inl ⟨hbm,hGO,hn,rfl⟩))) (S3.trans (af.updN ht)) (S3.free ht) ac⟩;exact aB (fun h=>hbad (by omega)) (fun h1=>aB (fun h=>hbad (by omega)) (fun h2=>hR _ _ ⟨by omega,rfl,rfl⟩))
 rintro σ4 H4 ⟨hday,rfl,rfl⟩;refine ar (fun σ' H'=>h.day≤d∧bf h.dp d=[]∧σ'=[some (.ref lk),some (.str b),some (.ref lu),some (.int d),none,none]∧af H4 H') (fun R hR=>?_) ?_
 . walk_at"";refine⟨_,SqL.of (av _ _ K3.r.hlk),_,rfl,_,rfl,aB (fun hl=>⟨_,rfl,by decide,fun t ht=>q1 t _ _ (.inr (.inr (.inr ⟨hbm,hGO,hday,.inl hl,rfl⟩))) (S3.trans (af.updN ht)) (S3.free ht) ac⟩) (fun hl=>?_)⟩;refine⟨lk,kc,kd,kt,lo,so,ns,ss,h,Tb,d,rfl,K3.r.same av,ho.dl,fun l ps H' S _ hl2 hT=>⟨by omega,fun p hp=>?_⟩⟩;have hpl:=hT.1;rw[be] at hpl;have Sp:=af.updN (o:=.lst []) hp;refine⟨l,rfl,_,SqL.of (Sp _ _ hl2),[],SqL.of ac,?_,?_⟩
   . by_cases e:ps=[]
     . exact .inr (.inr (by rw[e];rfl))
     . exact .inr (.inl (by rw[be];exact fun z=>e (List.length_eq_zero_iff.mp z)))
   rw[ia];by_cases hne:bf h.dp d=[]
   . have hpe:ps=[]:=List.length_eq_zero_iff.mp (by rw[hpl,hne];rfl);rw[hpe,if_neg (by decide)];exact hR _ _ ⟨by omega,hne,rfl,S.trans Sp⟩
   . have hpe:ps≠[]:=fun e=>hne (List.length_eq_zero_iff.mp (by rw[←hpl,e];rfl));rw[if_pos (by rw[decide_eq_false (fun e=>hpe (List.map_eq_nil_iff.mp e))];decide)];exact⟨_,rfl,by decide,fun t ht=>q1 t _ _ (.inr (.inr (.inr ⟨hbm,hGO,hday,.inr hne,rfl⟩))) (((S3.trans S).trans Sp).trans (af.updN ht)) (((S3.trans S).trans Sp).free ht) ac⟩
 rintro σ5 H5 ⟨hge,hno,rfl,S5⟩;have K5:=K3.same (aQ S5);have oF5:=oF3.same S5;obtain⟨T0,el,hTl⟩:∃ s q,Tb=s++[q]:=⟨_,_,(Ap hnl2).symm⟩
 have hql0:qs≠[]:=fun e=>by rw[e] at hp0;cases hp0
 obtain⟨qs0,p1,hqs⟩:∃ s q,qs=s++[q]:=⟨_,_,(Ap hql0).symm⟩
 have hdl0:ds≠[]:=fun e=>by rw[e,hTl] at hdsl;simp at hdsl
 obtain⟨ds0,d1,hds⟩:∃ s q,ds=s++[q]:=⟨_,_,(Ap hdl0).symm⟩
 have l1:qs0.length=T0.length:=by rw[hqs,hTl,zY,zY] at hql;simpa using hql
 have l2:ds0.length=T0.length:=by rw[hds,hTl,zY,zY] at hdsl;simpa using hdsl
 obtain⟨ht1,hG1⟩:=hE T0.length p1 d1 el (by rw[hqs,z9 (by omega),l1,AL];rfl) (by rw[hds,z9 (by omega),l2,AL];rfl) (by rw[hTl,z9 (z7 _),AL];rfl);have S35:=S3.trans S5;have SB:=aQ (F:=F) S35;have hE5:∀ (i:Nat) p d e,qs[i]?=some p→ds[i]?=some d→Tb[i]?=some e→bv F H5 p=some (.tup [.int e.1,.ref d])∧de (hide (bv F H5) kc) d ss ns e.2:=fun i p d e a b c=>⟨SB _ _ (hE i p d e a b c).1,Fz.tabG (af.fz (eW SB kc)) (hE i p d e a b c).2⟩;have hkt5:=SB _ _ hkt;have ht15:=av _ _ (SB _ _ ht1);obtain⟨kvs,hRdh,hkeys,hent⟩:=Fz.tabG (af.fz (eW SB kc)) hG1;have hRd:=af.rd (bP.trans av) hRdh
 have hkl:kvs.length=ns.length:=by
   have:=congrArg Cr hkeys
   rwa [be,be] at this
 refine ar (fun σ' H'=>∃ dn,H5 dn=none∧σ'=[some (.ref lk),some (.str b),some (.ref lu),some (.int d),some (.ref dn),none]∧H'=upd H5 dn (.dK kvs)) (fun R hR=>?_) ?_
 . walk_at"";exact⟨_,SqL.of (av _ _ K5.r.hlk),_,rfl,kt,rfl,_,SqL.of (av _ _ hkt5),V.ref p1,by rw[hqs,z8];exact eQ _ _,p1,rfl,_,SqT.of ht15,_,rfl,d1,rfl,_,hRd,fun p hp=>hR _ _ ⟨p,hp,rfl,rfl⟩⟩
 rintro σ6 H6 ⟨dn,hdn,rfl,rfl⟩;refine ar (fun σ' H'=>∃ r,H5 r=none∧r≠dn∧σ'=[some (.ref lk),some (.str b),some (.ref lu),some (.int d),some (.ref dn),none]∧af H5 H'∧H' dn=some (.dK (dj kvs (Sum.inr b) (.ref r)))∧H' r=some (.dK [])) (fun R hR=>?_) ?_
 . walk_at"";intro r hr;have Sn:=af.updN (o:=.dK kvs) hdn;have hr5:=Sn.free hr
   have hrd:r≠dn:=fun z=>by rw[z,ac] at hr;cases hr
   refine⟨_,.inl ⟨_,Sum.inr b,by rw[ai (Ne.symm hrd)];exact ac,rfl,by omega,rfl⟩,hR _ _ ⟨r,hr5,hrd,rfl,?_,ac,by rw[ai hrd];exact ac⟩⟩;exact cI (Sn.trans (af.updN hr)) hdn
 rintro σ7 H7 ⟨r,hr5,hrd,rfl,S7,hdn7,hr7⟩;have hlo7:=S7 _ _ (av _ _ K5.r.hlo);have hlk7:=S7 _ _ (av _ _ K5.r.hlk);have hlu7:=S7 _ _ (S35 _ _ hlu)
 have hval:bG (dj kvs (Sum.inr b) (.ref r)) (Sum.inr b)=some (V.ref r):=by rw[jx,if_pos rfl]
 refine ar (fun σ' H'=>∃ o5,σ'=[some (.ref lk),some (.str b),some (.ref lu),some (.int d),some (.ref dn),o5]∧H'=upd H7 r (.dK (bX so (os.map V.str)))) (fun R hR=>?_) ?_
 . walk_at"";refine⟨_,.inl (SqL.of hlu7),by rw[be];omega,by rw[be];omega,?_⟩;rw[be,AG];refine a8 (H0:=fun _=>none) bu (fun k σ' H''=>∃ o5,σ'=[some (.ref lk),some (.str b),some (.ref lu),some (.int d),some (.ref dn),o5]∧H''=upd H7 r (.dK (bX (so.take k) ((os.take k).map V.str)))) ⟨none,rfl,?_⟩ (fun _ _ _ _ _ b o e=>by cases e) ?_ ?_
   . funext y;by_cases e:y=r
     . rw[e,ac];exact hr7
     . rw[ai e]
   . rintro k x σ H'' hk2 rfl ⟨o5,rfl,rfl⟩ R4 hR4
     have ek:(0:Int)+(k:Int)=k:=by omega
     rw[ek];have hol:=hGO.1;obtain⟨sk,hsk⟩:∃ y,so[k]?=some y:=⟨_,zW (by omega)⟩;obtain⟨ok,hok⟩:∃ y,os[k]?=some y:=⟨_,zW hk2⟩
     have hl2:(so.take k).length=((os.take k).map V.str).length:=by rw[be,Ao,Ao];omega
     have nl:∀ {x xs},H7 x=some (.lst xs)→x≠r:=fun {x xs} e z=>by rw[z,hr7] at e;cases e
     walk_at"";refine⟨_,SqL.of (by rw[ai (nl hlu7)];exact hlu7),_,bZ hok,V.ref r,.inl ⟨_,Sum.inr b,.inl (by rw[ai (Ne.symm hrd)];exact hdn7),rfl,hval.symm⟩,_,SqL.of (by rw[ai (nl hlk7)];exact hlk7),_,rfl,lo,rfl,_,SqL.of (by rw[ai (nl hlo7)];exact hlo7),_,bZ hsk,r,rfl,_,.inl ⟨_,Sum.inr sk,ac,rfl,by rw[fL hl2,Ao];omega,rfl⟩,hR4 _ _ ⟨_,rfl,?_⟩⟩;rw[ic,cU _ (bV _ _ _ (eS hson hsk)),bw hsk,bw hok,z8];exact congrArg (fun z=>upd H7 r (HO.dK z)) (eT sk (V.str ok) hl2).symm
   . rintro σ H'' ⟨o5,rfl,rfl⟩;rw[AR,show so.take os.length=so by rw[hGO.1,AR]];exact hR _ _ ⟨_,rfl,rfl⟩
 rintro σ8 H8 ⟨o5,rfl,rfl⟩;have S8:af H5 (upd H7 r (.dK (bX so (os.map V.str)))):=cI S7 hr5
 have hdn8:upd H7 r (.dK (bX so (os.map V.str))) dn=some (.dK (dj kvs (Sum.inr b) (.ref r))):=by rw[ai (Ne.symm hrd)];exact hdn7
 have hr8:upd H7 r (.dK (bX so (os.map V.str))) r=some (.dK (bX so (os.map V.str))):=ac;generalize upd H7 r (.dK (bX so (os.map V.str)))=H8 at *;have K8:=K5.same (aQ S8);have oF8:=oF5.same S8
 have hnc:∀ {x},H5 x=none→x≠kc:=fun {x} hx z=>by rw[z,av _ _ K5.kcx] at hx;cases hx
 have hT8:de (hide (bv F H8) kc) dn ss ns (eo so b os el.2):=by
   have hid8:∀ {x u},H5 x=none→H8 x=some u→hide (bv F H8) kc x=some u:=fun {x u} h1 h2=>by
     rw[aW (hnc h1)];exact cc h2 (oF5.new h1)
   refine⟨_,.inl (hid8 hdn hdn8),?_,fun n hn=>?_⟩
   . obtain⟨r0,kv0,e0,_⟩:=hent b hbm;rw[uV (by rw[e0];rfl),hkeys]
   . by_cases hnb:n=b
     . subst hnb;refine⟨r,_,by rw[jx,if_pos rfl],.inl (hid8 hr5 hr8),fun z hz=>?_⟩;unfold eo;rw[if_pos rfl];exact mn (b:=(n,os)) hson hGO.1 (hpm.mem_iff.mpr hz)
     . obtain⟨r1,kv1,f1,f2,f3⟩:=hent n hn;refine⟨r1,kv1,by rw[jx,if_neg (fun e=>hnb (Sum.inr.inj e))];exact f1,af.rd (eW (aQ S8) kc) f2,fun z hz=>?_⟩;unfold eo;rw[if_neg hnb];exact f3 z hz
 have hkt8:=(aQ S8) _ _ hkt5;refine ar (fun σ' H'=>∃ p,H8 p=none∧σ'=[some (.ref lk),some (.str b),some (.ref lu),some (.int d),some (.ref dn),o5]∧H'=upd (upd H8 p (.tup [.int d,.ref dn])) kt (.lst ((qs++[p]).map V.ref))) (fun R hR=>?_) ?_
 . walk_at"";refine⟨_,SqL.of (av _ _ K8.r.hlk),_,rfl,.inl ⟨rfl,_,SqL.of (av _ _ hkt8)⟩,by omega,fun p hp=>⟨kt,rfl,_,by rw[ai (aG (av _ _ hkt8) hp)];exact av _ _ hkt8,by rw[be];omega,hR _ _ ⟨p,hp,rfl,?_⟩⟩⟩;rw[z8];rfl
 rintro σ9 H9 ⟨p,hp,rfl,rfl⟩;have Sp:af H8 (upd H8 p (.tup [.int d,.ref dn])):=af.updN hp;have SpB:=aQ (F:=F) Sp;have fkt:=(aK hkt).2;have flk:=(aK KR0.hlk).2;have K9:=(K8.same SpB).tb (p:=p) (d:=dn) (dd:=d) (lk2:=eo so b os el.2) (SpB _ _ hkt8) hdsl (fun i p d e a b c=>⟨SpB _ _ ((aQ S8) _ _ (hE5 i p d e a b c).1),Fz.tabG (af.fz (eW ((aQ S8).trans SpB) kc)) (hE5 i p d e a b c).2⟩) (cc ac (oF8.new hp)) (Fz.tabG (af.fz (eW SpB kc)) hT8);rw[←dk fkt] at K9;have O9:Owx [lk,kc,kd,kt] H2 (upd (upd H8 p (.tup [.int d,.ref dn])) kt (.lst ((qs++[p]).map V.ref))):=(Owx.same ((S35.trans S8).trans Sp)).trans (Owx.upd (by simp));generalize upd (upd H8 p (.tup [.int d,.ref dn])) kt (.lst ((qs++[p]).map V.ref))=H9 at *;refine ar (fun σ' H'=>σ'=[some (.ref lk),some (.str b),some (.ref lu),some (.int d),some (.ref dn),o5]∧H'=upd H9 lk (.lst [.ref kc,.ref kd,.ref kt,.int d,.ref lo])) (fun R hR=>?_) ?_
 . walk_at"";exact⟨_,av _ _ K9.r.hlk,3,(by show ixN 5 3=some 3;decide),hR _ _ ⟨rfl,rfl⟩⟩
 rintro σ10 H10 ⟨rfl,rfl⟩;have K10:=K9.dy (d2:=d);rw[←dk flk] at K10;walk_at"";exact q2 hbm hGO hday hge hno el (by rw[hTl];simp) _ (O9.trans (Owx.upd (by simp))) K10
theorem aZ {K:PySem.W.Frag}{σ:St}{H:Hp}{i:Nat}{t:Addr}{nm k:Str}{cO:List V}{A B:TS}{D:gl}(hσ:σ[i]?=some (some (.ref t)))(ht:H t=some (.tup (.str nm::cO)))(hn:nm≠k)(q:B D σ H):vh (nD (tOp rEq (tOp (qA K) (k4 i) (tC (.int 0))) (tC (.str k)))) A B D σ H:=by
 unfold vh nD tOp k4 tC;rw[hσ];refine⟨.str nm::cO,.str nm,SqT.of ht,bS (j:=0) rfl,rfl,?_⟩;have h:decide (V.str nm=V.str k)=false:=decide_eq_false fun e=>hn (V.str.inj e);rw[h];exact q
inductive Dd where
 | bring (c z:Str)
 | dip (c b:Str) (d:Int)
 | back (d:Int)
 | change (b:Str)(lu:Addr)(os:List Str) (d:Int)
 | shade (c:Str) (d:Int)
 | trail (c:Str) (d:Int)
 | dips (d:Int)
 | book (d:Int)
def Dd.tup:Dd→List V
 | .bring c z=>[.str "bring",.str c,.str z]
 | .dip c b d=>[.str "dip",.str c,.str b,.int d]
 | .back d=>[.str "back",.int d]
 | .change b lu _ d=>[.str "change",.str b,.ref lu,.int d]
 | .shade c d=>[.str "shade",.str c,.int d]
 | .trail c d=>[.str "trail",.str c,.int d]
 | .dips d=>[.str "dips",.int d]
 | .book d=>[.str "book",.int d]
def Dd.bad (ns so:List Str) (h:Hs) (w:Str):Dd→Prop
 | .bring c z=>(bc c=false∧w=zV "BadName")∨(bc c=true∧c∈h.cl.map (·.1)∧w=zV "Known")∨(bc c=true∧c∉h.cl.map (·.1)∧z∉so∧w=zV "NoShade")
 | .dip c b d=>(c∉h.cl.map (·.1)∧w=zV "NoCloth")∨(c∈h.cl.map (·.1)∧b∉ns∧w=zV "NoBath")∨(c∈h.cl.map (·.1)∧b∈ns∧¬(1≤d∧d≤400)∧w=zV "NoDay")∨(c∈h.cl.map (·.1)∧b∈ns∧(1≤d∧d≤400)∧d < h.day∧w=zV "Late")
 | .back d=>(¬(1≤d∧d≤400)∧w=zV "NoDay")∨((1≤d∧d≤400)∧d < h.day∧w=zV "Late")∨((1≤d∧d≤400)∧h.day≤d∧bf h.dp d=[]∧w=zV "NoDip")
 | .change b _ os d=>(b∉ns∧w=zV "NoBath")∨(b∈ns∧¬GO so os∧w=zV "BadBook")∨(b∈ns∧GO so os∧¬(1≤d∧d≤400)∧w=zV "NoDay")∨(b∈ns∧GO so os∧(1≤d∧d≤400)∧(d < h.day∨bf h.dp d≠[])∧w=zV "Late")
 | .shade c d=>(c∉h.cl.map (·.1)∧w=zV "NoCloth")∨(c∈h.cl.map (·.1)∧¬(1≤d∧d≤400)∧w=zV "NoDay")
 | .trail c d=>(c∉h.cl.map (·.1)∧w=zV "NoCloth")∨(c∈h.cl.map (·.1)∧¬(1≤d∧d≤400)∧w=zV "NoDay")
 | .dips d=>¬(1≤d∧d≤400)∧w=zV "NoDay"
 | .book d=>¬(1≤d∧d≤400)∧w=zV "NoDay"
def Dd.good (ns so:List Str) (h:Hs):Dd→Prop
 | .bring c z=>bc c=true∧c∉h.cl.map (·.1)∧z∈so
 | .dip c b d=>c∈h.cl.map (·.1)∧b∈ns∧(1≤d∧d≤400)∧h.day≤d
 | .back d=>(1≤d∧d≤400)∧h.day≤d∧bf h.dp d≠[]
 | .change b _ os d=>b∈ns∧GO so os∧(1≤d∧d≤400)∧h.day≤d∧bf h.dp d=[]
 | .shade c d=>c∈h.cl.map (·.1)∧(1≤d∧d≤400)
 | .trail c d=>c∈h.cl.map (·.1)∧(1≤d∧d≤400)
 | .dips d=>1≤d∧d≤400
 | .book d=>1≤d∧d≤400
inductive DV where
 | non
 | str (z:Str)
 | pair (a b:Str)
 | trail (L:List (Int×Str×Str))
 | dips (L:List (Str×Str))
def Dd.val (h:Hs):Dd→DV
 | .dip c b d=>.str (lkB (aR h.bk d).1 (aR h.bk d).2 b (aV h c d))
 | .back d=>match (bf h.dp d).getLast? with
   | some e=>.pair e.1 e.2
   | none=>.non
 | .shade c d=>.str (aV h c d)
 | .trail c d=>.trail (aX h.dp c d)
 | .dips d=>.dips (bf h.dp d)
 | _=>.non
def t7 (H:Hp) (v:V):DV→Prop
 | .non=>v=.non
 | .str z=>v=.str z
 | .pair a b=>∃ t,v=.ref t∧H t=some (.tup [.str a,.str b])
 | .trail L=>∃ (l:Addr)(ps:List Addr),v=.ref l∧H l=some (.lst (ps.map V.ref))∧cn H ps (L.map fun e=>[.int e.1,.str e.2.1,.str e.2.2])
 | .dips L=>∃ (l:Addr)(ps:List Addr),v=.ref l∧H l=some (.lst (ps.map V.ref))∧cn H ps (L.map fun e=>[.str e.1,.str e.2])
def DvN (H0 H:Hp) (v:V):DV→Prop
 | .trail L=>∃ (l:Addr)(ps:List Addr),v=.ref l∧H0 l=none∧H l=some (.lst (ps.map V.ref))∧cn H ps (L.map fun e=>[.int e.1,.str e.2.1,.str e.2.2])
 | .dips L=>∃ (l:Addr)(ps:List Addr),v=.ref l∧H0 l=none∧H l=some (.lst (ps.map V.ref))∧cn H ps (L.map fun e=>[.str e.1,.str e.2])
 | x=>t7 H v x
def Dd.step (h:Hs):Dd→Hs
 | .bring c z=>{ h with cl:=h.cl++[(c,z)] }
 | .dip c b d=>{ h with day:=d,dp:=h.dp++[(d,c,b,lkB (aR h.bk d).1 (aR h.bk d).2 b (aV h c d))] }
 | .back _=>{ h with dp:=h.dp.dropLast }
 | .change _ _ _ d=>{ h with day:=d }
 | _=>h
def Dd.tb (so:List Str)(Tb:List (Int×LK)):Dd→List (Int×LK)
 | .change b _ os d=>match Tb.getLast? with
   | some el=>Tb++[(d,eo so b os el.2)]
   | none=>Tb
 | _=>Tb
def Dd.fine (H:Hp):Dd→Prop
 | .bring c z=>Shw c∧Shw z
 | .dip c b _=>Shw c∧Shw b
 | .change b lu os _=>Shw b∧H lu=some (.lst (os.map V.str))∧os.length≤100∧∀ v∈os,Shw v
 | .shade c _=>Shw c
 | .trail c _=>Shw c
 | _=>True
structure nQ (ns so ss:List Str) (h:Hs)(Tb:List (Int×LK)):Prop where
 TO:TOk ss ns h Tb
 HR:fU h
 ho:bH ss ns h
 hbn:∀ e∈h.dp,e.2.2.1∈ns
 hcn:∀ e∈h.dp,e.2.1∈h.cl.map (·.1)
 ts:∀ e∈Tb,1≤e.1∧e.1≤h.day
 ssn:ss.Nodup
 son:so.Nodup
 srt:AC so=true
 nsn:ns.Nodup
 pm:so.Perm ss
 so12:so.length≤12
 ns8:ns.length≤8
 dl:h.dp.length < 1000
 cl60:h.cl.length≤60
 tl9:Tb.length < 1000
def jK:Sp:=fun vs H Q _=>∃ (lk kc kd kt lo:Addr)(so ns ss:List Str) (h:Hs)(Tb:List (Int×LK))(t:Addr)(dd:Dd),vs=[.ref lk,.ref t]∧H t=some (.tup dd.tup)∧KR H lk kc kd kt lo so ns ss h Tb∧nQ ns so ss h Tb∧((∃ c d,dd=.shade c d)∨(∃ c d,dd=.trail c d)∨(∃ d,dd=.dips d)∨∃ d,dd=.book d)∧(∀ t' H' w,dd.bad ns so h w→af H H'→H t'=none→H' t'=some (.tup (dJ w))→Q (.ref t') H')∧(dd.good ns so h→∀ v H',af H H'→DvN H H' v (dd.val h)→Q v H')
theorem qx:ax ["_law_kept", "_law_deed_here"] ["_law_kept", "_law_deed_here"] (ao iE):=sM
theorem oP {f fNw fSD fTD fDpD:Addr}{fd fdNw fdSD fdTD fdDpD:FuncData}(F:Fun K "_law_asked_due" "_law_asked_due" iE f fd)
   (T:Txt mg)
   (GNw:Cl P w K mg base CX0 1 "_law_no" ["_law_word"] iU fNw fdNw)
   (GSD:Cl P w K mg base CX0 3 "_law_shade_due" ["_law_kept", "_law_cloth", "_law_day_here"] fg fSD fdSD)
   (GTD:Cl P w K mg base CX0 2 "_law_trail_due" ["_law_kept", "_law_cloth", "_law_day_here"] eZ fTD fdTD)
   (GDpD:Cl P w K mg base CX0 1 "_law_dips_due" ["_law_kept", "_law_day_here"] ge fDpD fdDpD) :
   aU P w K mg base CX0 4 f fd ["_law_kept", "_law_deed_here"] jK:=by
 refine oq F qx fun cdv A outer s H vs Q E hr h=>?_;obtain⟨lk,kc,kd,kt,lo,so,ns,ss,h,Tb,t,dd,rfl,htt,KR0,KA0,hk,q1,q2⟩:=h;have hu:=eM hr;have hr1:=hr.mono (j:=1) (by omega);have hr2:=hr.mono (j:=2) (by omega);have hr3:=hr.mono (j:=3) (by omega)
 refine⟨_,(aj (aC (PW.pt (jV (aq lA (pI aI (pv 1) ag) (bj (aa ay (aa ay ae))) (by with_unfolding_all rfl)) (gT (fu (dw hu (pI aI (pv 1) ag) (pI ak (pv 0) ag)))))) (ah (ap (pC GNw hr1 az (aa ay ae)))) am)
   (aj (aC (PW.pt (eE (aq cW (pI aI (pv 1) (d9 cK ag)) ag (aw _)) (dc (aq fE (pI aI (pv 1) (d9 cK ag)) ag (aw _))))) (ah (ap (pC GNw hr1 az (aa ay ae)))) am)
   (aj (aC (aq bK (pI aI (pv 1) ag) ay (aw _)) (ah (ap (pC GSD hr3 az (aa (pv 0) (aa (pI aI (pv 1) ag) (aa (pI aI (pv 1) ag) ae)))))) am)
   (aj (aC (aq bK (pI aI (pv 1) ag) ay (aw _)) (ah (ap (pC GTD hr2 az (aa (pv 0) (aa (pI aI (pv 1) ag) (aa (pI aI (pv 1) ag) ae)))))) am)
   (aj (aC (aq bK (pI aI (pv 1) ag) ay (aw _)) (ah (ap mP)) am)
   (ah (ap (pC GDpD hr1 az (aa (pv 0) (aa (pI aI (pv 1) ag) ae)))))))))),?_⟩
 try dsimp only[aF,aO]
 have hs:=aL
 have hval:∀ c∈h.cl.map (·.1),∃ z0,bG (clV h.cl) (Sum.inr c)=some (V.str z0):=fun c hm=>by
   obtain⟨x,hx,rfl⟩:=List.mem_map.mp hm;exact⟨x.2,eB KA0.ho.cnd hx⟩
 rcases hk with ⟨c,d,rfl⟩ | ⟨c,d,rfl⟩ | ⟨d,rfl⟩ | ⟨d,rfl⟩
 . refine ar (fun σ' H'=>c∈h.cl.map (·.1)∧σ'=[some (.ref lk),some (.ref t)]∧af H H') (fun R hR=>?_) ?_
   . walk_at"";refine⟨_,SqT.of htt,_,rfl,by omega,fun p hp=>?_⟩;have Sp:=af.updN (o:=.tup [V.str (zV "shade"),V.str (zV "trail")]) hp;refine⟨_,.inr (SqT.of ac),rfl,rfl,aB (fun _=>?_) (fun h=>absurd (by decide) h)⟩;by_cases hm:c∈h.cl.map (·.1)
     . obtain⟨z0,hv⟩:=hval c hm;exact⟨_,SqT.of (Sp _ _ htt),_,rfl,_,SqL.of (Sp _ _ KR0.hlk),_,rfl,kc,rfl,some _,.inl ⟨_,Sum.inr c,af.rd Sp KR0.hkc,rfl,hv.symm⟩,aB (fun h=>by cases h) (fun _=>hR _ _ ⟨hm,rfl,Sp⟩)⟩
     . exact⟨_,SqT.of (Sp _ _ htt),_,rfl,_,SqL.of (Sp _ _ KR0.hlk),_,rfl,kc,rfl,none,.inl ⟨_,Sum.inr c,af.rd Sp KR0.hkc,rfl,(bM hm).symm⟩,aB (fun _=>⟨_,rfl,by decide,fun t ht=>q1 t _ _ (.inl ⟨hm,rfl⟩) (Sp.trans (af.updN ht)) (Sp.free ht) ac⟩) (fun h=>absurd rfl h)⟩
   rintro σ1 H1 ⟨hcm,rfl,S1⟩;refine ar (fun σ' H'=>(1≤d∧d≤400)∧σ'=[some (.ref lk),some (.ref t)]∧H'=H1) (fun R hR=>?_) ?_
   . walk_at"";have hbad:¬(1≤d∧d≤400)→iU [V.str (zV "NoDay")] H1 Q E0:=fun hn=>⟨_,rfl,by decide,fun t ht=>q1 t _ _ (.inr ⟨hcm,hn,rfl⟩) (S1.trans (af.updN ht)) (S1.free ht) ac⟩;exact⟨_,SqT.of (S1 _ _ htt),_,rfl,_,rfl,aB (fun h=>hbad (by omega)) (fun h1=>⟨_,SqT.of (S1 _ _ htt),_,rfl,_,rfl,aB (fun h=>hbad (by omega)) (fun h2=>hR _ _ ⟨by omega,rfl,rfl⟩)⟩)⟩
   rintro σ2 H2 ⟨hday,rfl,rfl⟩;refine ar (fun σ' H'=>False) (fun R hR=>?_) (fun _ _ h=>h.elim);walk_at"";exact⟨_,SqT.of (S1 _ _ htt),_,rfl,rfl,aB (fun _=>⟨_,SqT.of (S1 _ _ htt),_,rfl,_,SqT.of (S1 _ _ htt),_,rfl,lk,kc,kd,kt,lo,so,ns,ss,h,Tb,c,d,rfl,KR0.same S1,KA0.TO,KA0.HR,KA0.ho,KA0.hbn,hcm,fun H' S=>q2 ⟨hcm,hday⟩ _ _ (S1.trans S) rfl⟩) (fun h=>absurd rfl h)⟩
 . refine ar (fun σ' H'=>c∈h.cl.map (·.1)∧σ'=[some (.ref lk),some (.ref t)]∧af H H') (fun R hR=>?_) ?_
   . walk_at"";refine⟨_,SqT.of htt,_,rfl,by omega,fun p hp=>?_⟩;have Sp:=af.updN (o:=.tup [V.str (zV "shade"),V.str (zV "trail")]) hp;refine⟨_,.inr (SqT.of ac),rfl,rfl,aB (fun _=>?_) (fun h=>absurd (by decide) h)⟩;by_cases hm:c∈h.cl.map (·.1)
     . obtain⟨z0,hv⟩:=hval c hm;exact⟨_,SqT.of (Sp _ _ htt),_,rfl,_,SqL.of (Sp _ _ KR0.hlk),_,rfl,kc,rfl,some _,.inl ⟨_,Sum.inr c,af.rd Sp KR0.hkc,rfl,hv.symm⟩,aB (fun h=>by cases h) (fun _=>hR _ _ ⟨hm,rfl,Sp⟩)⟩
     . exact⟨_,SqT.of (Sp _ _ htt),_,rfl,_,SqL.of (Sp _ _ KR0.hlk),_,rfl,kc,rfl,none,.inl ⟨_,Sum.inr c,af.rd Sp KR0.hkc,rfl,(bM hm).symm⟩,aB (fun _=>⟨_,rfl,by decide,fun t ht=>q1 t _ _ (.inl ⟨hm,rfl⟩) (Sp.trans (af.updN ht)) (Sp.free ht) ac⟩) (fun h=>absurd rfl h)⟩
   rintro σ1 H1 ⟨hcm,rfl,S1⟩;refine ar (fun σ' H'=>(1≤d∧d≤400)∧σ'=[some (.ref lk),some (.ref t)]∧H'=H1) (fun R hR=>?_) ?_
   . walk_at"";have hbad:¬(1≤d∧d≤400)→iU [V.str (zV "NoDay")] H1 Q E0:=fun hn=>⟨_,rfl,by decide,fun t ht=>q1 t _ _ (.inr ⟨hcm,hn,rfl⟩) (S1.trans (af.updN ht)) (S1.free ht) ac⟩;exact⟨_,SqT.of (S1 _ _ htt),_,rfl,_,rfl,aB (fun h=>hbad (by omega)) (fun h1=>⟨_,SqT.of (S1 _ _ htt),_,rfl,_,rfl,aB (fun h=>hbad (by omega)) (fun h2=>hR _ _ ⟨by omega,rfl,rfl⟩)⟩)⟩
   rintro σ2 H2 ⟨hday,rfl,rfl⟩;refine ar (fun σ' H'=>σ'=[some (.ref lk),some (.ref t)]∧H'=H2) (fun R hR=>?_) ?_
   . walk_at"";exact⟨_,SqT.of (S1 _ _ htt),_,rfl,rfl,aB (fun h=>absurd (V.str.inj h) (by decide)) (fun _=>hR _ _ ⟨rfl,rfl⟩)⟩
   rintro σ3 H3 ⟨rfl,rfl⟩;refine ar (fun σ' H'=>False) (fun R hR=>?_) (fun _ _ h=>h.elim);walk_at"";exact⟨_,SqT.of (S1 _ _ htt),_,rfl,rfl,aB (fun _=>⟨_,SqT.of (S1 _ _ htt),_,rfl,_,SqT.of (S1 _ _ htt),_,rfl,lk,kc,kd,kt,lo,so,ns,ss,h,Tb,c,d,rfl,KR0.same S1,KA0.TO,KA0.HR,KA0.ho,KA0.hbn,hcm,fun l ps H' S hn hl hT=>q2 ⟨hcm,hday⟩ _ _ (S1.trans S) ⟨l,ps,rfl,S1.free hn,hl,hT⟩⟩) (fun h=>absurd rfl h)⟩
 . refine ar (fun σ' H'=>σ'=[some (.ref lk),some (.ref t)]∧af H H') (fun R hR=>?_) ?_
   . walk_at"";refine⟨_,SqT.of htt,_,rfl,by omega,fun p hp=>?_⟩;have Sp:=af.updN (o:=.tup [V.str (zV "shade"),V.str (zV "trail")]) hp;exact⟨_,.inr (SqT.of ac),rfl,rfl,aB (fun h=>absurd h (by decide)) (fun _=>hR _ _ ⟨rfl,Sp⟩)⟩
   rintro σ1 H1 ⟨rfl,S1⟩;refine ar (fun σ' H'=>(1≤d∧d≤400)∧σ'=[some (.ref lk),some (.ref t)]∧H'=H1) (fun R hR=>?_) ?_
   . walk_at"";have hbad:¬(1≤d∧d≤400)→iU [V.str (zV "NoDay")] H1 Q E0:=fun hn=>⟨_,rfl,by decide,fun t ht=>q1 t _ _ (⟨hn,rfl⟩) (S1.trans (af.updN ht)) (S1.free ht) ac⟩;exact⟨_,SqT.of (S1 _ _ htt),_,rfl,_,rfl,aB (fun h=>hbad (by omega)) (fun h1=>⟨_,SqT.of (S1 _ _ htt),_,rfl,_,rfl,aB (fun h=>hbad (by omega)) (fun h2=>hR _ _ ⟨by omega,rfl,rfl⟩)⟩)⟩
   rintro σ2 H2 ⟨hday,rfl,rfl⟩;refine ar (fun σ' H'=>σ'=[some (.ref lk),some (.ref t)]∧H'=H2) (fun R hR=>?_) ?_
   . walk_at"";exact⟨_,SqT.of (S1 _ _ htt),_,rfl,rfl,aB (fun h=>absurd (V.str.inj h) (by decide)) (fun _=>hR _ _ ⟨rfl,rfl⟩)⟩
   rintro σ3 H3 ⟨rfl,rfl⟩;refine ar (fun σ' H'=>σ'=[some (.ref lk),some (.ref t)]∧H'=H3) (fun R hR=>?_) ?_
   . walk_at"";exact⟨_,SqT.of (S1 _ _ htt),_,rfl,rfl,aB (fun h=>absurd (V.str.inj h) (by decide)) (fun _=>hR _ _ ⟨rfl,rfl⟩)⟩
   rintro σ4 H4 ⟨rfl,rfl⟩;refine ar (fun σ' H'=>σ'=[some (.ref lk),some (.ref t)]∧H'=H4) (fun R hR=>?_) ?_
   . walk_at"";exact⟨_,SqT.of (S1 _ _ htt),_,rfl,rfl,aB (fun h=>absurd (V.str.inj h) (by decide)) (fun _=>hR _ _ ⟨rfl,rfl⟩)⟩
   rintro σ5 H5 ⟨rfl,rfl⟩;walk_at"";exact⟨_,SqT.of (S1 _ _ htt),_,rfl,lk,kc,kd,kt,lo,so,ns,ss,h,Tb,d,rfl,KR0.same S1,KA0.ho.dl,fun l ps H' S hn hl hT=>q2 hday _ _ (S1.trans S) ⟨l,ps,rfl,S1.free hn,hl,hT⟩⟩
 . refine ar (fun σ' H'=>σ'=[some (.ref lk),some (.ref t)]∧af H H') (fun R hR=>?_) ?_
   . walk_at"";refine⟨_,SqT.of htt,_,rfl,by omega,fun p hp=>?_⟩;have Sp:=af.updN (o:=.tup [V.str (zV "shade"),V.str (zV "trail")]) hp;exact⟨_,.inr (SqT.of ac),rfl,rfl,aB (fun h=>absurd h (by decide)) (fun _=>hR _ _ ⟨rfl,Sp⟩)⟩
   rintro σ1 H1 ⟨rfl,S1⟩;refine ar (fun σ' H'=>(1≤d∧d≤400)∧σ'=[some (.ref lk),some (.ref t)]∧H'=H1) (fun R hR=>?_) ?_
   . walk_at"";have hbad:¬(1≤d∧d≤400)→iU [V.str (zV "NoDay")] H1 Q E0:=fun hn=>⟨_,rfl,by decide,fun t ht=>q1 t _ _ (⟨hn,rfl⟩) (S1.trans (af.updN ht)) (S1.free ht) ac⟩;exact⟨_,SqT.of (S1 _ _ htt),_,rfl,_,rfl,aB (fun h=>hbad (by omega)) (fun h1=>⟨_,SqT.of (S1 _ _ htt),_,rfl,_,rfl,aB (fun h=>hbad (by omega)) (fun h2=>hR _ _ ⟨by omega,rfl,rfl⟩)⟩)⟩
   rintro σ2 H2 ⟨hday,rfl,rfl⟩;refine ar (fun σ' H'=>σ'=[some (.ref lk),some (.ref t)]∧H'=H2) (fun R hR=>?_) ?_
   . walk_at"";exact⟨_,SqT.of (S1 _ _ htt),_,rfl,rfl,aB (fun h=>absurd (V.str.inj h) (by decide)) (fun _=>hR _ _ ⟨rfl,rfl⟩)⟩
   rintro σ3 H3 ⟨rfl,rfl⟩;refine ar (fun σ' H'=>σ'=[some (.ref lk),some (.ref t)]∧H'=H3) (fun R hR=>?_) ?_
   . walk_at"";exact⟨_,SqT.of (S1 _ _ htt),_,rfl,rfl,aB (fun h=>absurd (V.str.inj h) (by decide)) (fun _=>hR _ _ ⟨rfl,rfl⟩)⟩
   rintro σ4 H4 ⟨rfl,rfl⟩;refine ar (fun σ' H'=>False) (fun R hR=>?_) (fun _ _ h=>h.elim);walk_at"";exact⟨_,SqT.of (S1 _ _ htt),_,rfl,rfl,aB (fun _=>q2 hday _ _ S1 rfl) (fun h=>absurd rfl h)⟩
def uJ (K:PySem.W.Frag):Sp:=fun vs H Q _=>∃ (F:Addr→Bool)(lk kc kd kt lo:Addr)(so ns ss:List Str) (h:Hs)(Tb:List (Int×LK))(t:Addr)(dd:Dd),vs=[.ref lk,.ref t]∧H t=some (.tup dd.tup)∧KI (bv F H) lk kc kd kt lo so ns ss h Tb∧fc F H∧nQ ns so ss h Tb∧dd.fine H∧(∀ t' H' w,dd.bad ns so h w→af H H'→H t'=none→H' t'=some (.tup (dJ w))→Q (.ref t') H')∧(dd.good ns so h→∀ v H',Owx [lk,kc,kd,kt] H H'→DvN H H' v (dd.val h)→KI (bv F H') lk kc kd kt lo so ns ss (dd.step h) (dd.tb so Tb)→Q v H')
theorem yZ:ax ["_law_kept", "_law_deed_here"] ["_law_kept", "_law_deed_here"] (ao yo):=sM
theorem yA {f fBrD fDiD fBaD fChD fAsD:Addr}{fd fdBrD fdDiD fdBaD fdChD fdAsD:FuncData}(F:Fun K "_law_due" "_law_due" yo f fd)
   (T:Txt mg)
   (GBrD:Cl P w K mg base CX0 2 "_law_bring_due" ["_law_kept", "_law_cloth", "_law_shade"] kJ fBrD fdBrD)
   (GDiD:Cl P w K mg base CX0 4 "_law_dip_due" ["_law_kept", "_law_cloth", "_law_bath", "_law_day_here"] oZ fDiD fdDiD)
   (GBaD:Cl P w K mg base CX0 2 "_law_back_due" ["_law_kept", "_law_day_here"] lB fBaD fdBaD)
   (GChD:Cl P w K mg base CX0 2 "_law_change_due" ["_law_kept", "_law_bath", "_law_outs", "_law_day_here"] (i0 K) fChD fdChD)
   (GAsD:Cl P w K mg base CX0 4 "_law_asked_due" ["_law_kept", "_law_deed_here"] jK fAsD fdAsD) :
   aU P w K mg base CX0 5 f fd ["_law_kept", "_law_deed_here"] (uJ K):=by
 refine oq F yZ fun cdv A outer s H vs Q E hr h=>?_;obtain⟨F,lk,kc,kd,kt,lo,so,ns,ss,h,Tb,t,dd,rfl,htt,K0,oF,KA0,hf,q1,q2⟩:=h;have hr2:=hr.mono (j:=2) (by omega);have hr4:=hr.mono (j:=4) (by omega)
 refine⟨_,(aj (aC (aq bK (pI aI (pv 1) ag) ay (aw _)) (ah (ap (pC GBrD hr2 az (aa (pv 0) (aa (pI aI (pv 1) ag) (aa (pI aI (pv 1) ag) ae)))))) am)
   (aj (aC (aq bK (pI aI (pv 1) ag) ay (aw _)) (ah (ap (pC GDiD hr4 az (aa (pv 0) (aa (pI aI (pv 1) ag) (aa (pI aI (pv 1) ag) (aa (pI aI (pv 1) ag) ae))))))) am)
   (aj (aC (aq bK (pI aI (pv 1) ag) ay (aw _)) (ah (ap (pC GBaD hr2 az (aa (pv 0) (aa (pI aI (pv 1) ag) ae))))) am)
   (aj (aC (aq bK (pI aI (pv 1) ag) ay (aw _)) (ah (ap (pC GChD hr2 az (aa (pv 0) (aa (pI aI (pv 1) ag) (aa (pI aI (pv 1) ag) (aa (pI aI (pv 1) ag) ae))))))) am)
   (ah (ap (pC GAsD hr4 az (aa (pv 0) (aa (pv 1) ae))))))))),?_⟩
 try dsimp only[aF,aO]
 have hs:=aL;have up:=av (F:=F) (H:=H)
 cases dd with
 | bring c z =>
   refine ar (fun σ' H'=>False) (fun R hR=>?_) (fun _ _ h=>h.elim);walk_at"";exact⟨_,SqT.of htt,_,rfl,rfl,aB (fun _=>⟨_,SqT.of htt,_,rfl,_,SqT.of htt,_,rfl,F,lk,kc,kd,kt,lo,so,ns,ss,h,Tb,c,z,rfl,K0,oF,KA0.ho,hf.1,KA0.cl60,q1,fun g1 g2 g3 H' O K=>q2 ⟨g1,g2,g3⟩ _ _ O rfl K⟩) (fun h=>absurd rfl h)⟩
 | dip c b d =>
   refine ar (fun σ' H'=>σ'=[some (.ref lk),some (.ref t)]∧H'=H) (fun R hR=>?_) ?_
   . exact aZ rfl htt (by decide) (hR _ _ ⟨rfl,rfl⟩)
   rintro σ1 H1 ⟨rfl,rfl⟩;refine ar (fun σ' H'=>False) (fun R hR=>?_) (fun _ _ h=>h.elim);walk_at"";exact⟨_,SqT.of htt,_,rfl,rfl,aB (fun _=>⟨_,SqT.of htt,_,rfl,_,SqT.of htt,_,rfl,_,SqT.of htt,_,rfl,F,lk,kc,kd,kt,lo,so,ns,ss,h,Tb,c,b,d,rfl,K0,oF,KA0.TO,KA0.HR,KA0.ho,KA0.hbn,KA0.dl,q1,fun g1 g2 g3 g4 o ho' H' O K=>by subst ho';exact q2 ⟨g1,g2,g3,g4⟩ _ _ O rfl K⟩) (fun h=>absurd rfl h)⟩
 | back d =>
   refine ar (fun σ' H'=>σ'=[some (.ref lk),some (.ref t)]∧H'=H) (fun R hR=>?_) ?_
   . exact aZ rfl htt (by decide) (hR _ _ ⟨rfl,rfl⟩)
   rintro σ1 H1 ⟨rfl,rfl⟩;refine ar (fun σ' H'=>σ'=[some (.ref lk),some (.ref t)]∧H'=H1) (fun R hR=>?_) ?_
   . exact aZ rfl htt (by decide) (hR _ _ ⟨rfl,rfl⟩)
   rintro σ2 H2 ⟨rfl,rfl⟩;refine ar (fun σ' H'=>False) (fun R hR=>?_) (fun _ _ h=>h.elim);walk_at"";refine⟨_,SqT.of htt,_,rfl,rfl,aB (fun _=>⟨_,SqT.of htt,_,rfl,F,lk,kc,kd,kt,lo,so,ns,ss,h,Tb,d,rfl,K0,oF,KA0.HR,KA0.ho,q1,fun g1 g2 e he t' H' O ht K=>?_⟩) (fun h=>absurd rfl h)⟩;refine q2 ⟨g1,g2,fun hn=>by rw[hn] at he;cases he⟩ _ _ O ?_ K;show DvN _ _ (.ref t') (match (bf h.dp d).getLast? with | some e=>.pair e.1 e.2 | none=>.non);rw[he];exact⟨t',rfl,ht⟩
 | change b lu os d =>
   refine ar (fun σ' H'=>σ'=[some (.ref lk),some (.ref t)]∧H'=H) (fun R hR=>?_) ?_
   . exact aZ rfl htt (by decide) (hR _ _ ⟨rfl,rfl⟩)
   rintro σ1 H1 ⟨rfl,rfl⟩;refine ar (fun σ' H'=>σ'=[some (.ref lk),some (.ref t)]∧H'=H1) (fun R hR=>?_) ?_
   . exact aZ rfl htt (by decide) (hR _ _ ⟨rfl,rfl⟩)
   rintro σ2 H2 ⟨rfl,rfl⟩;refine ar (fun σ' H'=>σ'=[some (.ref lk),some (.ref t)]∧H'=H2) (fun R hR=>?_) ?_
   . exact aZ rfl htt (by decide) (hR _ _ ⟨rfl,rfl⟩)
   rintro σ3 H3 ⟨rfl,rfl⟩;refine ar (fun σ' H'=>False) (fun R hR=>?_) (fun _ _ h=>h.elim);walk_at"";refine⟨_,SqT.of htt,_,rfl,rfl,aB (fun _=>⟨_,SqT.of htt,_,rfl,_,SqT.of htt,_,rfl,_,SqT.of htt,_,rfl,F,lk,kc,kd,kt,lo,so,ns,ss,h,Tb,b,lu,os,d,rfl,K0,oF,KA0.TO,KA0.ho,KA0.son,KA0.pm,KA0.so12,KA0.ns8,hf.2.1,hf.2.2.1,KA0.tl9,q1,fun g1 g2 g3 g4 g5 el hel H' O K=>?_⟩) (fun h=>absurd rfl h)⟩;refine q2 ⟨g1,g2,g3,g4,g5⟩ _ _ O rfl ?_;show KI _ _ _ _ _ _ _ _ _ _ (match Tb.getLast? with | some el=>Tb++[(d,eo so b os el.2)] | none=>Tb);rw[hel];exact K
 | shade c d =>
   refine ar (fun σ' H'=>σ'=[some (.ref lk),some (.ref t)]∧H'=H) (fun R hR=>?_) ?_
   . exact aZ rfl htt (by decide) (hR _ _ ⟨rfl,rfl⟩)
   rintro σ1 H1 ⟨rfl,rfl⟩;refine ar (fun σ' H'=>σ'=[some (.ref lk),some (.ref t)]∧H'=H1) (fun R hR=>?_) ?_
   . exact aZ rfl htt (by decide) (hR _ _ ⟨rfl,rfl⟩)
   rintro σ2 H2 ⟨rfl,rfl⟩;refine ar (fun σ' H'=>σ'=[some (.ref lk),some (.ref t)]∧H'=H2) (fun R hR=>?_) ?_
   . exact aZ rfl htt (by decide) (hR _ _ ⟨rfl,rfl⟩)
   rintro σ3 H3 ⟨rfl,rfl⟩;refine ar (fun σ' H'=>σ'=[some (.ref lk),some (.ref t)]∧H'=H3) (fun R hR=>?_) ?_
   . exact aZ rfl htt (by decide) (hR _ _ ⟨rfl,rfl⟩)
   rintro σ4 H4 ⟨rfl,rfl⟩;walk_at"";exact⟨lk,kc,kd,kt,lo,so,ns,ss,h,Tb,t,_,rfl,htt,K0.r.same up,KA0,.inl ⟨_,_,rfl⟩,q1,fun g v H' S dv=>q2 g v H' (Owx.same S) dv (K0.same (aQ S))⟩
 | trail c d =>
   refine ar (fun σ' H'=>σ'=[some (.ref lk),some (.ref t)]∧H'=H) (fun R hR=>?_) ?_
   . exact aZ rfl htt (by decide) (hR _ _ ⟨rfl,rfl⟩)
   rintro σ1 H1 ⟨rfl,rfl⟩;refine ar (fun σ' H'=>σ'=[some (.ref lk),some (.ref t)]∧H'=H1) (fun R hR=>?_) ?_
   . exact aZ rfl htt (by decide) (hR _ _ ⟨rfl,rfl⟩)
   rintro σ2 H2 ⟨rfl,rfl⟩;refine ar (fun σ' H'=>σ'=[some (.ref lk),some (.ref t)]∧H'=H2) (fun R hR=>?_) ?_
   . exact aZ rfl htt (by decide) (hR _ _ ⟨rfl,rfl⟩)
   rintro σ3 H3 ⟨rfl,rfl⟩;refine ar (fun σ' H'=>σ'=[some (.ref lk),some (.ref t)]∧H'=H3) (fun R hR=>?_) ?_
   . exact aZ rfl htt (by decide) (hR _ _ ⟨rfl,rfl⟩)
   rintro σ4 H4 ⟨rfl,rfl⟩;walk_at"";exact⟨lk,kc,kd,kt,lo,so,ns,ss,h,Tb,t,_,rfl,htt,K0.r.same up,KA0,.inr (.inl ⟨_,_,rfl⟩),q1,fun g v H' S dv=>q2 g v H' (Owx.same S) dv (K0.same (aQ S))⟩
 | dips d =>
   refine ar (fun σ' H'=>σ'=[some (.ref lk),some (.ref t)]∧H'=H) (fun R hR=>?_) ?_
   . exact aZ rfl htt (by decide) (hR _ _ ⟨rfl,rfl⟩)
   rintro σ1 H1 ⟨rfl,rfl⟩;refine ar (fun σ' H'=>σ'=[some (.ref lk),some (.ref t)]∧H'=H1) (fun R hR=>?_) ?_
   . exact aZ rfl htt (by decide) (hR _ _ ⟨rfl,rfl⟩)
   rintro σ2 H2 ⟨rfl,rfl⟩;refine ar (fun σ' H'=>σ'=[some (.ref lk),some (.ref t)]∧H'=H2) (fun R hR=>?_) ?_
   . exact aZ rfl htt (by decide) (hR _ _ ⟨rfl,rfl⟩)
   rintro σ3 H3 ⟨rfl,rfl⟩;refine ar (fun σ' H'=>σ'=[some (.ref lk),some (.ref t)]∧H'=H3) (fun R hR=>?_) ?_
   . exact aZ rfl htt (by decide) (hR _ _ ⟨rfl,rfl⟩)
   rintro σ4 H4 ⟨rfl,rfl⟩;walk_at"";exact⟨lk,kc,kd,kt,lo,so,ns,ss,h,Tb,t,_,rfl,htt,K0.r.same up,KA0,.inr (.inr (.inl ⟨_,rfl⟩)),q1,fun g v H' S dv=>q2 g v H' (Owx.same S) dv (K0.same (aQ S))⟩
 | book d =>
   refine ar (fun σ' H'=>σ'=[some (.ref lk),some (.ref t)]∧H'=H) (fun R hR=>?_) ?_
   . exact aZ rfl htt (by decide) (hR _ _ ⟨rfl,rfl⟩)
   rintro σ1 H1 ⟨rfl,rfl⟩;refine ar (fun σ' H'=>σ'=[some (.ref lk),some (.ref t)]∧H'=H1) (fun R hR=>?_) ?_
   . exact aZ rfl htt (by decide) (hR _ _ ⟨rfl,rfl⟩)
   rintro σ2 H2 ⟨rfl,rfl⟩;refine ar (fun σ' H'=>σ'=[some (.ref lk),some (.ref t)]∧H'=H2) (fun R hR=>?_) ?_
   . exact aZ rfl htt (by decide) (hR _ _ ⟨rfl,rfl⟩)
   rintro σ3 H3 ⟨rfl,rfl⟩;refine ar (fun σ' H'=>σ'=[some (.ref lk),some (.ref t)]∧H'=H3) (fun R hR=>?_) ?_
   . exact aZ rfl htt (by decide) (hR _ _ ⟨rfl,rfl⟩)
   rintro σ4 H4 ⟨rfl,rfl⟩;walk_at"";exact⟨lk,kc,kd,kt,lo,so,ns,ss,h,Tb,t,_,rfl,htt,K0.r.same up,KA0,.inr (.inr (.inr ⟨_,rfl⟩)),q1,fun g v H' S dv=>q2 g v H' (Owx.same S) dv (K0.same (aQ S))⟩
def zv (cBN cKn cNS cNC cNB cBB cND cLa cNo C:Addr) (w:Str):Prop :=
 (C=cBN∧w=zV "BadName")∨(C=cKn∧w=zV "Known")∨(C=cNS∧w=zV "NoShade")∨(C=cNC∧w=zV "NoCloth")∨(C=cNB∧w=zV "NoBath")∨(C=cBB∧w=zV "BadBook")∨(C=cND∧w=zV "NoDay")∨(C=cLa∧w=zV "Late")∨(C=cNo∧w=zV "NoDip")
def rO (h:Hs) (h':Hs):Dd→Prop
 | .change b lu os d=>∃ so2 ns2,kS (aR h.bk 400).1 so2 ns2 (aR h.bk 400).2∧aP so2 (ns2.map (chB (aR h.bk 400).1 so2 (aR h.bk 400).2 b os))∧h'={ h with day:=d,bk:=cg h.bk d (so2,ns2.map (chB (aR h.bk 400).1 so2 (aR h.bk 400).2 b os)) }
 | dd=>h'=dd.step h
def zL (H W:Hp)(CB:Addr) (h:Hs) (v:V):Dd→Prop
 | .book d=>∃ r,v=.ref r∧bx W CB r (aR h.bk d).1 (aR h.bk d).2
 | dd=>t7 H v (dd.val h)
theorem GO.perm {s1 s2 os:List Str}(p:s1.Perm s2):GO s1 os↔GO s2 os :=
 ⟨fun g=>⟨by rw[g.1,p.length_eq],fun x hx=>p.mem_iff.mp (g.2 x hx)⟩,fun g=>⟨by rw[g.1,p.length_eq],fun x hx=>p.mem_iff.mpr (g.2 x hx)⟩⟩
def l8 (K:PySem.W.Frag)(CH CB cBN cKn cNS cFu cNC cNB cBB cND cLa cNo:Addr):Sp:=fun vs H Q E=>∃ (A:Ad)(W:Hp)(ss ns so:List Str) (h:Hs)(t:Addr)(dd:Dd),vs=[.ref A.x,.ref t]∧aJ H CH CB A W ss h∧bH ss ns h∧H t=some (.tup dd.tup)∧dd.fine H∧so.Perm ss∧ss.Nodup∧h.dp.length < 1000∧h.cl.length < 50∧(∀ C w H',dd.bad ns so h w→zv cBN cKn cNS cNC cNB cBB cND cLa cNo C w→af H H'→E (.ref C) none H')∧(dd.good ns so h→∀ v H' W' h',af (hid H A) (hid H' A)→d7 H W W'→aJ H' CH CB A W' ss h'→bH ss ns h'→rO h h' dd→zL H' W' CB h v dd→Q v H')
theorem ww:ax ["_law_house", "_law_deed_here"] ["_law_house", "_law_deed_here"] (ao pD):=sM
theorem uv {f fHR fHQ fHK fHG fHS fHT fHP fHB:Addr}{fd fdHR fdHQ fdHK fdHG fdHS fdHT fdHP fdHB:FuncData}{CH CB cBN cKn cNS cFu cNC cNB cBB cND cLa cNo:Addr}(F:Fun K "_law_asked" "_law_asked" pD f fd)
   (T:Txt mg)(hX:Hx K mg CH)
   (GHR:Cm P w K mg base (CX1 P w) 5 CH "bring" ["self", "cloth", "shade"] (jF CH CB cBN cKn cNS cFu) fHR fdHR)
   (GHQ:Cm P w K mg base (CX1 P w) 5 CH "dip" ["self", "cloth", "bath", "day"] (vE CH CB cNC cNB cND cLa cFu) fHQ fdHQ)
   (GHK:Cm P w K mg base (CX1 P w) 4 CH "back" ["self", "day"] (r9 CH CB cND cLa cNo) fHK fdHK)
   (GHG:Cm P w K mg base (CX1 P w) 7 CH "change" ["self", "bath", "outs", "day"] (lT K CH CB cNB cBB cND cLa) fHG fdHG)
   (GHS:Cm P w K mg base (CX1 P w) 3 CH "shade" ["self", "cloth", "day"] (gX CH CB cNC cND) fHS fdHS)
   (GHT:Cm P w K mg base (CX1 P w) 2 CH "trail" ["self", "cloth", "day"] (hV CH CB cNC cND) fHT fdHT)
   (GHP:Cm P w K mg base (CX1 P w) 2 CH "dips" ["self", "day"] (gZ CH CB cND) fHP fdHP)
   (GHB:Cm P w K mg base (CX1 P w) 2 CH "book" ["self", "day"] (gR CH CB cND) fHB fdHB) :
   aU P w K mg base (CX1 P w) 8 f fd ["_law_house", "_law_deed_here"] (l8 K CH CB cBN cKn cNS cFu cNC cNB cBB cND cLa cNo):=by
 refine oqX F ww fun cdv A outer s H vs Q E hr h=>?_;obtain⟨A0,W,ss,ns,so,h,t,dd,rfl,hh,ho,htt,hf,hpm,hsn,hdl,hcl,q1,q2⟩:=h;have cH:=hX.c;have hr2:=hr.mono (j:=2) (by omega);have hr3:=hr.mono (j:=3) (by omega);have hr4:=hr.mono (j:=4) (by omega);have hr5:=hr.mono (j:=5) (by omega);have hr7:=hr.mono (j:=7) (by omega)
 refine⟨_,(aj (aC (aq bK (pI aI (pv 1) ag) ay (aw _)) (ah (ap (pM (pv 0) cH GHR hr5 bE (aa (pI aI (pv 1) ag) (aa (pI aI (pv 1) ag) ae))))) am)
   (aj (aC (aq bK (pI aI (pv 1) ag) ay (aw _)) (ah (ap (pM (pv 0) cH GHQ hr5 bE (aa (pI aI (pv 1) ag) (aa (pI aI (pv 1) ag) (aa (pI aI (pv 1) ag) ae)))))) am)
   (aj (aC (aq bK (pI aI (pv 1) ag) ay (aw _)) (ah (ap (pM (pv 0) cH GHK hr4 bE (aa (pI aI (pv 1) ag) ae)))) am)
   (aj (aC (aq bK (pI aI (pv 1) ag) ay (aw _)) (ah (ap (pM (pv 0) cH GHG hr7 bE (aa (pI aI (pv 1) ag) (aa (cu dW (by rfl) T.list (by decide) (aa (pI aI (pv 1) ag) ae)) (aa (pI aI (pv 1) ag) ae)))))) am)
   (aj (aC (aq bK (pI aI (pv 1) ag) ay (aw _)) (ah (ap (pM (pv 0) cH GHS hr3 bE (aa (pI aI (pv 1) ag) (aa (pI aI (pv 1) ag) ae))))) am)
   (aj (aC (aq bK (pI aI (pv 1) ag) ay (aw _)) (ah (ap (pM (pv 0) cH GHT hr2 bE (aa (pI aI (pv 1) ag) (aa (pI aI (pv 1) ag) ae))))) am)
   (aj (aC (aq bK (pI aI (pv 1) ag) ay (aw _)) (ah (ap (pM (pv 0) cH GHP hr2 bE (aa (pI aI (pv 1) ag) ae)))) am)
   (ah (ap (pM (pv 0) cH GHB hr2 bE (aa (pI aI (pv 1) ag) ae))))))))))),?_⟩
 try dsimp only[aF,aO]
 have hs:=aL;have lo:∀ {m:Str}{dd:Int},(m==zV "first_shades")=false→(m==zV "day_now")=false→(m==zV "standing")=false→(m==zV "books_from")=false→Au m (hfs A0 dd)=none:=fun h1 h2 h3 h4=>eu h1 h2 h3 h4;have hp4:=i5 ho hsn 400;have hgo:∀ os,GO so os↔GO (aR h.bk 400).1 os:=fun os=>GO.perm (hpm.trans hp4.symm)
 cases dd with
 | bring c z =>
   refine ar (fun σ' H'=>False) (fun R hR=>?_) (fun _ _ h=>h.elim);walk_at"";refine⟨_,SqT.of htt,_,rfl,rfl,aB (fun _=>⟨A0.dx,_,hh.ins,lo (by decide) (by decide) (by decide) (by decide),_,SqT.of htt,_,rfl,_,SqT.of htt,_,rfl,A0,W,ss,ns,h,c,z,rfl,hh,ho,by omega,hf.1,hf.2,fun g H' S=>q1 _ _ H' (.inl ⟨g,rfl⟩) (.inl ⟨rfl,rfl⟩) S,fun g1 g2 H' S=>q1 _ _ H' (.inr (.inl ⟨g1,g2,rfl⟩)) (.inr (.inl ⟨rfl,rfl⟩)) S,fun g1 g2 g3 H' S=>q1 _ _ H' (.inr (.inr ⟨g1,g2,fun hz=>g3 (hpm.mem_iff.mp hz),rfl⟩)) (.inr (.inr (.inl ⟨rfl,rfl⟩))) S,fun _ _ _ hn=>absurd hn (by omega),fun g1 g2 g3 _ H' S hh'=>?_⟩) (fun h=>absurd rfl h)⟩;exact q2 ⟨g1,g2,hpm.mem_iff.mpr g3⟩ _ _ _ _ S (d7.refl H W) hh' (ho.bring g2 g3 g1) rfl rfl
 | dip c b d =>
   refine ar (fun σ' H'=>σ'=[some (.ref A0.x),some (.ref t)]∧H'=H) (fun R hR=>?_) ?_
   . exact aZ rfl htt (by decide) (hR _ _ ⟨rfl,rfl⟩)
   rintro σ1 H1 ⟨rfl,rfl⟩;refine ar (fun σ' H'=>False) (fun R hR=>?_) (fun _ _ h=>h.elim);walk_at"";refine⟨_,SqT.of htt,_,rfl,rfl,aB (fun _=>⟨A0.dx,_,hh.ins,lo (by decide) (by decide) (by decide) (by decide),_,SqT.of htt,_,rfl,_,SqT.of htt,_,rfl,_,SqT.of htt,_,rfl,A0,W,ss,ns,h,c,b,d,rfl,hh,ho,hf.1,hf.2,fun g H' S=>q1 _ _ H' (.inl ⟨g,rfl⟩) (.inr (.inr (.inr (.inl ⟨rfl,rfl⟩)))) S,fun g1 g2 H' S=>q1 _ _ H' (.inr (.inl ⟨g1,g2,rfl⟩)) (.inr (.inr (.inr (.inr (.inl ⟨rfl,rfl⟩))))) S,fun g1 g2 g3 H' S=>q1 _ _ H' (.inr (.inr (.inl ⟨g1,g2,g3,rfl⟩))) (.inr (.inr (.inr (.inr (.inr (.inr (.inl ⟨rfl,rfl⟩))))))) S,fun g1 g2 g3 g4 H' S=>q1 _ _ H' (.inr (.inr (.inr ⟨g1,g2,g3,g4,rfl⟩))) (.inr (.inr (.inr (.inr (.inr (.inr (.inr (.inl ⟨rfl,rfl⟩)))))))) S,fun _ _ _ _ hn=>absurd hn (by omega),fun g1 g2 g3 g4 _ H' W' S G hh'=>?_⟩) (fun h=>absurd rfl h)⟩;obtain⟨Bd,hNd,hZd⟩:=ho.on d;exact q2 ⟨g1,g2,g3,g4⟩ _ _ _ _ S G hh' (ho.dip g3 g4 hdl ((hZd _).mp (rM Bd b ((hNd b).mpr g2) _ ((hZd _).mpr (gG ho g1 d))))) rfl rfl
 | back d =>
   refine ar (fun σ' H'=>σ'=[some (.ref A0.x),some (.ref t)]∧H'=H) (fun R hR=>?_) ?_
   . exact aZ rfl htt (by decide) (hR _ _ ⟨rfl,rfl⟩)
   rintro σ1 H1 ⟨rfl,rfl⟩;refine ar (fun σ' H'=>σ'=[some (.ref A0.x),some (.ref t)]∧H'=H1) (fun R hR=>?_) ?_
   . exact aZ rfl htt (by decide) (hR _ _ ⟨rfl,rfl⟩)
   rintro σ2 H2 ⟨rfl,rfl⟩;refine ar (fun σ' H'=>False) (fun R hR=>?_) (fun _ _ h=>h.elim);walk_at"";refine⟨_,SqT.of htt,_,rfl,rfl,aB (fun _=>⟨A0.dx,_,hh.ins,lo (by decide) (by decide) (by decide) (by decide),_,SqT.of htt,_,rfl,A0,W,ss,ns,h,d,rfl,hh,ho,fun g H' S=>q1 _ _ H' (.inl ⟨g,rfl⟩) (.inr (.inr (.inr (.inr (.inr (.inr (.inl ⟨rfl,rfl⟩))))))) S,fun g1 g2 H' S=>q1 _ _ H' (.inr (.inl ⟨g1,g2,rfl⟩)) (.inr (.inr (.inr (.inr (.inr (.inr (.inr (.inl ⟨rfl,rfl⟩)))))))) S,fun g1 g2 g3 H' S=>q1 _ _ H' (.inr (.inr ⟨g1,g2,g3,rfl⟩)) (.inr (.inr (.inr (.inr (.inr (.inr (.inr (.inr (⟨rfl,rfl⟩))))))))) S,fun g1 g2 e he t' H' S ht' hh'=>?_⟩) (fun h=>absurd rfl h)⟩;refine q2 ⟨g1,g2,fun hn=>by rw[hn] at he;cases he⟩ _ _ _ _ S (d7.refl _ W) hh' ho.back rfl ?_;show t7 H' (.ref t') (match (bf h.dp d).getLast? with | some e=>.pair e.1 e.2 | none=>.non);rw[he];exact⟨t',rfl,ht'⟩
 | change b lu os d =>
   refine ar (fun σ' H'=>σ'=[some (.ref A0.x),some (.ref t)]∧H'=H) (fun R hR=>?_) ?_
   . exact aZ rfl htt (by decide) (hR _ _ ⟨rfl,rfl⟩)
   rintro σ1 H1 ⟨rfl,rfl⟩;refine ar (fun σ' H'=>σ'=[some (.ref A0.x),some (.ref t)]∧H'=H1) (fun R hR=>?_) ?_
   . exact aZ rfl htt (by decide) (hR _ _ ⟨rfl,rfl⟩)
   rintro σ2 H2 ⟨rfl,rfl⟩;refine ar (fun σ' H'=>σ'=[some (.ref A0.x),some (.ref t)]∧H'=H2) (fun R hR=>?_) ?_
   . exact aZ rfl htt (by decide) (hR _ _ ⟨rfl,rfl⟩)
   rintro σ3 H3 ⟨rfl,rfl⟩;refine ar (fun σ' H'=>False) (fun R hR=>?_) (fun _ _ h=>h.elim);walk_at"";refine⟨_,SqT.of htt,_,rfl,rfl,aB (fun _=>⟨A0.dx,_,hh.ins,lo (by decide) (by decide) (by decide) (by decide),_,SqT.of htt,_,rfl,_,SqT.of htt,_,rfl,lu,rfl,_,.inl (SqL.of hf.2.1),fun l2 hl2=>?_⟩) (fun h=>absurd rfl h)⟩;have S2:=af.updN (o:=.lst (os.map V.str)) hl2;have hh2:=af.house S2 hh;refine⟨_,SqT.of (S2 _ _ htt),_,rfl,A0,W,ss,ns,os,h,b,l2,d,rfl,hh2,ho,hf.1,ac,hf.2.2.1,hf.2.2.2,fun g H' S=>q1 _ _ H' (.inl ⟨g,rfl⟩) (.inr (.inr (.inr (.inr (.inl ⟨rfl,rfl⟩))))) (S2.trans S),fun g1 g2 H' S=>q1 _ _ H' (.inr (.inl ⟨g1,fun g=>g2 ((hgo os).mp g),rfl⟩)) (.inr (.inr (.inr (.inr (.inr (.inl ⟨rfl,rfl⟩)))))) (S2.trans S),fun g1 g2 g3 H' S=>q1 _ _ H' (.inr (.inr (.inl ⟨g1,(hgo os).mpr g2,g3,rfl⟩))) (.inr (.inr (.inr (.inr (.inr (.inr (.inl ⟨rfl,rfl⟩))))))) (S2.trans S),fun g1 g2 g3 g4 H' S=>q1 _ _ H' (.inr (.inr (.inr ⟨g1,(hgo os).mpr g2,g3,g4,rfl⟩))) (.inr (.inr (.inr (.inr (.inr (.inr (.inr (.inl ⟨rfl,rfl⟩)))))))) (S2.trans S),fun g1 g2 g3 g4 g5 so2 ns2 H' W' CI B2 S G hh'=>?_⟩;exact q2 ⟨g1,(hgo os).mpr g2,g3,g4,g5⟩ _ _ _ _ ((ck S2).trans S) ⟨G.1,fun b o h1 h2=>G.2 b o h1 (S2 _ _ h2)⟩ hh' (ho.change g3 g4 (ho.ch CI B2)) ⟨so2,ns2,CI,B2,rfl⟩ rfl
 | shade c d =>
   refine ar (fun σ' H'=>σ'=[some (.ref A0.x),some (.ref t)]∧H'=H) (fun R hR=>?_) ?_
   . exact aZ rfl htt (by decide) (hR _ _ ⟨rfl,rfl⟩)
   rintro σ1 H1 ⟨rfl,rfl⟩;refine ar (fun σ' H'=>σ'=[some (.ref A0.x),some (.ref t)]∧H'=H1) (fun R hR=>?_) ?_
   . exact aZ rfl htt (by decide) (hR _ _ ⟨rfl,rfl⟩)
   rintro σ2 H2 ⟨rfl,rfl⟩;refine ar (fun σ' H'=>σ'=[some (.ref A0.x),some (.ref t)]∧H'=H2) (fun R hR=>?_) ?_
   . exact aZ rfl htt (by decide) (hR _ _ ⟨rfl,rfl⟩)
   rintro σ3 H3 ⟨rfl,rfl⟩;refine ar (fun σ' H'=>σ'=[some (.ref A0.x),some (.ref t)]∧H'=H3) (fun R hR=>?_) ?_
   . exact aZ rfl htt (by decide) (hR _ _ ⟨rfl,rfl⟩)
   rintro σ4 H4 ⟨rfl,rfl⟩;refine ar (fun σ' H'=>False) (fun R hR=>?_) (fun _ _ h=>h.elim);walk_at"";refine⟨_,SqT.of htt,_,rfl,rfl,aB (fun _=>⟨A0.dx,_,hh.ins,lo (by decide) (by decide) (by decide) (by decide),_,SqT.of htt,_,rfl,_,SqT.of htt,_,rfl,A0,W,ss,ns,h,c,d,rfl,hh,ho,hf,fun g1 g2 H' S=>?_,fun g=>q1 _ _ _ (.inl ⟨g,rfl⟩) (.inr (.inr (.inr (.inl ⟨rfl,rfl⟩)))) (af.refl _),fun g1 g2=>q1 _ _ _ (.inr ⟨g1,g2,rfl⟩) (.inr (.inr (.inr (.inr (.inr (.inr (.inl ⟨rfl,rfl⟩))))))) (af.refl _)⟩) (fun h=>absurd rfl h)⟩;exact q2 ⟨g1,g2⟩ _ _ _ _ (ck S) (d7.refl _ W) (af.house S hh) ho rfl rfl
 | trail c d =>
   refine ar (fun σ' H'=>σ'=[some (.ref A0.x),some (.ref t)]∧H'=H) (fun R hR=>?_) ?_
   . exact aZ rfl htt (by decide) (hR _ _ ⟨rfl,rfl⟩)
   rintro σ1 H1 ⟨rfl,rfl⟩;refine ar (fun σ' H'=>σ'=[some (.ref A0.x),some (.ref t)]∧H'=H1) (fun R hR=>?_) ?_
   . exact aZ rfl htt (by decide) (hR _ _ ⟨rfl,rfl⟩)
   rintro σ2 H2 ⟨rfl,rfl⟩;refine ar (fun σ' H'=>σ'=[some (.ref A0.x),some (.ref t)]∧H'=H2) (fun R hR=>?_) ?_
   . exact aZ rfl htt (by decide) (hR _ _ ⟨rfl,rfl⟩)
   rintro σ3 H3 ⟨rfl,rfl⟩;refine ar (fun σ' H'=>σ'=[some (.ref A0.x),some (.ref t)]∧H'=H3) (fun R hR=>?_) ?_
   . exact aZ rfl htt (by decide) (hR _ _ ⟨rfl,rfl⟩)
   rintro σ4 H4 ⟨rfl,rfl⟩;refine ar (fun σ' H'=>σ'=[some (.ref A0.x),some (.ref t)]∧H'=H4) (fun R hR=>?_) ?_
   . exact aZ rfl htt (by decide) (hR _ _ ⟨rfl,rfl⟩)
   rintro σ5 H5 ⟨rfl,rfl⟩;refine ar (fun σ' H'=>False) (fun R hR=>?_) (fun _ _ h=>h.elim);walk_at"";refine⟨_,SqT.of htt,_,rfl,rfl,aB (fun _=>⟨A0.dx,_,hh.ins,lo (by decide) (by decide) (by decide) (by decide),_,SqT.of htt,_,rfl,_,SqT.of htt,_,rfl,A0,W,ss,ns,h,c,d,rfl,hh,ho,hf,fun g1 g2 l ps H' S _ hl hT=>?_,fun g=>q1 _ _ _ (.inl ⟨g,rfl⟩) (.inr (.inr (.inr (.inl ⟨rfl,rfl⟩)))) (af.refl _),fun g1 g2=>q1 _ _ _ (.inr ⟨g1,g2,rfl⟩) (.inr (.inr (.inr (.inr (.inr (.inr (.inl ⟨rfl,rfl⟩))))))) (af.refl _)⟩) (fun h=>absurd rfl h)⟩;exact q2 ⟨g1,g2⟩ _ _ _ _ (ck S) (d7.refl _ W) (af.house S hh) ho rfl ⟨l,ps,rfl,hl,hT⟩
 | dips d =>
   refine ar (fun σ' H'=>σ'=[some (.ref A0.x),some (.ref t)]∧H'=H) (fun R hR=>?_) ?_
   . exact aZ rfl htt (by decide) (hR _ _ ⟨rfl,rfl⟩)
   rintro σ1 H1 ⟨rfl,rfl⟩;refine ar (fun σ' H'=>σ'=[some (.ref A0.x),some (.ref t)]∧H'=H1) (fun R hR=>?_) ?_
   . exact aZ rfl htt (by decide) (hR _ _ ⟨rfl,rfl⟩)
   rintro σ2 H2 ⟨rfl,rfl⟩;refine ar (fun σ' H'=>σ'=[some (.ref A0.x),some (.ref t)]∧H'=H2) (fun R hR=>?_) ?_
   . exact aZ rfl htt (by decide) (hR _ _ ⟨rfl,rfl⟩)
   rintro σ3 H3 ⟨rfl,rfl⟩;refine ar (fun σ' H'=>σ'=[some (.ref A0.x),some (.ref t)]∧H'=H3) (fun R hR=>?_) ?_
   . exact aZ rfl htt (by decide) (hR _ _ ⟨rfl,rfl⟩)
   rintro σ4 H4 ⟨rfl,rfl⟩;refine ar (fun σ' H'=>σ'=[some (.ref A0.x),some (.ref t)]∧H'=H4) (fun R hR=>?_) ?_
   . exact aZ rfl htt (by decide) (hR _ _ ⟨rfl,rfl⟩)
   rintro σ5 H5 ⟨rfl,rfl⟩;refine ar (fun σ' H'=>σ'=[some (.ref A0.x),some (.ref t)]∧H'=H5) (fun R hR=>?_) ?_
   . exact aZ rfl htt (by decide) (hR _ _ ⟨rfl,rfl⟩)
   rintro σ6 H6 ⟨rfl,rfl⟩;refine ar (fun σ' H'=>False) (fun R hR=>?_) (fun _ _ h=>h.elim);walk_at"";refine⟨_,SqT.of htt,_,rfl,rfl,aB (fun _=>⟨A0.dx,_,hh.ins,lo (by decide) (by decide) (by decide) (by decide),_,SqT.of htt,_,rfl,A0,W,ss,ns,h,d,rfl,hh,ho,fun g l ps H' S _ hl hT=>?_,fun g=>q1 _ _ _ ⟨g,rfl⟩ (.inr (.inr (.inr (.inr (.inr (.inr (.inl ⟨rfl,rfl⟩))))))) (af.refl _)⟩) (fun h=>absurd rfl h)⟩;exact q2 g _ _ _ _ (ck S) (d7.refl _ W) (af.house S hh) ho rfl ⟨l,ps,rfl,hl,hT⟩
 | book d =>
   refine ar (fun σ' H'=>σ'=[some (.ref A0.x),some (.ref t)]∧H'=H) (fun R hR=>?_) ?_
   . exact aZ rfl htt (by decide) (hR _ _ ⟨rfl,rfl⟩)
   rintro σ1 H1 ⟨rfl,rfl⟩;refine ar (fun σ' H'=>σ'=[some (.ref A0.x),some (.ref t)]∧H'=H1) (fun R hR=>?_) ?_
   . exact aZ rfl htt (by decide) (hR _ _ ⟨rfl,rfl⟩)
   rintro σ2 H2 ⟨rfl,rfl⟩;refine ar (fun σ' H'=>σ'=[some (.ref A0.x),some (.ref t)]∧H'=H2) (fun R hR=>?_) ?_
   . exact aZ rfl htt (by decide) (hR _ _ ⟨rfl,rfl⟩)
   rintro σ3 H3 ⟨rfl,rfl⟩;refine ar (fun σ' H'=>σ'=[some (.ref A0.x),some (.ref t)]∧H'=H3) (fun R hR=>?_) ?_
   . exact aZ rfl htt (by decide) (hR _ _ ⟨rfl,rfl⟩)
   rintro σ4 H4 ⟨rfl,rfl⟩;refine ar (fun σ' H'=>σ'=[some (.ref A0.x),some (.ref t)]∧H'=H4) (fun R hR=>?_) ?_
   . exact aZ rfl htt (by decide) (hR _ _ ⟨rfl,rfl⟩)
   rintro σ5 H5 ⟨rfl,rfl⟩;refine ar (fun σ' H'=>σ'=[some (.ref A0.x),some (.ref t)]∧H'=H5) (fun R hR=>?_) ?_
   . exact aZ rfl htt (by decide) (hR _ _ ⟨rfl,rfl⟩)
   rintro σ6 H6 ⟨rfl,rfl⟩;refine ar (fun σ' H'=>σ'=[some (.ref A0.x),some (.ref t)]∧H'=H6) (fun R hR=>?_) ?_
   . exact aZ rfl htt (by decide) (hR _ _ ⟨rfl,rfl⟩)
   rintro σ7 H7 ⟨rfl,rfl⟩;walk_at"";refine⟨A0.dx,_,hh.ins,lo (by decide) (by decide) (by decide) (by decide),_,SqT.of htt,_,rfl,A0,W,ss,ns,h,d,rfl,hh,ho,fun g r H' S hb=>?_,fun g=>q1 _ _ H7 ⟨g,rfl⟩ (.inr (.inr (.inr (.inr (.inr (.inr (.inl ⟨rfl,rfl⟩))))))) (af.refl _)⟩;exact q2 g _ _ _ _ (ck S) (d7.refl _ W) (af.house S hh) ho rfl ⟨r,rfl,hb⟩
def rV:Sp:=fun _ _ _ _=>False
theorem yI {f:Addr}{fd:FuncData}{ps:List Str}:aU P w K mg base CX0 0 f fd ps rV:=⟨fun _ _ _ _ h=>h.elim,fun _ _ _ _ _ _ _ _ _ _ _ _ _ h=>h.elim⟩
theorem uj {spR:Sp}{z:Str}{H:Hp}{Q:VK}{E:XK}(q:Q (.bl true) H):fZ spR [.str z,.str z] H Q E:=⟨_,_,rfl,.inl ⟨z,z,rfl,rfl,by rw[decide_eq_true rfl];exact q⟩⟩
theorem pU {spR:Sp}{a b:Addr}{xs:List V}{H:Hp}{Q:VK}{E:XK}(ha:H a=some (.tup xs))(hb:H b=some (.tup xs))(hn:xs.length≤1000)(hx:∀ x∈xs,(∃ z,x=.str z)∨∃ i,x=.int i)(q:Q (.bl true) H):fZ (fZ spR) [.ref a,.ref b] H Q E :=
 ⟨_,_,rfl,.inr (.inr (.inr ⟨a,b,xs,xs,rfl,rfl,.inr ⟨ha,hb⟩,rfl,hn,fun i u v hu hv Q' E' q'=>by
   rw[hu] at hv;cases hv
   rcases hx u (z6 hu) with ⟨z,rfl⟩ | ⟨z,rfl⟩
   . exact uj q'
   . exact⟨_,_,rfl,.inr (.inl ⟨z,z,rfl,rfl,by rw[decide_eq_true rfl];exact q'⟩)⟩,q⟩))⟩
theorem u6 {spR:Sp}{a b:Addr}{ps qs:List Addr}{L:List (List V)}{H:Hp}{Q:VK}{E:XK}(ha:H a=some (.lst (ps.map V.ref)))(hb:H b=some (.lst (qs.map V.ref)))(hp:cn H ps L)(hq:cn H qs L)(hn:L.length≤1000)(hk:∀ e∈L,e.length≤1000)(hx:∀ e∈L,∀ x∈e,(∃ z,x=.str z)∨∃ i,x=.int i)(q:Q (.bl true) H):fZ (fZ (fZ spR)) [.ref a,.ref b] H Q E:=by
 refine⟨_,_,rfl,.inr (.inr (.inr ⟨a,b,_,_,rfl,rfl,.inl ⟨ha,hb⟩,by rw[be,be,hp.1,hq.1],by rw[be,hq.1];exact hn,fun i u v hu hv Q' E' q'=>?_,q⟩))⟩;rw[zX] at hu hv;obtain⟨p,hp1,rfl⟩:=Option.map_eq_some_iff.mp hu;obtain⟨r,hr1,rfl⟩:=Option.map_eq_some_iff.mp hv;obtain⟨e,he⟩:∃ e,L[i]?=some e:=⟨_,zW (by rw[←hp.1];exact(List.getElem?_eq_some_iff.mp hp1).1)⟩;have hm:=z6 he;exact pU (hp.2 i p e hp1 he) (hq.2 i r e hr1 he) (hk e hm) (hx e hm) q'
theorem yx {spR:Sp}{H:Hp}{Q:VK}{E:XK}(q:Q (.bl true) H):fZ spR [.non,.non] H Q E:=⟨_,_,rfl,.inr (.inr (.inl ⟨rfl,rfl,q⟩))⟩
theorem zK {t:Str}:∀ x∈[V.str "refused",V.str t,V.int 0],(∃ z,x=.str z)∨∃ i,x=.int i:=by
 intro x hx;simp only[AV,AM,or_false] at hx
 rcases hx with rfl | rfl | rfl
 . exact .inl ⟨_,rfl⟩
 . exact .inl ⟨_,rfl⟩
 . exact .inr ⟨_,rfl⟩
theorem zc {t u:Str}:∀ x∈[V.str t,V.str u],(∃ z,x=.str z)∨∃ i,x=.int i:=by
 intro x hx;simp only[AV,AM,or_false] at hx
 rcases hx with rfl | rfl
 . exact .inl ⟨_,rfl⟩
 . exact .inl ⟨_,rfl⟩
theorem Dd.one {ns so:List Str}{h:Hs}{dd:Dd}{w w':Str}(a:dd.bad ns so h w)(b:dd.bad ns so h w'):w=w':=by
 cases dd<;>simp only[Dd.bad] at a b<;>grind
theorem Dd.not {ns so:List Str}{h:Hs}{dd:Dd}{w:Str}(a:dd.bad ns so h w)(b:dd.good ns so h):False:=by
 cases dd<;>simp only[Dd.bad,Dd.good] at a b<;>grind
def fX (A:Ad)(W:Hp)(X:Addr→Bool):Addr→Bool:=fun b=>decide (b=A.x∨b=A.d1∨b=A.ls∨b=A.db)||(W b).isSome||X b
theorem jP {A:Ad}{W:Hp}{X:Addr→Bool}{b:Addr}(h:fX A W X b=false):(b≠A.x∧b≠A.d1∧b≠A.ls∧b≠A.db)∧W b=none∧X b=false:=by
 unfold fX at h;rw[Bool.or_eq_false_iff,Bool.or_eq_false_iff,decide_eq_false_iff_not] at h;refine⟨⟨fun e=>h.1.1 (.inl e),fun e=>h.1.1 (.inr (.inl e)),fun e=>h.1.1 (.inr (.inr (.inl e))),fun e=>h.1.1 (.inr (.inr (.inr e)))⟩,?_,h.2⟩
 cases hw:W b with
 | none=>rfl
 | some o=>have:=h.1.2;rw[hw] at this;cases this
theorem xy {A:Ad}{W:Hp}{X:Addr→Bool}{b:Addr}(h1:b≠A.x∧b≠A.d1∧b≠A.ls∧b≠A.db)(h2:W b=none)(h3:X b=false):fX A W X b=false:=by
 unfold fX;rw[Bool.or_eq_false_iff,Bool.or_eq_false_iff,decide_eq_false_iff_not];exact⟨⟨fun e=>by rcases e with e | e | e | e;exact h1.1 e;exact h1.2.1 e;exact h1.2.2.1 e;exact h1.2.2.2 e,by rw[h2];rfl⟩,h3⟩
theorem rX {H H' W W':Hp}{A:Ad}{X:Addr→Bool}(S:af (hid H A) (hid H' A))(G:d7 H W W'):af (bv (fX A W X) H) (bv (fX A W' X) H'):=fun b o e=>by
 obtain⟨h1,h2⟩:=aK e;obtain⟨n1,n2,n3⟩:=jP h2;have h3:=S b o (gM h1 n1.1 n1.2.1 n1.2.2.1 n1.2.2.2);exact cc (bp _ _ h3) (xy n1 (G.2 b o n2 h1) n3)
theorem aJ.own {H H':Hp}{C CB:Addr}{A:Ad}{W:Hp}{ss:List Str}{h:Hs}{ks:List Addr}(hh:aJ H C CB A W ss h)(O:Owx ks H H')(hk:∀ k∈ks,(k≠A.x∧k≠A.d1∧k≠A.ls∧k≠A.db)∧W k=none):aJ H' C CB A W ss h:=by
 obtain⟨h1,h2,⟨ps,h3,h4,h5⟩,⟨rs,h6,h7,h8⟩,h9,h10⟩:=hh;refine⟨O _ _ (fun m=>(hk _ m).1.1 rfl) h1,O _ _ (fun m=>(hk _ m).1.2.1 rfl) h2,⟨ps,O _ _ (fun m=>(hk _ m).1.2.2.1 rfl) h3,h4,h5⟩,⟨rs,O _ _ (fun m=>(hk _ m).1.2.2.2 rfl) h6,h7,h8⟩,h9,fun b o e=>?_⟩;obtain⟨e1,n⟩:=gD (h10 b o e);exact gM (O b o (fun m=>by have:=(hk b m).2;rw[e] at this;cases this) e1) n.1 n.2.1 n.2.2.1 n.2.2.2
theorem KI.bk {G:Hp}{lk kc kd kt lo:Addr}{so ns ss:List Str}{h h':Hs}{T:List (Int×LK)}(K:KI G lk kc kd kt lo so ns ss h T)(e1:h'.cl=h.cl)(e2:h'.day=h.day)(e3:h'.dp=h.dp):KI G lk kc kd kt lo so ns ss h' T:=by
 obtain⟨⟨h1,h2,h3,h4,h5⟩,h6,h7⟩:=K;exact⟨⟨by rw[e2];exact h1,h2,by rw[e1];exact h3,by rw[e3];exact h4,h5⟩,by rw[e1];exact h6,h7⟩
structure J38 (H:Hp)(CH CB:Addr)(A:Ad)(W:Hp)(X:Addr→Bool)(lk kc kd kt lo:Addr)(so ns ss:List Str) (h:Hs)(Tb:List (Int×LK)):Prop where
 hh:aJ H CH CB A W ss h
 ki:KI (bv (fX A W X) H) lk kc kd kt lo so ns ss h Tb
 oc:fc X H
 ka:nQ ns so ss h Tb
theorem aJ.occ {H:Hp}{C CB:Addr}{A:Ad}{W:Hp}{ss:List Str}{h:Hs}{X:Addr→Bool}(hh:aJ H C CB A W ss h)(oc:fc X H):fc (fX A W X) H:=fun b hb e=>by
 have:fX A W X b=false:=xy ⟨(fun z=>by rw[z,hh.ins] at e;cases e),(fun z=>by rw[z,hh.cl] at e;cases e),(fun z=>by obtain⟨ps,h1,_⟩:=hh.dp;rw[z,h1] at e;cases e),(fun z=>by obtain⟨rs,h1,_⟩:=hh.bk;rw[z,h1] at e;cases e)⟩ (hh.up.free e) (oc.new e);rw[this] at hb;cases hb
def Dd.nm:Dd→Str
 | .bring _ _=>"bring"
 | .dip _ _ _=>"dip"
 | .back _=>"back"
 | .change _ _ _ _=>"change"
 | .shade _ _=>"shade"
 | .trail _ _=>"trail"
 | .dips _=>"dips"
 | .book _=>"book"
def Dd.luok (ks:List Addr):Dd→Prop
 | .change _ lu _ _=>lu∉ks
 | _=>True
structure wT (K:PySem.W.Frag)(cs:List Addr)(dip cBN cKn cNS cNC cNB cBB cND cLa cNo:Addr):Prop where
 bits:∀ C w,zv cBN cKn cNS cNC cNB cBB cND cLa cNo C w→∃ bits,Bits K cs dip C bits∧dN (true::bits)=zV "ValueError "++w
theorem gd {dd:Dd}{H H':Hp}(h:dd.fine H)(S:af H H'):dd.fine H':=by
 cases dd with
 | change b lu os d=>exact⟨h.1,S _ _ h.2.1,h.2.2⟩
 | bring c z=>exact h
 | dip c b d=>exact h
 | back d=>trivial
 | shade c d=>exact h
 | trail c d=>exact h
 | dips d=>trivial
 | book d=>trivial
theorem TOk.last {ss ns:List Str}{h:Hs}{Tb:List (Int×LK)}(TO:TOk ss ns h Tb)(ts:∀ e∈Tb,e.1≤h.day)(hd:h.day≤400){el:Int×LK}(hl:Tb.getLast?=some el):∀ n∈ns,∀ z∈ss,el.2 n z=lkB (aR h.bk 400).1 (aR h.bk 400).2 n z:=by
 obtain⟨lk,h1,h2⟩:=TO.to 400 (by decide)
 have:fJ Tb 400=some el.2:=by
   unfold fJ;rw[List.filter_eq_self.mpr (fun e he=>decide_eq_true (CC (ts e he) hd)),hl];rfl
 rw[this] at h1;cases h1;exact h2
theorem fU.bring {h:Hs}(HR:fU h)(hcn:∀ e∈h.dp,e.2.1∈h.cl.map (·.1)){c z:Str}:fU { h with cl:=h.cl++[(c,z)] }:=by
 refine⟨HR.srt,fun i e he=>?_⟩;have h1:=HR.out i e he;rw[h1]
 congr 1
 have hm:=hcn e (z6 he);unfold aV;show(match (aX (h.dp.take i) e.2.1 e.1).getLast? with | some e=>e.2.2 | none=>((h.cl.lookup e.2.1).getD ⟨#[]⟩))=(match (aX (h.dp.take i) e.2.1 e.1).getLast? with | some e=>e.2.2 | none=>(((h.cl++[(c,z)]).lookup e.2.1).getD ⟨#[]⟩))
 have hl:(h.cl++[(c,z)]).lookup e.2.1=h.cl.lookup e.2.1:=by
   rw[List.lookup_append];obtain⟨x,hx,hxe⟩:=List.mem_map.mp hm
   cases hk:h.cl.lookup e.2.1 with
   | some y=>rfl
   | none =>
     exfalso;have:=List.lookup_eq_none_iff.mp hk x hx;simp[hxe] at this
 rw[hl]
theorem fU.back {h:Hs}(HR:fU h):fU { h with dp:=h.dp.dropLast }:=by
 refine⟨HR.srt.sublist (Bs _),fun i e he=>?_⟩;have hi:i < h.dp.dropLast.length:=(List.getElem?_eq_some_iff.mp he).1
 have he2:h.dp[i]?=some e:=by
   have he3:h.dp.dropLast[i]?=some e:=he;rw[List.getElem?_dropLast] at he3
   split at he3
   . exact he3
   . cases he3
 have h1:=HR.out i e he2;rw[AZ] at hi;rw[h1]
 congr 2
 show({ h with dp:=h.dp.take i }:Hs)={ h with dp:=h.dp.dropLast.take i };rw[B6,List.take_take,Nat.min_eq_left (by omega)]
theorem xg {dp:List (Int×Str×Str×Str)}{d:Int}(h:bf dp d=[]):∀ e∈dp,e.1≠d:=fun e he k=>by
 unfold bf at h;have:=List.filter_eq_nil_iff.mp (List.map_eq_nil_iff.mp h) e he;simp[k] at this
theorem nQ.step {ns so ss:List Str}{h h':Hs}{Tb:List (Int×LK)}{dd:Dd}(ka:nQ ns so ss h Tb)(hg:dd.good ns so h)(hst:rO h h' dd)(ho':bH ss ns h')(hdl:h.dp.length+1 < 1000)(htl:Tb.length+1 < 1000)(hcl:h.cl.length < 50) :
   nQ ns so ss h' (dd.tb so Tb)∧h'.dp.length≤h.dp.length+1∧(dd.tb so Tb).length≤Tb.length+1∧∀ c∈h'.cl,c∈h.cl∨∃ z,dd=.bring c.1 z:=by
 have same:h'=h→Dd.tb so Tb dd=Tb→nQ ns so ss h' (dd.tb so Tb)∧h'.dp.length≤h.dp.length+1∧(dd.tb so Tb).length≤Tb.length+1∧∀ c∈h'.cl,c∈h.cl∨∃ z,dd=.bring c.1 z:=fun e1 e2=>by
   rw[e1,e2];exact⟨ka,by omega,by omega,fun c hc=>.inl hc⟩
 cases dd with
 | bring c z =>
   cases hst;refine⟨⟨⟨ka.TO.t0,ka.TO.to,ka.TO.tl⟩,ka.HR.bring ka.hcn,ho',ka.hbn,fun e he=>?_,ka.ts,ka.ssn,ka.son,ka.srt,ka.nsn,ka.pm,ka.so12,ka.ns8,ka.dl,?_,ka.tl9⟩,by show h.dp.length≤_;omega,by show Tb.length≤_;omega,fun x hx=>?_⟩
   . show e.2.1∈(h.cl++[(c,z)]).map (·.1);rw[z8];exact A8 _ (ka.hcn e he)
   . show(h.cl++[(c,z)]).length≤60;rw[zY,Aa];omega
   . rcases List.mem_append.mp hx with hx | hx
     . exact .inl hx
     . rw[List.mem_singleton.mp hx];exact .inr ⟨z,rfl⟩
 | dip c b d =>
   obtain⟨g1,g2,g3,g4⟩:=hg;cases hst;refine⟨⟨⟨ka.TO.t0,ka.TO.to,ka.TO.tl⟩,ka.HR.dip ka.ho g4,ho',fun e he=>?_,fun e he=>?_,fun e he=>⟨(ka.ts e he).1,CC (ka.ts e he).2 g4⟩,ka.ssn,ka.son,ka.srt,ka.nsn,ka.pm,ka.so12,ka.ns8,?_,ka.cl60,ka.tl9⟩,?_,by show Tb.length≤_;omega,fun x hx=>.inl hx⟩
   . rcases List.mem_append.mp he with he | he
     . exact ka.hbn e he
     . rw[List.mem_singleton.mp he];exact g2
   . rcases List.mem_append.mp he with he | he
     . exact ka.hcn e he
     . rw[List.mem_singleton.mp he];exact g1
   . show(h.dp++[_]).length < 1000;rw[zY,Aa];omega
   . show(h.dp++[_]).length≤_;rw[zY,Aa];omega
 | back d =>
   cases hst;refine⟨⟨⟨ka.TO.t0,ka.TO.to,ka.TO.tl⟩,ka.HR.back,ho',fun e he=>ka.hbn e ((Bs _).subset he),fun e he=>ka.hcn e ((Bs _).subset he),ka.ts,ka.ssn,ka.son,ka.srt,ka.nsn,ka.pm,ka.so12,ka.ns8,?_,ka.cl60,ka.tl9⟩,?_,by show Tb.length≤_;omega,fun x hx=>.inl hx⟩
   . show h.dp.dropLast.length < 1000;rw[AZ];omega
   . show h.dp.dropLast.length≤_;rw[AZ];omega
 | change b lu os d =>
   obtain⟨g1,g2,g3,g4,g5⟩:=hg;obtain⟨so2,ns2,CI,B2,rfl⟩:=hst;have e2:=zz ka.ho ka.ssn ka.pm ka.srt CI;subst e2
   obtain⟨el,hel⟩:∃ el,Tb.getLast?=some el:=by
     obtain⟨e0,r,he⟩:=ka.TO.t0;exact⟨_,AY (by rw[he];intro k;cases k)⟩
   have etb:Dd.tb so2 Tb (.change b lu os d)=Tb++[(d,eo so2 b os el.2)]:=by
     show(match Tb.getLast? with | some el=>Tb++[(d,eo so2 b os el.2)] | none=>Tb)=_;rw[hel]
   rw[etb];have hlast:=ka.TO.last (fun e he=>(ka.ts e he).2) ka.ho.d4 hel;obtain⟨B4,hN4,hZ4⟩:=ka.ho.on 400
   have hlt:∀ e∈h.dp,e.1 < d:=fun e he=>by
     have h1:=(ka.ho.dd e he).2;have h2:=xg g5 e he;omega
   refine⟨⟨⟨?_,fun e he=>?_,by rw[zY,Aa];omega⟩,⟨ka.HR.srt,fun i e he=>?_⟩,ho',ka.hbn,ka.hcn,fun e he=>?_,ka.ssn,ka.son,ka.srt,ka.nsn,ka.pm,ka.so12,ka.ns8,ka.dl,ka.cl60,by rw[zY,Aa];omega⟩,by show h.dp.length≤_;omega,by rw[zY,Aa];omega,fun x hx=>.inl hx⟩
   . obtain⟨e0,r,he⟩:=ka.TO.t0;exact⟨e0,r++[_],by rw[he];rfl⟩
   . rw[fP];show ∃ lk:LK,_∧∀ n∈ns,∀ z∈ss,lk n z=lkB (aR (cg h.bk d _) e).1 (aR (cg h.bk d _) e).2 n z;rw[oX ka.ho ho' he];by_cases hle:d≤e
     . rw[if_pos hle,if_pos hle];refine⟨_,rfl,fun n hn z hz=>?_⟩;have hn2:n∈ns2:=CI.pn.mem_iff.mpr ((hN4 n).mpr hn);rw[ya B4 CI B2 hn2 (ka.pm.mem_iff.mpr hz)];show eo so2 b os el.2 n z=_;unfold eo;by_cases hnb:n=b
       . rw[if_pos hnb,if_pos hnb]
       . rw[if_neg hnb,if_neg hnb];exact hlast n hn z hz
     . rw[if_neg hle,if_neg hle];exact ka.TO.to e he
   . have h1:=ka.HR.out i e he;show e.2.2.2=lkB (aR (cg h.bk d _) e.1).1 (aR (cg h.bk d _) e.1).2 e.2.2.1 _;rw[oX ka.ho ho' (ka.ho.dd e (z6 he)).1,if_neg (by have:=hlt e (z6 he);omega)];exact h1
   . rcases List.mem_append.mp he with he | he
     . exact⟨(ka.ts e he).1,CC (ka.ts e he).2 g4⟩
     . rw[List.mem_singleton.mp he];exact⟨g3.1,BK _⟩
 | shade c d=>exact same hst rfl
 | trail c d=>exact same hst rfl
 | dips d=>exact same hst rfl
 | book d=>exact same hst rfl
theorem rO.eq {h h':Hs}{dd:Dd}(s:rO h h' dd):h'.cl=(dd.step h).cl∧h'.day=(dd.step h).day∧h'.dp=(dd.step h).dp:=by
 cases dd with
 | change b lu os d=>obtain⟨_,_,_,_,rfl⟩:=s;exact⟨rfl,rfl,rfl⟩
 | bring c z=>cases s;exact⟨rfl,rfl,rfl⟩
 | dip c b d=>cases s;exact⟨rfl,rfl,rfl⟩
 | back d=>cases s;exact⟨rfl,rfl,rfl⟩
 | shade c d=>cases s;exact⟨rfl,rfl,rfl⟩
 | trail c d=>cases s;exact⟨rfl,rfl,rfl⟩
 | dips d=>cases s;exact⟨rfl,rfl,rfl⟩
 | book d=>cases s;exact⟨rfl,rfl,rfl⟩
theorem J38.same {H H':Hp}{CH CB:Addr}{A:Ad}{W:Hp}{X:Addr→Bool}{lk kc kd kt lo:Addr}{so ns ss:List Str}{h:Hs}{Tb:List (Int×LK)}(J:J38 H CH CB A W X lk kc kd kt lo so ns ss h Tb)(S:af H H'):J38 H' CH CB A W X lk kc kd kt lo so ns ss h Tb :=
 ⟨af.house S J.hh,J.ki.same (aQ S),J.oc.same S,J.ka⟩
def DV.len:DV→Nat
 | .trail L=>L.length
 | .dips L=>L.length
 | _=>0
theorem jI {H:Hp}{a b:V}{dv:DV}{Q:VK}{E:XK}(h1:t7 H a dv)(h2:t7 H b dv)(hl:dv.len≤1000)(q:Q (.bl true) H):fZ (fZ (fZ rV)) [a,b] H Q E:=by
 cases dv with
 | non=>cases h1;cases h2;exact yx q
 | str z=>cases h1;cases h2;exact uj q
 | pair x y =>
   obtain⟨t,rfl,ht⟩:=h1;obtain⟨t2,rfl,ht2⟩:=h2;exact pU ht ht2 (by show 2≤1000;decide) zc q
 | trail L =>
   obtain⟨l,ps,rfl,hl1,hT1⟩:=h1;obtain⟨l2,ps2,rfl,hl2,hT2⟩:=h2;refine u6 hl1 hl2 hT1 hT2 (by rw[be];exact hl) (fun e he=>?_) (fun e he=>?_) q
   . obtain⟨x,_,rfl⟩:=List.mem_map.mp he;show 3≤1000
     decide
   . obtain⟨x,_,rfl⟩:=List.mem_map.mp he;intro y hy;simp only[AV,AM,or_false] at hy
     rcases hy with rfl | rfl | rfl
     . exact .inr ⟨_,rfl⟩
     . exact .inl ⟨_,rfl⟩
     . exact .inl ⟨_,rfl⟩
 | dips L =>
   obtain⟨l,ps,rfl,hl1,hT1⟩:=h1;obtain⟨l2,ps2,rfl,hl2,hT2⟩:=h2;refine u6 hl1 hl2 hT1 hT2 (by rw[be];exact hl) (fun e he=>?_) (fun e he=>?_) q
   . obtain⟨x,_,rfl⟩:=List.mem_map.mp he;show 2≤1000
     decide
   . obtain⟨x,_,rfl⟩:=List.mem_map.mp he;exact zc
theorem Dd.vlen {h:Hs}{dd:Dd}(hd:h.dp.length≤1000):(dd.val h).len≤1000:=by
 cases dd with
 | trail c d =>
   show(aX h.dp c d).length≤1000;unfold aX;rw[be];exact AO (Bf _ _) hd
 | dips d =>
   show(bf h.dp d).length≤1000;unfold bf;rw[be];exact AO (Bf _ _) hd
 | back d =>
   show(match (bf h.dp d).getLast? with | some e=>DV.pair e.1 e.2 | none=>DV.non).len≤1000
   split<;>exact AN _
 | bring c z=>exact AN _
 | dip c b d=>exact AN _
 | change b lu os d=>exact AN _
 | shade c d=>exact AN _
 | book d=>exact AN _
structure Own (K:PySem.W.Frag)(C:Addr):Prop where
 ha:A6 K (.ref (C)) "__class__"=some (some (.builtin "object.__class__"))
 hn:PySem.W.specialIn K (.builtin "object.__class__") "__get__"=some (some (.builtin "getset_descriptor.__get__"))
 ht:PySem.W.takesIn K (.builtin "object.__class__")=some true
 hm:PySem.W.mroIn K C (.type "object")=some true
theorem wm {F:Addr→Bool}{H H':Hp}(S:Fz H H'):Fz (bv F H) (bv F H'):=by
 refine⟨fun b o h n=>cc (S.1 b o (aK h).1 n) (aK h).2,fun b o h=>?_⟩
 have hb:F b=false∧Rd H b o:=by
   rcases h with h | ⟨u,h⟩
   . exact⟨(aK h).2,.inl (aK h).1⟩
   . exact⟨(aK h).2,.inr ⟨u,(aK h).1⟩⟩
 rcases S.2 b o hb.2 with h | ⟨u,h⟩
 . exact .inl (cc h hb.1)
 . exact .inr ⟨u,cc h hb.1⟩
theorem sS {F:Addr→Bool}{H:Hp}{kc d:Addr}{ss ns:List Str}{lk:LK}(h:de (hide (bv F H) kc) d ss ns lk):F d=false∧d≠kc:=by
 obtain⟨kvs,hR,_⟩:=h
 have k:∀ {o},hide (bv F H) kc d=some o→F d=false∧d≠kc:=fun {o} e=>by
   have hne:d≠kc:=fun z=>by rw[z] at e;unfold hide at e;rw[if_pos rfl] at e;cases e
   rw[aW hne] at e;exact⟨(aK e).2,hne⟩
 rcases hR with h | ⟨_,h⟩
 . exact k h
 . exact k h
def Kp0 (ks:List Addr)(A:Ad)(H H':Hp):Prop:=∀ b o,b∉ks→(b≠A.x∧b≠A.d1∧b≠A.ls∧b≠A.db)→H b=some o→H' b=some o
theorem KI.free {F:Addr→Bool}{H:Hp}{lk kc kd kt lo:Addr}{so ns ss:List Str}{h:Hs}{T:List (Int×LK)}(K:KI (bv F H) lk kc kd kt lo so ns ss h T):∀ k∈[lk,kc,kd,kt],F k=false:=fun k hk=>by
 obtain⟨psd,hkd,_⟩:=K.r.hkd;obtain⟨pst,dst,hkt,_⟩:=K.r.hkt;simp only[AV,AM,or_false] at hk
 rcases hk with rfl | rfl | rfl | rfl
 . exact(aK K.r.hlk).2
 . exact(aK K.kcx).2
 . exact(aK hkd).2
 . exact(aK hkt).2
def yy (H H1:Hp)(A:Ad)(W:Hp)(X:Addr→Bool)(lk kc kd kt lo:Addr)(so ns ss:List Str) (h:Hs)(Tb:List (Int×LK))(dd:Dd) (v1:V):Prop :=
 (∃ w t1,dd.bad ns so h w∧v1=.ref t1∧af H H1∧H1 t1=some (.tup (dJ w)))∨(dd.good ns so h∧Owx [lk,kc,kd,kt] H H1∧DvN H H1 v1 (dd.val h)∧KI (bv (fX A W X) H1) lk kc kd kt lo so ns ss (dd.step h) (dd.tb so Tb))
theorem J38.ks4 {H:Hp}{CH CB:Addr}{A:Ad}{W:Hp}{X:Addr→Bool}{lk kc kd kt lo:Addr}{so ns ss:List Str}{h:Hs}{Tb:List (Int×LK)}(J:J38 H CH CB A W X lk kc kd kt lo so ns ss h Tb):∀ b∈[lk,kc,kd,kt],(∃ o,H b=some o)∧fX A W X b=false:=fun b hb=>by
 obtain⟨psd,hkd,_⟩:=J.ki.r.hkd;obtain⟨pst,dst,hkt,_⟩:=J.ki.r.hkt;simp only[AV,AM,or_false] at hb
 rcases hb with rfl | rfl | rfl | rfl
 . exact⟨⟨_,(aK J.ki.r.hlk).1⟩,(aK J.ki.r.hlk).2⟩
 . exact⟨⟨_,(aK J.ki.kcx).1⟩,(aK J.ki.kcx).2⟩
 . exact⟨⟨_,(aK hkd).1⟩,(aK hkd).2⟩
 . exact⟨⟨_,(aK hkt).1⟩,(aK hkt).2⟩
theorem rD {K:PySem.W.Frag}{H:Hp}{Q:VK}{E:XK}{CH CB:Addr}{A:Ad}{W:Hp}{X:Addr→Bool}{lk kc kd kt lo t:Addr}{so ns ss:List Str}{h:Hs}{Tb:List (Int×LK)}{dd:Dd}(J:J38 H CH CB A W X lk kc kd kt lo so ns ss h Tb)(htt:H t=some (.tup dd.tup))(hf:dd.fine H)
   (hR:∀ v1 H1,yy H H1 A W X lk kc kd kt lo so ns ss h Tb dd v1→Q v1 H1):uJ K [.ref lk,.ref t] H Q E :=
 ⟨fX A W X,lk,kc,kd,kt,lo,so,ns,ss,h,Tb,t,dd,rfl,htt,J.ki,J.hh.occ J.oc,J.ka,hf,fun t' H' w hb S _ ht=>hR _ _ (.inl ⟨w,t',hb,rfl,S,ht⟩),fun hg v H' O dv K=>hR _ _ (.inr ⟨hg,O,dv,K⟩)⟩
theorem yf {K:PySem.W.Frag}{H H1:Hp}{Q:VK}{E:XK}{CH CB cBN cKn cNS cFu cNC cNB cBB cND cLa cNo dip:Addr}{cs:List Addr}{A:Ad}{W:Hp}{X:Addr→Bool}{lk kc kd kt lo t:Addr}{so ns ss:List Str}{h:Hs}{Tb:List (Int×LK)}{dd:Dd}{v1:V}(BT:wT K cs dip cBN cKn cNS cNC cNB cBB cND cLa cNo)(J:J38 H CH CB A W X lk kc kd kt lo so ns ss h Tb)(htt:H t=some (.tup dd.tup))(hf:dd.fine H)(hlu:dd.luok [lk,kc,kd,kt])(hsn:ss.Nodup)(hcl50:h.cl.length < 50)(hdl1:h.dp.length+1 < 1000)(htl1:Tb.length+1 < 1000)(M:yy H H1 A W X lk kc kd kt lo so ns ss h Tb dd v1)
   (q:∀ v2 H2 W' h' Tb',J38 H2 CH CB A W' X lk kc kd kt lo so ns ss h' Tb'→Kp0 [lk,kc,kd,kt] A H H2→d7 H W W'→h'.dp.length≤h.dp.length+1→Tb'.length≤Tb.length+1→(∀ c∈h'.cl,c∈h.cl∨∃ z,dd=.bring c.1 z)→Q v2 H2):xl (l8 K CH CB cBN cKn cNS cFu cNC cNB cBB cND cLa cNo) K cs dip [.ref A.x,.ref t] H1 Q E:=by
 have hks:∀ k∈[lk,kc,kd,kt],(k≠A.x∧k≠A.d1∧k≠A.ls∧k≠A.db)∧W k=none:=fun k hk=>⟨(jP (J.ks4 k hk).2).1,(jP (J.ks4 k hk).2).2.1⟩;obtain⟨psd,hkd,_⟩:=J.ki.r.hkd;obtain⟨pst,dst,hkt,_⟩:=J.ki.r.hkt
 have htk:t∉[lk,kc,kd,kt]:=fun hm=>by
   simp only[AV,AM,or_false] at hm
   rcases hm with rfl | rfl | rfl | rfl
   . rw[(aK J.ki.r.hlk).1] at htt;cases htt
   . rw[(aK J.ki.kcx).1] at htt;cases htt
   . rw[(aK hkd).1] at htt;cases htt
   . rw[(aK hkt).1] at htt;cases htt
 have O1:Owx [lk,kc,kd,kt] H H1:=by
   rcases M with ⟨_,_,_,_,S,_⟩ | ⟨_,O,_⟩
   . exact Owx.same S
   . exact O
 have hh1:=J.hh.own O1 hks;have htt1:=O1 _ _ htk htt
 have hf1:dd.fine H1:=by
   cases dd with
   | change b lu os d=>exact⟨hf.1,O1 _ _ hlu hf.2.1,hf.2.2⟩
   | bring c z=>exact hf
   | dip c b d=>exact hf
   | back d=>trivial
   | shade c d=>exact hf
   | trail c d=>exact hf
   | dips d=>trivial
   | book d=>trivial
 refine⟨_,_,rfl,fun H1' E' S1' hE=>?_⟩;have hh1':=af.house S1' hh1;have htt1':=S1' _ _ htt1;refine⟨A,W,ss,ns,so,h,t,dd,rfl,hh1',J.ka.ho,htt1',gd hf1 S1',J.ka.pm,hsn,J.ka.dl,hcl50,fun C w H2 hb he S2=>?_,fun hg v H2 W' h' S2 G2 hh2 ho2 hst hv=>?_⟩
 . obtain⟨bits,hB,htx⟩:=BT.bits C w he;refine hE C bits H2 hB fun t2 H3 S3 ht2=>?_
   rcases M with ⟨w1,t1,hb1,rfl,S1,ht1⟩ | ⟨hg,_⟩
   . have SS:=S1.trans (S1'.trans (S2.trans S3));exact q _ _ W h Tb (J.same SS) (fun b o _ _ e=>SS b o e) (d7.refl _ _) (by omega) (by omega) (fun c hc=>.inl hc)
   . exact(Dd.not hb hg).elim
 . rcases M with ⟨w1,t1,hb1,_⟩ | ⟨_,O,dv,KK⟩
   . exact(Dd.not hb1 hg).elim
   . have K3:=(KK.same (aQ S1')).same (rX S2 G2);have kp:Kp0 [lk,kc,kd,kt] A H H2:=fun b o hb na e=>bp _ _ (S2 b o (gM (S1' _ _ (O b o hb e)) na.1 na.2.1 na.2.2.1 na.2.2.2));obtain⟨ka2,l1,l2,l3⟩:=J.ka.step hg hst ho2 hdl1 htl1 hcl50;obtain⟨e1,e2,e3⟩:=hst.eq;refine q v H2 W' h' _ ⟨hh2,K3.bk e1 e2 e3,fun b hb e=>?_,ka2⟩ kp ⟨G2.1,fun b o hw e=>?_⟩ l1 l2 l3
     . cases hH:H b with
       | none=>exact J.oc b hb hH
       | some o =>
         have hbk:b∉[lk,kc,kd,kt]:=fun hm=>by
           rw[(jP (J.ks4 b hm).2).2.2] at hb;cases hb
         by_cases hA:b≠A.x∧b≠A.d1∧b≠A.ls∧b≠A.db
         . have:=kp b o hbk hA hH;rw[e] at this;cases this
         . exact hA ⟨(fun z=>by rw[z,hh2.ins] at e;cases e),(fun z=>by rw[z,hh2.cl] at e;cases e),(fun z=>by obtain⟨ps,h1,_⟩:=hh2.dp;rw[z,h1] at e;cases e),(fun z=>by obtain⟨rs,h1,_⟩:=hh2.bk;rw[z,h1] at e;cases e)⟩
     . by_cases hb:b∈[lk,kc,kd,kt]
       . exact(jP (K3.free b hb)).2.1
       . exact G2.2 b o hw (S1' _ _ (O b o hb e))
theorem yS {K:PySem.W.Frag}{H:Hp}{Q:VK}{E:XK}{CH CB cBN cKn cNS cFu cNC cNB cBB cND cLa cNo dip:Addr}{cs:List Addr}{A:Ad}{W:Hp}{t:Addr}{so ns ss:List Str}{h:Hs}{dd:Dd}(BT:wT K cs dip cBN cKn cNS cNC cNB cBB cND cLa cNo)(hh:aJ H CH CB A W ss h)(ho:bH ss ns h)(pm:so.Perm ss)(htt:H t=some (.tup dd.tup))(hf:dd.fine H)(hsn:ss.Nodup)(hdl:h.dp.length < 1000)(hcl50:h.cl.length < 50)(ng:¬dd.good ns so h)
   (q:∀ t2 H2 w,dd.bad ns so h w→af H H2→H2 t2=some (.tup (dJ w))→Q (.ref t2) H2):xl (l8 K CH CB cBN cKn cNS cFu cNC cNB cBB cND cLa cNo) K cs dip [.ref A.x,.ref t] H Q E:=by
 refine⟨_,_,rfl,fun H1' E' S1' hE=>?_⟩;refine⟨A,W,ss,ns,so,h,t,dd,rfl,af.house S1' hh,ho,S1' _ _ htt,gd hf S1',pm,hsn,hdl,hcl50,fun C w H2 hb he S2=>?_,fun hg=>(ng hg).elim⟩;obtain⟨bits,hB,htx⟩:=BT.bits C w he;exact hE C bits H2 hB fun t2 H3 S3 ht2=>q _ _ w hb (S1'.trans (S2.trans S3)) (by rw[ht2,htx];rfl)
structure JR (H:Hp)(CH CB:Addr)(A:Ad)(W:Hp)(X:Addr→Bool)(lk kc kd kt lo:Addr)(so ns ss:List Str) (h:Hs)(Tb:List (Int×LK)):Prop where
 hh:aJ H CH CB A W ss h
 kr:KR (bv (fX A W X) H) lk kc kd kt lo so ns ss h Tb
 oc:fc X H
 ka:nQ ns so ss h Tb
def Fx (Y:Addr→Bool)(H H':Hp):Prop:=Fz H H'∧∀ b o,Y b=true→H b=some o→H' b=some o
theorem Fx.of {Y:Addr→Bool}{H H':Hp}(S:af H H'):Fx Y H H':=⟨af.fz S,fun b o _ e=>S b o e⟩
theorem Fx.trans {Y:Addr→Bool}{H H' H'':Hp}(a:Fx Y H H')(b:Fx Y H' H''):Fx Y H H'':=⟨a.1.trans b.1,fun x o hy e=>b.2 x o hy (a.2 x o hy e)⟩
theorem Fx.ofX {Y:Addr→Bool}{H H':Hp}{d:Addr}(F:Fz H H')(S:ot d H H')(hf:Y d=false):Fx Y H H':=⟨F,fun b o hy e=>S b o (fun z=>by rw[z,hf] at hy;cases hy) e⟩
section
variable {H H':Hp}{CH CB d:Addr}{A:Ad}{W:Hp}{X:Addr→Bool}{lk kc kd kt lo:Addr}{so ns ss:List Str}{h:Hs}{Tb:List (Int×LK)}
theorem J38.jr (J:J38 H CH CB A W X lk kc kd kt lo so ns ss h Tb):JR H CH CB A W X lk kc kd kt lo so ns ss h Tb:=⟨J.hh,J.ki.r,J.oc,J.ka⟩
theorem JR.same (J:JR H CH CB A W X lk kc kd kt lo so ns ss h Tb)(S:af H H'):JR H' CH CB A W X lk kc kd kt lo so ns ss h Tb :=
 ⟨af.house S J.hh,J.kr.same (aQ S),J.oc.same S,J.ka⟩
theorem JR.frz (J:JR H CH CB A W X lk kc kd kt lo so ns ss h Tb)(S:Fz H H')(SX:ot d H H')(hf:fX A W X d=false):JR H' CH CB A W X lk kc kd kt lo so ns ss h Tb:=by
 obtain⟨n1,n2,n3⟩:=jP hf;refine⟨J.hh.frz n1 n2 SX,J.kr.fz (wm S),fun b hb e=>?_,J.ka⟩
 cases hH:H b with
 | none=>exact J.oc b hb hH
 | some o =>
   have:=SX b o (fun z=>by rw[z,n3] at hb;cases hb) hH;rw[e] at this;cases this
end
def vI (K:PySem.W.Frag)(CH CB:Addr):Sp:=fun vs H Q _=>∃ (A:Ad)(W:Hp)(X:Addr→Bool)(lk kc kd kt lo:Addr)(so ns ss:List Str) (h:Hs)(Tb:List (Int×LK))(ld:Addr)(L:List Int),vs=[.ref A.x,.ref lk,.ref ld]∧JR H CH CB A W X lk kc kd kt lo so ns ss h Tb∧H ld=some (.lst (L.map V.int))∧L.length≤100∧(∀ d∈L,1≤d∧d≤400)∧(∀ c∈h.cl,Shw c.1)∧∀ H',Fx (fX A W X) H H'→JR H' CH CB A W X lk kc kd kt lo so ns ss h Tb→Q (.bl true) H'
theorem qN:ax ["_law_house", "_law_kept", "_law_days_here", "_law_day_here", "_law_cloth"] ["_law_house", "_law_kept", "_law_days_here"] (ao t9):=sM
theorem wu {f fHL fHY fHP fHB fHT fHS fTx fAl fDpD fTe fIF fTD fSD:Addr}{fd fdHL fdHY fdHP fdHB fdHT fdHS fdTx fdAl fdDpD fdTe fdIF fdTD fdSD:FuncData}{CH CB cNC cND:Addr}(F:Fun K "_law_seen" "_law_seen" t9 f fd)
   (T:Txt mg)(hX:Hx K mg CH)
   (GHL:Cm P w K mg base (CX1 P w) 1 CH "cloths" ["self"] (lq CH CB) fHL fdHL)
   (GHY:Cm P w K mg base (CX1 P w) 1 CH "today" ["self"] (oy CH CB) fHY fdHY)
   (GHP:Cm P w K mg base (CX1 P w) 2 CH "dips" ["self", "day"] (gZ CH CB cND) fHP fdHP)
   (GHB:Cm P w K mg base (CX1 P w) 2 CH "book" ["self", "day"] (gR CH CB cND) fHB fdHB)
   (GHT:Cm P w K mg base (CX1 P w) 2 CH "trail" ["self", "cloth", "day"] (hV CH CB cNC cND) fHT fdHT)
   (GHS:Cm P w K mg base (CX1 P w) 3 CH "shade" ["self", "cloth", "day"] (gX CH CB cNC cND) fHS fdHS)
   (GTx:Cl P w K mg base CX0 1 "_law_texts" ["_law_found", "_law_due_here"] (mO K) fTx fdTx)
   (GAl:Cl P w K mg base CX0 3 "_law_alike" ["_law_found", "_law_due_here"] (fZ (fZ (fZ rV))) fAl fdAl)
   (GDpD:Cl P w K mg base CX0 1 "_law_dips_due" ["_law_kept", "_law_day_here"] ge fDpD fdDpD)
   (GTe:Cl P w K mg base CX0 3 "_law_tells" ["_law_book", "_law_order", "_law_tables_here"] (sq K CB) fTe fdTe)
   (GIF:Cl P w K mg base CX0 1 "_law_in_force" ["_law_kept", "_law_day_here"] iK fIF fdIF)
   (GTD:Cl P w K mg base CX0 2 "_law_trail_due" ["_law_kept", "_law_cloth", "_law_day_here"] eZ fTD fdTD)
   (GSD:Cl P w K mg base CX0 3 "_law_shade_due" ["_law_kept", "_law_cloth", "_law_day_here"] fg fSD fdSD) :
   aU P w K mg base CX0 5 f fd ["_law_house", "_law_kept", "_law_days_here"] (vI K CH CB):=by
 refine oq F qN fun cdv A outer s H vs Q E hr h=>?_;obtain⟨A0,W,X,lk,kc,kd,kt,lo,so,ns,ss,h,Tb,ld,L,rfl,J,hld,hL,hLd,hcS,q⟩:=h;have cH:=hX.c;have hr1:=hr.mono (j:=1) (by omega);have hr2:=hr.mono (j:=2) (by omega);have hr3:=hr.mono (j:=3) (by omega)
 refine⟨_,(aj (aC (PW.pt (eE (cf (bL (pC GTx hr1 az (aa (pM0 (pv 0) cH GHL hr1 gq) (aa (al (dU rfl) (by rfl) T.sorted (by decide) (aa (pI ak (pv 1) ag) ae)) ae))))) (dc (cf (bL (pC GAl hr3 az (aa (pM0 (pv 0) cH GHY hr1 gq) (aa (pI ak (pv 1) ag) ae)))))))) (ah (ap cv)) am)
   (aj (bq PassesOwn.never rfl (aY (pv 2)) (pN 3 qN.nd) (aj (aC (cf (bL (pC GAl hr3 az (aa (pM (pv 0) cH GHP hr2 gq (aa (pv 3) ae)) (aa (pC GDpD hr1 az (aa (pv 1) (aa (pv 3) ae))) ae))))) (ah (ap cv)) am)
   (aj (aC (cf (bL (pC GTe hr3 az (aa (pM (pv 0) cH GHB hr2 gq (aa (pv 3) ae)) (aa (pI ak (pv 1) ag) (aa (pC GIF hr1 az (aa (pv 1) (aa (pv 3) ae))) ae)))))) (ah (ap cv)) am)
   (ah (bq PassesOwn.never rfl (mQ (pI ak (pv 1) ag)) (pN 4 qN.nd) (aN (aC (cf (bL (pC GAl hr3 az (aa (pM (pv 0) cH GHT hr2 gq (aa (pv 4) (aa (pv 3) ae))) (aa (pC GTD hr2 az (aa (pv 1) (aa (pv 4) (aa (pv 3) ae)))) ae))))) (ah (ap cv)) am)
   (ah (aC (cf (bL (pC GAl hr3 az (aa (pM (pv 0) cH GHS hr3 gq (aa (pv 4) (aa (pv 3) ae))) (aa (pC GSD hr3 az (aa (pv 1) (aa (pv 4) (aa (pv 3) ae)))) ae))))) (ah (ap cv)) am))))))))
   (ah (ap cv)))),?_⟩
 try dsimp only[aF,aO]
 have hs:=aL;have lko:∀ {m:Str}{dd:Int},(m==zV "first_shades")=false→(m==zV "day_now")=false→(m==zV "standing")=false→(m==zV "books_from")=false→Au m (hfs A0 dd)=none:=fun h1 h2 h3 h4=>eu h1 h2 h3 h4
 have hcll:(clV h.cl).length=h.cl.length:=by unfold clV;rw[be]
 have hkeys:(clV h.cl).map (·.1)=(h.cl.map (·.1)).map Sum.inr:=by unfold clV;rw[AH,AH];rfl
 have hdl:=J.ka.ho.dl
 have hkc64:(h.cl.map (·.1)).length < 64:=by rw[be];have:=J.ka.cl60;omega
 refine ar (fun σ' H'=>σ'=[some (.ref A0.x),some (.ref lk),some (.ref ld),none,none]∧af H H') (fun R hR=>?_) ?_
 . walk_at"";refine⟨A0.dx,_,J.hh.ins,lko (by decide) (by decide) (by decide) (by decide),A0,W,ss,h,rfl,J.hh,by have:=J.ka.cl60;omega,fun p os hp hpm hso=>?_⟩;have S1:af H (upd H p (.lst (os.map V.str))):=cI (af.refl _) hp;generalize hG1:upd H p (.lst (os.map V.str))=G1 at S1 ⊢
   have hp1:G1 p=some (.lst (os.map V.str)):=by rw[←hG1];exact ac
   have J1:=J.same S1;refine⟨_,SqL.of (av _ _ J1.kr.hlk),_,rfl,kc,rfl,h.cl.map (·.1),clV h.cl,af.rd av J1.kr.hkc,hkeys,hkc64,fun p2 ss' hp2 hpm2 hs2=>?_⟩;have he:ss'=os:=cy hs2 hso (hpm2.trans hpm.symm);subst he;have S2:af G1 (upd G1 p2 (.lst (ss'.map V.str))):=cI (af.refl _) hp2;have J2:=J1.same S2;refine⟨p,p2,ss',rfl,S2 _ _ hp1,SqL.of ac,by rw[hpm.length_eq];omega,true,rfl,aB (fun h=>by cases h) (fun _=>?_)⟩;refine⟨A0.dx,_,J2.hh.ins,lko (by decide) (by decide) (by decide) (by decide),A0,W,ss,h,rfl,J2.hh,_,SqL.of (av _ _ J2.kr.hlk),_,rfl,_,_,rfl,.inr (.inl ⟨_,_,rfl,rfl,?_⟩)⟩;exact⟨_,rfl,aB (fun hc=>by simp at hc) (fun _=>hR _ _ ⟨rfl,S1.trans S2⟩)⟩
 rintro σ1 H1 ⟨rfl,S1⟩;have J1:=J.same S1;refine ar (fun σ' H'=>∃ o3 o4,σ'=[some (.ref A0.x),some (.ref lk),some (.ref ld),o3,o4]∧Fx (fX A0 W X) H1 H'∧JR H' CH CB A0 W X lk kc kd kt lo so ns ss h Tb) (fun R hR=>?_) ?_
 . walk_at"";refine⟨⟨_,SqL.of (S1 _ _ hld)⟩,?_⟩;refine a8 (H0:=fun b=>if b=ld then some (.lst (L.map V.int)) else none) (aE (SqL.of (if_pos rfl))) (fun i σ' H'=>∃ o3 o4,σ'=[some (.ref A0.x),some (.ref lk),some (.ref ld),o3,o4]∧Fx (fX A0 W X) H1 H'∧JR H' CH CB A0 W X lk kc kd kt lo so ns ss h Tb) ⟨none,none,rfl,Fx.of (af.refl _),J1⟩ (fun _ _ _ _ ⟨_,_,_,hf,_⟩=>fun b o e=>?_) ?_ (fun σ H' h=>hR _ _ h)
   . dsimp only at e
     split at e
     . rename_i hb;cases e;rw[hb];exact hf.1.1 _ _ (S1 _ _ hld) (fun _ e=>by cases e)
     . cases e
   rintro i x σ H2 hi hx ⟨o3,o4,rfl,F2,J2⟩ R2 hR2;rw[zX] at hx;obtain⟨d,hd,rfl⟩:=Option.map_eq_some_iff.mp hx;have hdd:=hLd d (z6 hd);refine ar (fun σ' H'=>σ'=[some (.ref A0.x),some (.ref lk),some (.ref ld),some (.int d),o4]∧af H2 H') (fun R hR=>?_) ?_
   . walk_at"";refine⟨A0.dx,_,J2.hh.ins,lko (by decide) (by decide) (by decide) (by decide),A0,W,ss,ns,h,d,rfl,J2.hh,J.ka.ho,fun _ l ps H3 S3 hn3 hl3 hT3=>?_,fun hn=>absurd hdd hn⟩;have J3:=J2.same S3;refine⟨lk,kc,kd,kt,lo,so,ns,ss,h,Tb,d,rfl,J3.kr.same av,by omega,fun l2 ps2 H4 S4 hn4 hl4 hT4=>?_⟩;refine jI (dv:=.dips (bf h.dp d)) ⟨l,ps,rfl,S4 _ _ hl3,hT3.same S4⟩ ⟨l2,ps2,rfl,hl4,hT4⟩ (Dd.vlen (dd:=.dips d) hdl) ?_;exact⟨true,rfl,aB (fun h=>by cases h) (fun _=>hR _ _ ⟨rfl,S3.trans S4⟩)⟩
   rintro σ3 H3 ⟨rfl,S3⟩;have J3:=J2.same S3;refine ar (fun σ' H'=>σ'=[some (.ref A0.x),some (.ref lk),some (.ref ld),some (.int d),o4]∧Fx (fX A0 W X) H3 H'∧JR H' CH CB A0 W X lk kc kd kt lo so ns ss h Tb) (fun R hR=>?_) ?_
   . walk_at"";refine⟨A0.dx,_,J3.hh.ins,lko (by decide) (by decide) (by decide) (by decide),A0,W,ss,ns,h,d,rfl,J3.hh,J.ka.ho,fun _ r H4 S4 hbk=>?_,fun hn=>absurd hdd hn⟩;have J4:=J3.same S4;have hbk2:=af.book J4.hh.up hbk;obtain⟨Bd,hNd,hZd⟩:=J4.ka.ho.on d;refine⟨_,SqL.of (av _ _ J4.kr.hlk),_,rfl,bv (fX A0 W X) H4,lk,kc,kd,kt,lo,so,ns,ss,h,Tb,d,rfl,av,J4.kr,J4.ka.TO,hdd.1,fun d' hG=>?_⟩;obtain⟨hfd,hdk⟩:=sS hG;have hsp:=i5 J4.ka.ho J4.ka.ssn d;refine⟨r,lo,d',_,so,ns,_,_,rfl,hbk2,Bd,SqL.of (av _ _ J4.kr.hlo),J4.ka.pm.trans hsp.symm,J4.ka.srt,(Fz.tabG (af.fz (bP.trans av)) hG).perm hsp,pT J4.ka.ho J4.ka.nsn d,fun b hb z hz=>fk z Bd.bnd hb,fun H' F SX=>?_⟩;have J5:=J4.frz F SX hfd;exact⟨true,rfl,aB (fun h=>by cases h) (fun _=>hR _ _ ⟨rfl,(Fx.of S4).trans (Fx.ofX F SX hfd),J5⟩)⟩
   rintro σ4 H4 ⟨rfl,F4,J4⟩;walk_at"";refine⟨_,SqL.of (av _ _ J4.kr.hlk),_,rfl,kc,rfl,clV h.cl,nK (W:=fun o HF=>ua (Itd kc o _) _ _ _ _ HF) (af.rd av J4.kr.hkc) fun o HF hHF FF X2=>?_⟩
   have hfk:fX A0 W X kc=false:=by
     rcases J4.kr.hkc with h | ⟨u,h⟩
     . exact(aK h).2
     . exact(aK h).2
   have J5:=J4.frz FF X2 hfk;refine a8 (H0:=HF) (fM hHF) (fun _ σ' H''=>∃ o5,σ'=[some (.ref A0.x),some (.ref lk),some (.ref ld),some (.int d),o5]∧af HF H'') ⟨o4,rfl,af.refl _⟩ (fun _ _ _ _ ⟨_,_,h⟩=>h) ?_ (fun σ H' ⟨o5,e,S⟩=>hR2 _ _ ⟨_,_,e,((F2.trans (Fx.of S3)).trans F4).trans ((Fx.ofX FF X2 hfk).trans (Fx.of S)),J5.same S⟩);rintro j x σ H5 hj ⟨k,v,hk,rfl⟩ ⟨o5,rfl,S5⟩ R3 hR3
   obtain⟨c1,hc1,hkc⟩:∃ c,c∈h.cl∧(Sum.inr c.1,V.str c.2)=(k,v):=by
     unfold clV at hk;rw[zX] at hk;obtain⟨c,hc,e⟩:=Option.map_eq_some_iff.mp hk;exact⟨c,z6 hc,e⟩
   cases hkc;have hcm:c1.1∈h.cl.map (·.1):=AA hc1;have hcs:=hcS c1 hc1;have J6:=J5.same S5;walk_at"";refine⟨A0.dx,_,J6.hh.ins,lko (by decide) (by decide) (by decide) (by decide),A0,W,ss,ns,h,c1.1,d,rfl,J6.hh,J.ka.ho,hcs,fun _ _ l ps H7 S7 hn7 hl7 hT7=>?_,fun hn=>absurd hcm hn,fun _ hn=>absurd hdd hn⟩;have J7:=J6.same S7;refine⟨lk,kc,kd,kt,lo,so,ns,ss,h,Tb,c1.1,d,rfl,J7.kr.same av,J.ka.TO,J.ka.HR,J.ka.ho,J.ka.hbn,hcm,fun l2 ps2 H8 S8 hn8 hl8 hT8=>?_⟩;have J8:=J7.same S8;refine jI (dv:=.trail (aX h.dp c1.1 d)) ⟨l,ps,rfl,S8 _ _ hl7,hT7.same S8⟩ ⟨l2,ps2,rfl,hl8,hT8⟩ (Dd.vlen (dd:=.trail c1.1 d) hdl) ?_;refine⟨true,rfl,aB (fun h=>by cases h) (fun _=>?_)⟩;refine⟨A0.dx,_,J8.hh.ins,lko (by decide) (by decide) (by decide) (by decide),A0,W,ss,ns,h,c1.1,d,rfl,J8.hh,J.ka.ho,hcs,fun _ _ H9 S9=>?_,fun hn=>absurd hcm hn,fun _ hn=>absurd hdd hn⟩;have J9:=J8.same S9;refine⟨lk,kc,kd,kt,lo,so,ns,ss,h,Tb,c1.1,d,rfl,J9.kr.same av,J.ka.TO,J.ka.HR,J.ka.ho,J.ka.hbn,hcm,fun H10 S10=>?_⟩;refine jI (dv:=.str (aV h c1.1 d)) rfl rfl (AN _) ?_;exact⟨true,rfl,aB (fun h=>by cases h) (fun _=>hR3 _ _ ⟨_,rfl,S5.trans (S7.trans (S8.trans (S9.trans S10)))⟩)⟩
 rintro σ2 H2 ⟨o3,o4,rfl,F2,J2⟩;walk_at"";exact q H2 ((Fx.of S1).trans F2) J2
theorem zD (xs:List V):∃ k,gA xs (some (-3)) none=xs.drop k∧xs.length≤k+3:=by
 refine⟨HT.sIx xs.length 0 (some (-3)),?_,?_⟩
 . unfold gA;rw[AQ];rw[A3,HT.sIx_none];exact z7 _
 . show xs.length≤(if(-3:Int) < 0 then((-3:Int)+(xs.length:Int)).toNat else min (-3:Int).toNat xs.length)+3;rw[if_pos (by decide)];omega
def v9:Sp:=fun vs H Q _=>∃ (lk kc kd kt lo:Addr)(so ns ss:List Str) (h:Hs)(Tb:List (Int×LK)),vs=[.ref lk]∧KR H lk kc kd kt lo so ns ss h Tb∧(1≤h.day∧h.day≤400)∧(∀ e∈h.dp,1≤e.1∧e.1≤400)∧(∀ e∈Tb,1≤e.1∧e.1≤400)∧∀ l (L:List Int) H',af H H'→H l=none→H' l=some (.lst (L.map V.int))→L.length≤14→(∀ d∈L,1≤d∧d≤400)→Q (.ref l) H'
theorem gK:ax ["_law_kept", "_law_days_here", "_law_on", "_law_who", "_law_bath", "_law_since", "_law_tables_here"] ["_law_kept"] (ao uq):=sM
theorem wG {f:Addr}{fd:FuncData}(F:Fun K "_law_days" "_law_days" uq f fd)
   (T:Txt mg)(TM:mg "max"=none) :
   aU P w K mg base CX0 1 f fd ["_law_kept"] v9:=by
 refine oq F gK fun cdv A outer s H vs Q E hr h=>?_;obtain⟨lk,kc,kd,kt,lo,so,ns,ss,h,Tb,rfl,KR0,hday,hdp,hTb,q⟩:=h
 refine⟨_,(aj (pS 1 gK.nd (ba (aa ag (aa ag (aa (pI ak (pv 0) ag) (aa (al (ly rfl) (by rfl) TM (by decide) (aa ag (aa (aA jL (pI ak (pv 0) ag) ag) ae))) (aa (al (k7 rfl) (by rfl) T.min (by decide) (aa ag (aa (aA bU (pI ak (pv 0) ag) ag) ae))) ae)))))))
   (aj (bq PassesOwn.never rfl (aY (er gk (pI ak (pv 0) ag) (eG (d9 cK ag)) gj)) (cz (n:=3) rfl (aH (pN 2 gK.nd) (aH (pN 3 gK.nd) (aH (pN 4 gK.nd) bT)))) (ah (aM (eI Aw AE AF bN (pv 1) (aa (pv 2) ae)))))
   (aj (bq PassesOwn.never rfl (aY (er gk (pI ak (pv 0) ag) (eG (d9 cK ag)) gj)) (cz (n:=2) rfl (aH (pN 5 gK.nd) (aH (pN 6 gK.nd) bT))) (aj (aM (eI Aw AE AF bN (pv 1) (aa (pv 5) ae)))
   (ah (aM (eI Aw AE AF bN (pv 1) (aa (al (ly rfl) (by rfl) TM (by decide) (aa ag (aa (aA jL (pv 5) ag) ae))) ae))))))
   (ah (ap (al (mW rfl) (by rfl) T.sorted (by decide) (aa (cu (sU rfl) (by rfl) T.set (by decide) (aa (pv 1) ae)) ae))))))),?_⟩
 try dsimp only[aF,aO]
 have hs:=aL;obtain⟨h1,h2,h3,⟨ps,h4,h5⟩,⟨qs,ds,h6,h7,h8,h9⟩⟩:=id KR0;refine ar (fun σ' H'=>∃ (la:Addr)(L:List Int),σ'=[some (.ref lk),some (.ref la),none,none,none,none,none]∧af H H'∧H la=none∧H' la=some (.lst (L.map V.int))∧L.length=5∧∀ d∈L,(1:Int)≤d∧d≤400) (fun R hR=>?_) ?_
 . walk_at"";refine⟨_,SqL.of h1,_,rfl,_,SqL.of h1,_,rfl,_,rfl,_,SqL.of h1,_,rfl,_,rfl,by omega,fun p hp=>hR _ _ ⟨p,[1,400,h.day,if h.day - 1 > 1 then h.day - 1 else 1,if h.day+1 < 400 then h.day+1 else 400],rfl,cI (af.refl _) hp,hp,ac,rfl,fun d hd=>?_⟩⟩;simp only[AV,AM,or_false] at hd
   rcases hd with rfl | rfl | rfl | rfl | rfl
   . decide
   . decide
   . exact hday
   . split<;>omega
   . split<;>omega
 rintro σ1 H1 ⟨la,L1,rfl,S1,hn1,hl1,hL1,hd1⟩;refine ar (fun σ' H'=>∃ (L:List Int)(o2 o3 o4:Option V),σ'=[some (.ref lk),some (.ref la),o2,o3,o4,none,none]∧af H H'∧H' la=some (.lst (L.map V.int))∧L.length≤8∧∀ d∈L,(1:Int)≤d∧d≤400) (fun R hR=>?_) ?_
 . walk_at"";obtain⟨k,hk,hk3⟩:=zD (ps.map V.ref)
   have hk4:ps.length≤k+3:=by rw[be] at hk3;exact hk3
   refine⟨_,SqL.of (S1 _ _ h1),_,rfl,kd,rfl,_,SqL.of (S1 _ _ h4),fun p hp=>?_⟩;rw[hk]
   have hpla:p≠la:=fun e=>by rw[e,hl1] at hp;cases hp
   refine⟨⟨_,SqL.of ac⟩,?_⟩;refine a8 (H0:=fun b=>if b=p then some (.lst ((ps.map V.ref).drop k)) else none) (aE (SqL.of (if_pos rfl))) (fun i σ' H'=>∃ (L:List Int)(o2 o3 o4:Option V),σ'=[some (.ref lk),some (.ref la),o2,o3,o4,none,none]∧af H H'∧H' p=some (.lst ((ps.map V.ref).drop k))∧H' la=some (.lst (L.map V.int))∧L.length≤5+i∧∀ d∈L,(1:Int)≤d∧d≤400) ⟨L1,none,none,none,rfl,S1.trans (af.updN hp),ac,by rw[ai hpla.symm];exact hl1,by omega,hd1⟩ (fun _ _ _ _ ⟨_,_,_,_,_,_,h,_⟩=>fun b o e=>by dsimp only at e;split at e;(rename_i hb;cases e;rw[hb];exact h);cases e) ?_ ?_
   . rintro i x σ' H' hi hx ⟨L,o2,o3,o4,rfl,S,hp',hl,hL,hd⟩ R2 hR2;rw[A3,be] at hi;rw[Cn,zX] at hx;obtain⟨t,ht,rfl⟩:=Option.map_eq_some_iff.mp hx;have hpl:=h5.1;rw[be] at hpl;obtain⟨e,he⟩:∃ e,h.dp[k+i]?=some e:=⟨_,zW (by omega)⟩;have htt:=S _ _ (h5.2 (k+i) t _ ht (by rw[zX,he];rfl));refine pw htt ?_;walk_at"";refine⟨.inl ⟨rfl,_,SqL.of hl⟩,_,hl,by rw[be];omega,?_⟩;rw[show L.map V.int++[V.int e.1]=(L++[e.1]).map V.int by rw[z8];rfl];refine hR2 _ _ ⟨L++[e.1],_,_,_,rfl,cI S hn1,by rw[ai hpla];exact hp',ac,by rw[zY,Aa];omega,fun d hd'=>?_⟩
     rcases List.mem_append.mp hd' with hd' | hd'
     . exact hd d hd'
     . rw[List.mem_singleton.mp hd'];exact hdp e (z6 he)
   . rintro σ' H' ⟨L,o2,o3,o4,rfl,S,hp',hl,hL,hd⟩;exact hR _ _ ⟨L,o2,o3,o4,rfl,S,hl,by rw[A3] at hL;omega,hd⟩
 rintro σ2 H2 ⟨L2,o2,o3,o4,rfl,S2,hl2,hL2,hd2⟩;refine ar (fun σ' H'=>∃ (L:List Int)(o2 o3 o4 o5 o6:Option V),σ'=[some (.ref lk),some (.ref la),o2,o3,o4,o5,o6]∧af H H'∧H' la=some (.lst (L.map V.int))∧L.length≤14∧∀ d∈L,(1:Int)≤d∧d≤400) (fun R hR=>?_) ?_
 . walk_at"";obtain⟨k,hk,hk3⟩:=zD (qs.map V.ref)
   have hk4:qs.length≤k+3:=by rw[be] at hk3;exact hk3
   refine⟨_,SqL.of (S2 _ _ h1),_,rfl,kt,rfl,_,SqL.of (S2 _ _ h6),fun p hp=>?_⟩;rw[hk]
   have hpla:p≠la:=fun e=>by rw[e,hl2] at hp;cases hp
   refine⟨⟨_,SqL.of ac⟩,?_⟩;refine a8 (H0:=fun b=>if b=p then some (.lst ((qs.map V.ref).drop k)) else none) (aE (SqL.of (if_pos rfl))) (fun i σ' H'=>∃ (L:List Int)(o5 o6:Option V),σ'=[some (.ref lk),some (.ref la),o2,o3,o4,o5,o6]∧af H H'∧H' p=some (.lst ((qs.map V.ref).drop k))∧H' la=some (.lst (L.map V.int))∧L.length≤8+2*i∧∀ d∈L,(1:Int)≤d∧d≤400) ⟨L2,none,none,rfl,S2.trans (af.updN hp),ac,by rw[ai hpla.symm];exact hl2,by omega,hd2⟩ (fun _ _ _ _ ⟨_,_,_,_,_,h,_⟩=>fun b o e=>by dsimp only at e;split at e;(rename_i hb;cases e;rw[hb];exact h);cases e) ?_ ?_
   . rintro i x σ' H' hi hx ⟨L,o5,o6,rfl,S,hp',hl,hL,hd⟩ R2 hR2;rw[A3,be] at hi;rw[Cn,zX] at hx;obtain⟨t,ht,rfl⟩:=Option.map_eq_some_iff.mp hx;obtain⟨e,he⟩:∃ e,Tb[k+i]?=some e:=⟨_,zW (by omega)⟩;obtain⟨dd,hdd⟩:∃ dd,ds[k+i]?=some dd:=⟨_,zW (by omega)⟩;have htt:=S _ _ (h9 (k+i) t dd e ht hdd he).1;have hee:=hTb e (z6 he);refine em htt ?_;refine ar (fun σ'' H''=>σ''=[some (.ref lk),some (.ref la),o2,o3,o4,some (.int e.1),some (.ref dd)]∧H''=upd H' la (.lst ((L++[e.1]).map V.int))) (fun R hR=>?_) ?_
     . walk_at"";refine⟨.inl ⟨rfl,_,SqL.of hl⟩,_,hl,by rw[be];omega,?_⟩;rw[show L.map V.int++[V.int e.1]=(L++[e.1]).map V.int by rw[z8];rfl];exact hR _ _ ⟨rfl,rfl⟩
     rintro σ5 H5 ⟨rfl,rfl⟩;walk_at"";refine⟨.inl ⟨rfl,_,SqL.of ac⟩,_,ac,by rw[be,zY,Aa];omega,?_⟩;rw[show(L++[e.1]).map V.int++[V.int (if e.1 - 1 > 1 then e.1 - 1 else 1)]=(L++[e.1,if e.1 - 1 > 1 then e.1 - 1 else 1]).map V.int by rw[z8,z8];simp];refine hR2 _ _ ⟨L++[e.1,_],_,_,rfl,cI (cI S hn1) hn1,by rw[ai hpla,ai hpla];exact hp',ac,by rw[zY];show L.length+2≤_;omega,fun d hd'=>?_⟩
     rcases List.mem_append.mp hd' with hd' | hd'
     . exact hd d hd'
     . simp only[AV,AM,or_false] at hd'
       rcases hd' with rfl | rfl
       . exact hee
       . split<;>omega
   . rintro σ' H' ⟨L,o5,o6,rfl,S,hp',hl,hL,hd⟩;exact hR _ _ ⟨L,o2,o3,o4,o5,o6,rfl,S,hl,by rw[A3] at hL;omega,hd⟩
 rintro σ3 H3 ⟨L3,o2,o3,o4,o5,o6,rfl,S3,hl3,hL3,hd3⟩;walk_at"";refine⟨L3,SqL.of hl3,by omega,fun p hp=>⟨_,ac,pY _,Ck (nJ _) (by omega),fun p2 L4 hp2 hpm _=>?_⟩⟩;refine q p2 L4 _ ((S3.trans (af.updN hp)).trans (af.updN hp2)) ?_ ac ?_ fun d hd=>hd3 d ((vj _ _).mp (hpm.mem_iff.mp hd))
 . cases hz:H p2 with
   | none=>rfl
   | some o =>
     have h3:=S3 _ _ hz;rw[ai (aG h3 hp)] at hp2;rw[h3] at hp2;cases hp2
 . rw[hpm.length_eq];exact AO (nJ _) hL3
def xv:Sp:=fun vs H Q _=>∃ (la:Addr)(L:List Int) (now:Int),vs=[.ref la,.int now]∧H la=some (.lst (L.map V.int))∧18≤L.length∧∀ (d:Int) H',af H H'→Q (.int d) H'
theorem vU:ax ["_law_drawn", "_law_now", "_law_pick"] ["_law_drawn", "_law_now"] (ao uS):=sM
theorem yj {f:Addr}{fd:FuncData}(F:Fun K "_law_day" "_law_day" uS f fd)
   (T:Txt mg)  :
   aU P w K mg base CX0 1 f fd ["_law_drawn", "_law_now"] xv:=by
 refine oq F vU fun cdv A outer s H vs Q E hr h=>?_;obtain⟨la,L,now,rfl,hla,hL,q⟩:=h
 refine⟨_,(aj (pS 2 vU.nd (aA a9 (pI ak (pv 0) ag) ag))
   (aj (aC (aq cW (pv 2) ag (aw _)) (ah (ap (pv 1))) am)
   (aj (aC (aq cW (pv 2) ag (aw _)) (ah (ap (aA bU (aA bU (pv 1) ag) (aA a9 (pI ak (pv 0) ag) ag)))) am)
   (aj (aC (aq bK (pv 2) ag (aw _)) (ah (ap (aA jL (pv 1) ag))) am)
   (aj (aC (aq bK (pv 2) ag (aw _)) (ah (ap (aA bU ag (aA a9 (aA bU (pI ak (pv 0) ag) (aA fY ag (pI ak (pv 0) ag))) ag)))) am)
   (ah (ap (pI ak (ba (aa ag (aa ag (aa ag (aa ag (aa (d9 cK ag) (aa (aA kI ag ag) ae))))))) (aA a9 (pI ak (pv 0) ag) ag))))))))),?_⟩
 try dsimp only[aF,aO]
 have hs:=aL
 have at_:∀ j:Nat,j < 18→∃ y,atI (L.map V.int) (j:Int)=some (.int y):=fun j hj=>by
   obtain⟨y,_,h⟩:=fQ L (x:=(j:Int)) (by omega) (by omega);exact⟨y,h⟩
 obtain⟨y3,e3⟩:=at_ 3 (by decide);obtain⟨y4,e4⟩:=at_ 4 (by decide);obtain⟨y5,e5⟩:=at_ 5 (by decide);have hL':∀ {G},af H G→SqL K G la (L.map V.int):=fun S=>SqL.of (S _ _ hla);refine ar (fun σ' H'=>∃ pk:Int,σ'=[some (.ref la),some (.int now),some (.int pk)]∧H'=H) (fun R hR=>?_) ?_
 . walk_at"";exact⟨_,SqL.of hla,_,e3,_,rfl,by decide,hR _ _ ⟨_,rfl,rfl⟩⟩
 rintro σ1 H1 ⟨pk,rfl,rfl⟩;refine ar (fun σ' H'=>σ'=[some (.ref la),some (.int now),some (.int pk)]∧H'=H1) (fun R hR=>?_) ?_
 . walk_at"";exact aB (fun _=>q _ _ (af.refl _)) (fun _=>hR _ _ ⟨rfl,rfl⟩)
 rintro σ2 H2 ⟨rfl,rfl⟩;refine ar (fun σ' H'=>σ'=[some (.ref la),some (.int now),some (.int pk)]∧H'=H2) (fun R hR=>?_) ?_
 . walk_at"";exact aB (fun _=>⟨_,SqL.of hla,_,e4,_,rfl,by decide,q _ _ (af.refl _)⟩) (fun _=>hR _ _ ⟨rfl,rfl⟩)
 rintro σ3 H3 ⟨rfl,rfl⟩;refine ar (fun σ' H'=>σ'=[some (.ref la),some (.int now),some (.int pk)]∧H'=H3) (fun R hR=>?_) ?_
 . walk_at"";exact⟨rfl,aB (fun _=>q _ _ (af.refl _)) (fun _=>hR _ _ ⟨rfl,rfl⟩)⟩
 rintro σ4 H4 ⟨rfl,rfl⟩;refine ar (fun σ' H'=>σ'=[some (.ref la),some (.int now),some (.int pk)]∧H'=H4) (fun R hR=>?_) ?_
 . walk_at"";exact⟨rfl,aB (fun _=>⟨_,SqL.of hla,_,e4,_,SqL.of hla,_,e5,_,rfl,.inl ⟨by decide,by decide⟩,_,rfl,by decide,q _ _ (af.refl _)⟩) (fun _=>hR _ _ ⟨rfl,rfl⟩)⟩
 rintro σ5 H5 ⟨rfl,rfl⟩;walk_at"";refine⟨⟨by decide,by decide,by decide⟩,by omega,fun p hp=>⟨_,hL' (af.updN hp),_,e4,_,rfl,by decide,?_⟩⟩;have h6:0≤y4 % 6∧y4 % 6 < 6:=⟨AW _ (by decide),AU _ (by decide)⟩;obtain⟨y,_,hy⟩:=fQ [0,401,400,1,-1,10 ^ Bl 30] (x:=y4 % 6) h6.1 h6.2;exact⟨_,SqL.of ac,_,hy,q _ _ (af.updN hp)⟩
theorem iL (L:List Str){x:Int}(h0:0≤x)(h1:x < L.length):∃ y∈L,atI (L.map V.str) x=some (.str y):=by
 obtain⟨j,rfl⟩:=Bj h0
 have hj:j < L.length:=by omega
 exact⟨L[j],A4 hj,bS (by rw[zX,zW hj];rfl)⟩
theorem yr {n:Nat}{i:Int}(h0:0≤i)(h1:i < n):ixN n i=some i.toNat:=by
 unfold ixN;rw[if_pos h0,if_pos h1]
theorem sZ {L:List Str}(h:1≤L.length):∃ x∈L,atI (L.map V.str) (-1)=some (V.str x):=by
 have e:ixN (L.map V.str).length (-1)=some (L.length - 1):=by
   unfold ixN;rw[if_neg (by decide),be,if_pos (by omega)]
   congr 1
   omega
 have hj:L.length - 1 < L.length:=by omega
 refine⟨L[L.length - 1],A4 hj,?_⟩;unfold atI;rw[e];show(L.map V.str)[L.length - 1]?=_;rw[zX,zW hj];rfl
theorem yC {xs:List Int}{k n:Nat}(h:k+n≤xs.length):gA (xs.map V.int) (some (k:Int)) (some ((k:Int)+(n:Int)))=((xs.drop k).take n).map V.int:=by
 unfold gA
 have e:(k:Int)+(n:Int)=((k+n:Nat):Int):=by omega
 rw[e,HT.sIx_nat,HT.sIx_nat,be,show min k xs.length=k by omega,show min (k+n) xs.length=k+n by omega,Nat.add_sub_cancel_left,CO,CP]
theorem vN {ws:List Str}:gA (ws.map V.str) (some 1) none=(ws.drop 1).map V.str:=by
 unfold gA;have e1:HT.sIx (ws.map V.str).length 0 (some (1:Int))=min 1 (ws.map V.str).length:=HT.sIx_nat _ _ 1;have e2:HT.sIx (ws.map V.str).length (ws.map V.str).length none=(ws.map V.str).length:=rfl;rw[e1,e2,←CP,be]
 cases ws with
 | nil=>rfl
 | cons a r =>
   have e3:min 1 (a::r).length=1:=by rw[AK];omega
   rw[e3];exact AQ (by simp)
def rp:Sp:=fun vs H Q _=>∃ (la pl pc pb pz:Addr)(L:List Int)(PC PB PZ:List Str)(lk kc kd kt lo:Addr)(so ns ss:List Str) (h:Hs)(Tb:List (Int×LK)),vs=[.ref la,.ref lk,.ref pl]∧H la=some (.lst (L.map V.int))∧18≤L.length∧KR H lk kc kd kt lo so ns ss h Tb∧1≤so.length∧so.length≤12∧(∀ z∈so,Shw z)∧H pl=some (.lst [.ref pc,.ref pb,.ref pz])∧H pc=some (.lst (PC.map V.str))∧H pb=some (.lst (PB.map V.str))∧H pz=some (.lst (PZ.map V.str))∧(1≤PC.length∧PC.length≤100)∧(1≤PB.length∧PB.length≤100)∧(1≤PZ.length∧PZ.length≤100)∧(∀ c∈PC,Shw c)∧(∀ c∈PB,Shw c)∧(∀ c∈PZ,Shw c)∧∀ t (dd:Dd) H',af H H'→H t=none→H' t=some (.tup dd.tup)→dd.fine H'→(∀ b lu os d,dd=.change b lu os d→H lu=none)→(∀ c z,dd=.bring c z→c∈PC)→Q (.ref t) H'
theorem gI:ax ["_law_drawn", "_law_kept", "_law_pools_here", "_law_cloth", "_law_bath", "_law_day_here", "_law_pick", "_law_outs"] ["_law_drawn", "_law_kept", "_law_pools_here"] (ao vZ):=sM
theorem wt {f fDy:Addr}{fd fdDy:FuncData}(F:Fun K "_law_deed" "_law_deed" vZ f fd)
   (T:Txt mg)
   (GDy:Cl P w K mg base CX0 1 "_law_day" ["_law_drawn", "_law_now"] xv fDy fdDy) :
   aU P w K mg base CX0 2 f fd ["_law_drawn", "_law_kept", "_law_pools_here"] rp:=by
 refine oq F gI fun cdv A outer s H vs Q E hr h=>?_;obtain⟨la,pl,pc,pb,pz,L,PC,PB,PZ,lk,kc,kd,kt,lo,so,ns,ss,h,Tb,rfl,hla,hL,KR0,hso1,hso12,hsoS,hpl,hpc,hpb,hpz,lPC,lPB,lPZ,sPC,sPB,sPZ,q⟩:=h;have hr1:=hr.mono (j:=1) (by omega)
 refine⟨_,(aj (pS 3 gI.nd (pI ak (pI ak (pv 2) ag) (aA a9 (pI ak (pv 0) ag) (al au (by rfl) T.len Ac (aa (pI ak (pv 2) ag) ae)))))
   (aj (pS 4 gI.nd (pI ak (pI ak (pv 2) ag) (aA a9 (pI ak (pv 0) ag) (al au (by rfl) T.len Ac (aa (pI ak (pv 2) ag) ae)))))
   (aj (pS 5 gI.nd (pC GDy hr1 az (aa (pv 0) (aa (pI ak (pv 1) ag) ae))))
   (aj (pS 6 gI.nd (aA a9 (pI ak (pv 0) ag) ag))
   (aj (aC (aq cW (pv 6) ag (aw _)) (ah (ap (bj (aa ay (aa (pv 3) (aa (pv 4) (aa (pv 5) ae))))))) am)
   (aj (aC (aq cW (pv 6) ag (aw _)) (ah (ap (bj (aa ay (aa (pv 5) ae))))) am)
   (aj (aC (aq cW (pv 6) ag (aw _)) (aN (jm (i:=7) (N':=["_law_one", "_law_kept"]) (pk:=[none,some 1]) gI.nd rfl (Or.inl rfl) rfl (bW.of (by rfl)) (aY (er gk (pv 0) (eG ag) (eG (aA bU ag (al au (by rfl) T.len Ac (aa (pI ak (pv 1) ag) ae)))))) (fun s H ex=>(pN 0 (by show(["_law_one", "_law_kept"]:List Str).Nodup;decide))) (fun s H ex=>(pI (ak:IxR _ (gQ K)) (pI (ak:IxR _ (gQ K)) (pv 1) ag) (aA a9 (pv 0) (al (au:cw _ (.builtin "len") (fun xs H Q=>∃ p ys,xs=[.ref p]∧(SqL K H p ys∨SqT K H p ys)∧Q (.int (ys.length:Nat)) H)) (by rfl) T.len Ac (aa (pI (ak:IxR _ (gQ K)) (pv 1) ag) ae))))))
   (aN (aC (aq bK (aA a9 (pI ak (pv 0) ag) ag) ag (aw _)) (ah (pS 7 gI.nd (er gk (pv 7) (eG ag) gj))) am)
   (aN (aC (aq bK (aA a9 (pI ak (pv 0) ag) ag) ag (aw _)) (ah (mJ (pI ak (pI ak (pv 2) ag) (d9 cK ag)) (pj (pv 7) (aA a9 (pI ak (pv 0) ag) (al au (by rfl) T.len Ac (aa (pv 7) ae))) ku))) am)
   (ah (ap (bj (aa ay (aa (pv 4) (aa (pv 7) (aa (pv 5) ae)))))))))) am)
   (aj (aC (aq bK (pv 6) ag (aw _)) (ah (ap (bj (aa ay (aa (pv 3) (aa (pI ak (pI ak (pv 2) ag) (aA a9 (pI ak (pv 0) ag) (al au (by rfl) T.len Ac (aa (pI ak (pv 2) ag) ae)))) ae)))))) am)
   (aj (aC (aq bK (pv 6) ag (aw _)) (ah (ap (bj (aa (pI ak (ba (aa ay (aa ay ae))) (aA a9 (pI ak (pv 0) ag) ag)) (aa (pv 5) ae))))) am)
   (ah (ap (bj (aa (pI ak (ba (aa ay (aa ay ae))) (aA jL (pv 6) ag)) (aa (pv 3) (aa (pv 5) ae))))))))))))))),?_⟩
 try dsimp only[aF,aO]
 have hs:=aL
 have at_:∀ j:Nat,j < 18→∃ y,atI (L.map V.int) (j:Int)=some (.int y):=fun j hj=>by
   obtain⟨y,_,h⟩:=fQ L (x:=(j:Int)) (by omega) (by omega);exact⟨y,h⟩
 obtain⟨y0,e0⟩:=at_ 0 (by decide);obtain⟨y1,e1⟩:=at_ 1 (by decide);obtain⟨y2,e2⟩:=at_ 2 (by decide);obtain⟨y4,e4⟩:=at_ 4 (by decide);obtain⟨y5,e5⟩:=at_ 5 (by decide)
 have pk:∀ (l:List Str) (i:Int),1≤l.length→∃ y∈l,atI (l.map V.str) (i % ((l.map V.str).length:Int))=some (.str y):=fun l i hl=>by
   rw[be];exact iL l (AW _ (by omega)) (AU _ (by omega))
 have l0:∀ l:List Str,1≤l.length→(0:Int) < ((l.map V.str).length:Int):=fun l hl=>by rw[be];omega
 refine ar (fun σ' H'=>∃ c∈PC,σ'=[some (.ref la),some (.ref lk),some (.ref pl),some (.str c),none,none,none,none]∧H'=H) (fun R hR=>?_) ?_
 . walk_at"";obtain⟨c,hc,ec⟩:=pk PC y1 lPC.1;exact⟨_,SqL.of hpl,_,rfl,_,SqL.of hla,_,e1,_,SqL.of hpl,_,rfl,_,rfl,_,.inl (SqL.of hpc),_,rfl,l0 _ lPC.1,_,rfl,_,SqL.of hpc,_,ec,hR _ _ ⟨c,hc,rfl,rfl⟩⟩
 rintro σ1 H1 ⟨c,hc,rfl,rfl⟩;refine ar (fun σ' H'=>∃ b∈PB,σ'=[some (.ref la),some (.ref lk),some (.ref pl),some (.str c),some (.str b),none,none,none]∧H'=H1) (fun R hR=>?_) ?_
 . walk_at"";obtain⟨b,hb,eb⟩:=pk PB y2 lPB.1;exact⟨_,SqL.of hpl,_,rfl,_,SqL.of hla,_,e2,_,SqL.of hpl,_,rfl,_,rfl,_,.inl (SqL.of hpb),_,rfl,l0 _ lPB.1,_,rfl,_,SqL.of hpb,_,eb,hR _ _ ⟨b,hb,rfl,rfl⟩⟩
 rintro σ2 H2 ⟨b,hb,rfl,rfl⟩;refine ar (fun σ' H'=>∃ d:Int,σ'=[some (.ref la),some (.ref lk),some (.ref pl),some (.str c),some (.str b),some (.int d),none,none]∧af H2 H') (fun R hR=>?_) ?_
 . walk_at"";exact⟨_,SqL.of KR0.hlk,_,rfl,la,L,_,rfl,hla,hL,fun d H' S=>hR _ _ ⟨d,rfl,S⟩⟩
 rintro σ3 H3 ⟨d,rfl,S3⟩;refine ar (fun σ' H'=>∃ k:Int,σ'=[some (.ref la),some (.ref lk),some (.ref pl),some (.str c),some (.str b),some (.int d),some (.int k),none]∧(0≤k∧k < 16)∧H'=H3) (fun R hR=>?_) ?_
 . walk_at"";exact⟨_,SqL.of (S3 _ _ hla),_,e0,_,rfl,by decide,hR _ _ ⟨_,rfl,⟨AW _ (by decide),AU _ (by decide)⟩,rfl⟩⟩
 rintro σ4 H4 ⟨k,rfl,hk,rfl⟩
 have nn:∀ {x:Addr}{G:Hp},af H2 G→G x=none→H2 x=none:=fun {x G} S e=>by
   cases hz:H2 x with
   | none=>rfl
   | some o=>rw[S _ _ hz] at e;cases e
 refine ar (fun σ' H'=>σ'=[some (.ref la),some (.ref lk),some (.ref pl),some (.str c),some (.str b),some (.int d),some (.int k),none]∧H'=H4) (fun R hR=>?_) ?_
 . walk_at"";exact aB (fun _=>⟨by omega,fun p hp=>q p (.dip c b d) _ (S3.trans (af.updN hp)) (nn S3 hp) ac ⟨sPC c hc,sPB b hb⟩ (fun _ _ _ _ e=>by cases e) (fun _ _ e=>by cases e)⟩) (fun _=>hR _ _ ⟨rfl,rfl⟩)
 rintro σ5 H5 ⟨rfl,rfl⟩;refine ar (fun σ' H'=>σ'=[some (.ref la),some (.ref lk),some (.ref pl),some (.str c),some (.str b),some (.int d),some (.int k),none]∧H'=H5) (fun R hR=>?_) ?_
 . walk_at"";exact aB (fun _=>⟨by omega,fun p hp=>q p (.back d) _ (S3.trans (af.updN hp)) (nn S3 hp) ac trivial (fun _ _ _ _ e=>by cases e) (fun _ _ e=>by cases e)⟩) (fun _=>hR _ _ ⟨rfl,rfl⟩)
 rintro σ6 H6 ⟨rfl,rfl⟩;refine ar (fun σ' H'=>σ'=[some (.ref la),some (.ref lk),some (.ref pl),some (.str c),some (.str b),some (.int d),some (.int k),none]∧H'=H6∧12≤k) (fun R hR=>?_) ?_
 . walk_at"";refine aB (fun hk12=>?_) (fun h=>hR _ _ ⟨rfl,rfl,by omega⟩);have hlo3:SqL K H6 lo (so.map V.str):=SqL.of (S3 _ _ KR0.hlo);refine⟨_,SqL.of (S3 _ _ KR0.hlk),_,rfl,lo,rfl,_,.inl hlo3,_,SqL.of (S3 _ _ hla),fun p1 hp1=>?_⟩;rw[be];have ec':gA (L.map V.int) (some 6) (some (6+((so.length:Nat):Int)))=((L.drop 6).take so.length).map V.int:=yC (xs:=L) (k:=6) (n:=so.length) (by omega);rw[ec'];generalize hLC:(L.drop 6).take so.length=LC
   have hLCl:LC.length=so.length:=by rw[←hLC,Ao,A3];omega
   refine⟨⟨_,SqL.of ac⟩,fun D hD=>?_⟩;have S6:af H6 (upd H6 p1 (.lst (LC.map V.int))):=af.updN hp1;have hLCa:upd H6 p1 (.lst (LC.map V.int)) p1=some (.lst (LC.map V.int)):=ac;generalize upd H6 p1 (.lst (LC.map V.int))=G at *;have hlk6:=S6 _ _ (S3 _ _ KR0.hlk);have hlo6:=S6.seq hlo3;refine cG (aE (SqL.of hLCa)) (by rw[be,hLCl];omega) hD (fun σ=>∃ o,σ=[o,some (.ref lk)]) (fun k=>V.str (gp so (LC.getD k 0 % ((so.length:Nat):Int)))) ⟨none,rfl⟩ ?_ ?_
   . rintro k x σ' H3' hk hx ⟨o,rfl⟩ hS3 R hR;rw[zX] at hx;obtain⟨y,hy,rfl⟩:=Option.map_eq_some_iff.mp hx;have hm0:=AW y (show((so.length:Nat):Int)≠0 by omega);have hm1:=AU y (show(0:Int) < (so.length:Nat) by omega);walk_at"";refine⟨_,SqL.of (hS3 _ _ hlk6),_,rfl,_,SqL.of (hS3 _ _ hlk6),_,rfl,lo,rfl,_,.inl (hS3.seq hlo6),?_⟩;rw[be];refine⟨by omega,lo,rfl,_,hS3.seq hlo6,_,oV hm0 (by omega),?_⟩
     have e:LC.getD k 0=y:=by rw[zZ,hy];rfl
     have:=hR [some (V.int y),some (V.ref lk)] ⟨_,rfl⟩;rw[e] at this;exact this
   have eos:(Ab (LC.map V.int).length).map (fun k=>V.str (gp so (LC.getD k 0 % ((so.length:Nat):Int))))=(LC.map (fun y=>gp so (y % ((so.length:Nat):Int)))).map V.str:=by
     rw[AH];refine cA _ LC _ _ (by rw[be]) fun k x hx=>?_;rw[zZ,hx];rfl
   rw[eos]
   have gos:(LC.map (fun y=>gp so (y % ((so.length:Nat):Int)))).length=so.length∧∀ x∈LC.map (fun y=>gp so (y % ((so.length:Nat):Int))),x∈so:=by
     refine⟨by rw[be,hLCl],fun x hx=>?_⟩;obtain⟨y,hy,rfl⟩:=List.mem_map.mp hx;have hm0:=AW y (show((so.length:Nat):Int)≠0 by omega);have hm1:=AU y (show(0:Int) < (so.length:Nat) by omega);have:=nI hm0 hm1 (z7 so.length)
     rwa [AR] at this
   generalize LC.map (fun y=>gp so (y % ((so.length:Nat):Int)))=os at *;have hDn:H2 D=none:=nn (S3.trans S6) hD;have S7:af H2 (upd G D (.lst (os.map V.str))):=(S3.trans S6).trans (af.updN hD);have hos7:upd G D (.lst (os.map V.str)) D=some (.lst (os.map V.str)):=ac;generalize upd G D (.lst (os.map V.str))=H8 at *;have fin:∀ (lu:Addr)(os:List Str)(G:Hp),af H2 G→H2 lu=none→G lu=some (.lst (os.map V.str))→os.length≤100→(∀ v∈os,Shw v)→∀ p,G p=none→Q (.ref p) (upd G p (.tup [.str (zV "change"),.str b,.ref lu,.int d])):=fun lu os G S hn hl hle hsh p hp=>q p (.change b lu os d) _ (S.trans (af.updN hp)) (nn S hp) ac ⟨sPB b hb,(af.updN hp) _ _ hl,hle,hsh⟩ (fun _ _ _ _ e=>by cases e;exact hn) (fun _ _ e=>by cases e);have hoS:∀ v∈os,Shw v:=fun v hv=>hsoS v (gos.2 v hv);refine⟨_,SqL.of (S7 _ _ hla),_,e5,_,rfl,by decide,rfl,aB (fun h9=>?_) (fun h9=>?_)⟩
   . refine⟨_,SqL.of hos7,fun p2 hp2=>?_⟩;rw[vN];have S8:af H2 (upd H8 p2 (.lst ((os.drop 1).map V.str))):=S7.trans (af.updN hp2);refine⟨_,SqL.of (S8 _ _ hla),_,e5,_,rfl,by decide,rfl,aB (fun h=>by rw[h9] at h;exact absurd h (by decide)) (fun _=>⟨by omega,?_⟩)⟩;exact fin p2 (os.drop 1) _ S8 (nn S7 hp2) ac (by rw[A3];omega) fun v hv=>hoS v (List.mem_of_mem_drop hv)
   . obtain⟨z,hz,ez⟩:=sZ lPZ.1
     have hl0:(0:Int) < ((os.map V.str).length:Int):=by rw[be,gos.1];omega
     refine⟨_,SqL.of (S7 _ _ hla),_,e5,_,rfl,by decide,rfl,aB (fun _=>?_) (fun _=>⟨by omega,?_⟩)⟩
     . refine⟨_,SqL.of (S7 _ _ hpl),_,rfl,pz,rfl,_,SqL.of (S7 _ _ hpz),_,ez,_,SqL.of (S7 _ _ hla),_,e4,_,.inl (SqL.of hos7),_,rfl,hl0,_,hos7,_,yr (AW _ (by omega)) (AU _ hl0),by omega,?_⟩;rw[←List.map_set]
       exact fin D (os.set _ z) _ (cI S7 hDn) hDn ac (by rw[CG];omega) fun v hv=>by
         rcases List.mem_or_eq_of_mem_set hv with hv | rfl
         . exact hoS v hv
         . exact sPZ _ hz
     . exact fin D os _ S7 hDn hos7 (by omega) hoS
 rintro σ7 H7 ⟨rfl,rfl,hk12⟩;refine ar (fun σ' H'=>σ'=[some (.ref la),some (.ref lk),some (.ref pl),some (.str c),some (.str b),some (.int d),some (.int k),none]∧H'=H7∧13≤k) (fun R hR=>?_) ?_
 . walk_at"";obtain⟨z,hz,ez⟩:=pk PZ y2 lPZ.1;exact⟨rfl,aB (fun _=>⟨_,SqL.of (S3 _ _ hpl),_,rfl,_,SqL.of (S3 _ _ hla),_,e2,_,SqL.of (S3 _ _ hpl),_,rfl,_,rfl,_,.inl (SqL.of (S3 _ _ hpz)),_,rfl,l0 _ lPZ.1,_,rfl,_,SqL.of (S3 _ _ hpz),_,ez,by omega,fun p hp=>q p (.bring c z) _ (S3.trans (af.updN hp)) (nn S3 hp) ac ⟨sPC c hc,sPZ z hz⟩ (fun _ _ _ _ e=>by cases e) (fun _ _ e=>by cases e;exact hc)⟩) (fun h=>hR _ _ ⟨rfl,rfl,by omega⟩)⟩
 rintro σ8 H8 ⟨rfl,rfl,hk13⟩;refine ar (fun σ' H'=>σ'=[some (.ref la),some (.ref lk),some (.ref pl),some (.str c),some (.str b),some (.int d),some (.int k),none]∧H'=H8∧14≤k) (fun R hR=>?_) ?_
 . walk_at"";refine⟨rfl,aB (fun _=>?_) (fun h=>hR _ _ ⟨rfl,rfl,by omega⟩)⟩;refine⟨by omega,fun p hp=>?_⟩;have S4:=S3.trans (af.updN (o:=.lst [V.str (zV "dips"),V.str (zV "book")]) hp);refine⟨_,SqL.of (S4 _ _ hla),_,e5,_,rfl,by decide,_,SqL.of ac,?_⟩;obtain⟨z,hz,ez⟩:=iL [zV "dips",zV "book"] (x:=y5 % 2) (AW _ (by decide)) (AU _ (by decide));refine⟨_,ez,by omega,fun p2 hp2=>?_⟩;simp only[AV,AM,or_false] at hz
   rcases hz with rfl | rfl
   . exact q p2 (.dips d) _ (S4.trans (af.updN hp2)) (nn S4 hp2) ac trivial (fun _ _ _ _ e=>by cases e) (fun _ _ e=>by cases e)
   . exact q p2 (.book d) _ (S4.trans (af.updN hp2)) (nn S4 hp2) ac trivial (fun _ _ _ _ e=>by cases e) (fun _ _ e=>by cases e)
 rintro σ9 H9 ⟨rfl,rfl,hk14⟩;walk_at"";refine⟨by omega,fun p hp=>?_⟩;have S4:=S3.trans (af.updN (o:=.lst [V.str (zV "shade"),V.str (zV "trail")]) hp);obtain⟨z,hz,ez⟩:=iL [zV "shade",zV "trail"] (x:=k - 14) (by omega) (by show k - 14 < 2;omega);refine⟨_,SqL.of ac,_,ez,by omega,fun p2 hp2=>?_⟩;simp only[AV,AM,or_false] at hz
 rcases hz with rfl | rfl
 . exact q p2 (.shade c d) _ (S4.trans (af.updN hp2)) (nn S4 hp2) ac (sPC c hc) (fun _ _ _ _ e=>by cases e) (fun _ _ e=>by cases e)
 . exact q p2 (.trail c d) _ (S4.trans (af.updN hp2)) (nn S4 hp2) ac (sPC c hc) (fun _ _ _ _ e=>by cases e) (fun _ _ e=>by cases e)
theorem Shw.app {y z:Str}(hy:Shw y)(hz:Shw z)(h:y.length+z.length≤1000):Shw (y++z) :=
 ⟨by rw[w6];exact h,fun c hc=>by
   rw[jQ] at hc
   rcases List.mem_append.mp hc with h | h
   . exact hy.2 c h
   . exact hz.2 c h⟩
def rm (K:PySem.W.Frag):Sp:=fun vs H Q _=>∃ (a ls lb:Addr)(ns:List Int)(ss:List Str)(bs:List (Str×List Str)) (spare other:Str),vs=[.ref a,.ref ls,.ref lb,.str spare,.str other]∧SqL K H a (ns.map V.int)∧H ls=some (.lst (ss.map V.str))∧ig H lb bs∧aP ss bs∧(∀ z∈ss,Shw z)∧(∀ b∈bs,Shw b.1)∧Shw spare∧Shw other∧∀ pl pc pb pz (ws PB PZ:List Str) (w:Str) H',af H H'→H pl=none→H pc=none→H pb=none→H pz=none→H' pl=some (.lst [.ref pc,.ref pb,.ref pz])→H' pc=some (.lst ((ws++[w]).map V.str))→H' pb=some (.lst (PB.map V.str))→H' pz=some (.lst (PZ.map V.str))→ws.length=5→ws.Nodup→(∀ x∈ws,Nm x)→Shw w→(1≤PB.length∧PB.length≤100)→(1≤PZ.length∧PZ.length≤100)→(∀ c∈PB,Shw c)→(∀ c∈PZ,Shw c)→Q (.ref pl) H'
theorem jn:ax ["_law_script", "_law_shades", "_law_baths", "_law_spare", "_law_other", "_law_mixed", "_law_cloths", "_law_titles"] ["_law_script", "_law_shades", "_law_baths", "_law_spare", "_law_other"] (ao ph):=sM
theorem vz {f fAt fW:Addr}{fd fdAt fdW:FuncData}(F:Fun K "_law_pools" "_law_pools" ph f fd)
   (T:Txt mg)
   (GAt:Cl P w K mg base CX0 1 "_law_at" ["_law_script", "_law_k"] (t5 K) fAt fdAt)
   (GW:Cl P w K mg base CX0 2 "_law_words" ["_law_cell", "_law_many", "_law_wide", "_law_mixed"] mZ fW fdW) :
   aU P w K mg base CX0 3 f fd ["_law_script", "_law_shades", "_law_baths", "_law_spare", "_law_other"] (rm K):=by
 refine oq F jn fun cdv A outer s H vs Q E hr h=>?_;obtain⟨a,ls,lb,ns,ss,bs,spare,other,rfl,ha,hls,hlb,B,hsS,hbS,hsp,hot,q⟩:=h;have hr1:=hr.mono (j:=1) (by omega);have hr2:=hr.mono (j:=2) (by omega)
 refine⟨_,(aj (pS 5 jn.nd (aA a9 (pC GAt hr1 az (aa (pv 0) (aa ag ae))) ag))
   (aj (pS 6 jn.nd (pC GW hr2 az (aa (pC GAt hr1 az (aa (pv 0) (aa ag ae))) (aa ag (aa (pI ak (ba (aa ag (aa ag ae))) (aA a9 (aA d5 (pC GAt hr1 az (aa (pv 0) (aa ag ae))) ag) ag)) (aa (pv 5) ae))))))
   (aj (jm (i:=7) (N':=["_law_title", "_law_outs"]) (pk:=[none,none]) jn.nd rfl (Or.inl rfl) rfl (bW.of (by rfl)) (aY (pv 2)) (fun s H ex=>((cz (n:=2) rfl (aH (pN 0 (by show(["_law_title", "_law_outs"]:List Str).Nodup;decide)) (aH (pN 1 (by show(["_law_title", "_law_outs"]:List Str).Nodup;decide)) bT))):PG _ _ (kx K 2 (bO (bB 0) (bO (bB 1) iO))))) (fun s H ex=>(pv 0)))
   (ah (ap (ba (aa (aA fb (pv 6) (ba (aa (aA fr (pI ak (pv 6) ag) ay) ae))) (aa (aA fb (aA pA (pv 7) ag) (ba (aa (pv 4) ae))) (aa (aA fb (aA pA (pv 1) ag) (ba (aa (pv 3) ae))) ae))))))))),?_⟩
 try dsimp only[aF,aO]
 have hs:=aL;refine ar (fun σ' H'=>∃ mx:Int,(mx=0∨mx=1)∧σ'=[some (.ref a),some (.ref ls),some (.ref lb),some (.str spare),some (.str other),some (.int mx),none,none]∧H'=H) (fun R hR=>?_) ?_
 . walk_at"";exact dq ha (by decide) ⟨_,rfl,by decide,hR _ _ ⟨_,by omega,rfl,rfl⟩⟩
 rintro σ1 H1 ⟨mx,hmx,rfl,rfl⟩;refine ar (fun σ' H'=>∃ (pc:Addr)(ws:List Str),σ'=[some (.ref a),some (.ref ls),some (.ref lb),some (.str spare),some (.str other),some (.int mx),some (.ref pc),none]∧af H1 H'∧H' pc=some (.lst (ws.map V.str))∧ws.length=5∧ws.Nodup∧∀ x∈ws,Nm x) (fun R hR=>?_) ?_
 . walk_at"";refine dq ha (by decide) ⟨by omega,fun p hp=>?_⟩;have S1:=af.updN (o:=.lst [V.int 26,V.int 2]) hp;refine dq (S1.seq ha) (by decide) ⟨_,rfl,by decide,by decide,by decide,_,SqL.of ac,?_⟩
   have hm:atL ns 3 / 2 % 2=0∨atL ns 3 / 2 % 2=1:=by omega
   have:∃ x:Int,(x=26∨x=2)∧atI [V.int 26,V.int 2] (atL ns 3 / 2 % 2)=some (.int x):=by
     rcases hm with h | h<;>rw[h]
     . exact⟨26,.inl rfl,rfl⟩
     . exact⟨2,.inr rfl,rfl⟩
   obtain⟨x,hx,ex⟩:=this;exact⟨_,ex,_,_,_,_,rfl,by decide,by decide,hx,hmx,fun l ws H' hl S hl' hwl hwn hwm=>hR _ _ ⟨l,ws,rfl,S1.trans S,hl',by omega,hwn,hwm⟩⟩
 rintro σ2 H2 ⟨pc0,ws,rfl,S2,hpc,hw5,hwn,hwm⟩;refine ar (fun σ' H'=>∃ (lt:Addr),σ'=[some (.ref a),some (.ref ls),some (.ref lb),some (.str spare),some (.str other),some (.int mx),some (.ref pc0),some (.ref lt)]∧af H2 H'∧H' lt=some (.lst ((bs.map (·.1)).map V.str))) (fun R hR=>?_) ?_
 . walk_at"";obtain⟨ps,hlb1,hpl,hB⟩:=af.bths S2 hlb;have hb8:=B.b8;refine⟨⟨_,SqL.of hlb1⟩,fun D hD=>?_⟩;refine cG (aE (SqL.of hlb1)) (by rw[be];omega) hD (fun σ=>∃ o1 o2,σ=[o1,o2]) (fun k=>V.str (bs.getD k (⟨#[]⟩,[])).1) ⟨none,none,rfl⟩ ?_ ?_
   . rintro k x σ' H3 hk hx ⟨o1,o2,rfl⟩ hS3 R hR;rw[zX] at hx;obtain⟨y,hy,rfl⟩:=Option.map_eq_some_iff.mp hx;obtain⟨b,hb⟩:∃ b,bs[k]?=some b:=⟨_,zW (by rw[be] at hk;omega)⟩;obtain⟨lo,ht,hlo⟩:=hB k y b hy hb;refine em (hS3 _ _ ht) ?_;walk_at""
     have e:(bs.getD k (⟨#[]⟩,[]))=b:=by rw[zZ,hb];rfl
     have:=hR [some (V.str b.1),some (V.ref lo)] ⟨_,_,rfl⟩;rw[e] at this;exact this
   . have e:(Ab (ps.map V.ref).length).map (fun k=>V.str (bs.getD k (⟨#[]⟩,[])).1)=(bs.map (·.1)).map V.str:=by
       rw[AH];refine cA _ bs _ _ (by rw[be,hpl]) fun k x hx=>?_;rw[zZ,hx];rfl
     rw[e];exact hR _ _ ⟨D,rfl,af.updN hD,ac⟩
 rintro σ3 H3 ⟨lt,rfl,S3,hlt⟩;walk_at"";have hb8:=B.b8;have hs12:=B.s12;have hs1:=B.s1;obtain⟨w0,hw0⟩:∃ w0,ws[0]?=some w0:=⟨_,zW (by omega)⟩;have hm0:=hwm w0 (z6 hw0);have h8:=hm0.hi;have sQ:Shw (zV "Q"):=⟨by decide,by decide⟩
 have lQ:(zV "Q").length=1:=by decide
 refine⟨_,SqL.of (S3 _ _ hpc),_,bZ (i:=0) hw0,_,rfl,by omega,by omega,fun p1 hp1=>?_⟩;refine dZ ((af.updN hp1) _ _ (S3 _ _ hpc)) ac (by rw[be,hw5];show 5+1≤_;omega) fun pc hpc1=>?_
 have npc:H1 pc=none:=by
   cases hz:H1 pc with
   | none=>rfl
   | some o=>rw[((S2.trans S3).trans (af.updN hp1)) _ _ hz] at hpc1;cases hpc1
 have S4:af H3 (upd (upd H3 p1 (.lst [V.str (w0++zV "Q")])) pc (.lst (ws.map V.str++[V.str (w0++zV "Q")]))):=(af.updN hp1).trans (af.updN hpc1)
 have hpc4:upd (upd H3 p1 (.lst [V.str (w0++zV "Q")])) pc (.lst (ws.map V.str++[V.str (w0++zV "Q")])) pc=some (.lst ((ws++[w0++zV "Q"]).map V.str)):=by rw[ac,z8];rfl
 generalize upd (upd H3 p1 (.lst [V.str (w0++zV "Q")])) pc (.lst (ws.map V.str++[V.str (w0++zV "Q")]))=H4 at *
 have rp3:∀ (n:Nat)(l:List Str),(Ae n (l.map V.str)).flatten=((Ae n l).flatten).map V.str:=fun n l=>by rw[List.map_flatten,List.map_replicate]
 refine⟨_,S4 _ _ hlt,by decide,by decide,by rw[be,be];show bs.length*3≤_;omega,fun p2 hp2=>⟨by omega,fun p3 hp3=>?_⟩⟩;rw[show Bl 3=3 from rfl,rp3] at *
 have l3:((Ae 3 (bs.map (·.1))).flatten).length=3*bs.length:=by rw[mG,be]
 refine dZ ((af.updN hp3) _ _ ac) ac (by rw[be,l3];show 3*bs.length+1≤_;omega) fun pb hpb1=>?_
 have npb:H1 pb=none:=by
   cases hz:H1 pb with
   | none=>rfl
   | some o=>rw[((S2.trans (S3.trans S4)).trans ((af.updN hp2).trans (af.updN hp3))) _ _ hz] at hpb1;cases hpb1
 rw[show(List.map V.str (Ae 3 (bs.map (·.1))).flatten++[V.str other])=(((Ae 3 (bs.map (·.1))).flatten++[other]).map V.str) by rw[z8];rfl];have S5:af H4 (upd (upd (upd H4 p2 (.lst ((Ae 3 (bs.map (·.1))).flatten.map V.str))) p3 (.lst [V.str other])) pb (.lst (((Ae 3 (bs.map (·.1))).flatten++[other]).map V.str))):=(af.updN hp2).trans ((af.updN hp3).trans (af.updN hpb1));have hpb5:(upd (upd (upd H4 p2 (.lst ((Ae 3 (bs.map (·.1))).flatten.map V.str))) p3 (.lst [V.str other])) pb (.lst (((Ae 3 (bs.map (·.1))).flatten++[other]).map V.str))) pb=some (.lst (((Ae 3 (bs.map (·.1))).flatten++[other]).map V.str)):=ac;generalize upd (upd (upd H4 p2 (.lst ((Ae 3 (bs.map (·.1))).flatten.map V.str))) p3 (.lst [V.str other])) pb (.lst (((Ae 3 (bs.map (·.1))).flatten++[other]).map V.str))=H5 at *;have S25:=S2.trans (S3.trans (S4.trans S5));refine⟨_,S25 _ _ hls,by decide,by decide,by rw[be];show ss.length*2≤_;omega,fun p4 hp4=>⟨by omega,fun p5 hp5=>?_⟩⟩;rw[show Bl 2=2 from rfl,rp3] at *
 have l2:((Ae 2 ss).flatten).length=2*ss.length:=by rw[mG]
 refine dZ ((af.updN hp5) _ _ ac) ac (by rw[be,l2];show 2*ss.length+1≤_;omega) fun pz hpz1=>?_
 have npz:H1 pz=none:=by
   cases hz:H1 pz with
   | none=>rfl
   | some o=>rw[((S2.trans (S3.trans (S4.trans S5))).trans ((af.updN hp4).trans (af.updN hp5))) _ _ hz] at hpz1;cases hpz1
 rw[show(List.map V.str (Ae 2 ss).flatten++[V.str spare])=(((Ae 2 ss).flatten++[spare]).map V.str) by rw[z8];rfl];have S6:af H5 (upd (upd (upd H5 p4 (.lst ((Ae 2 ss).flatten.map V.str))) p5 (.lst [V.str spare])) pz (.lst (((Ae 2 ss).flatten++[spare]).map V.str))):=(af.updN hp4).trans ((af.updN hp5).trans (af.updN hpz1));have hpz6:(upd (upd (upd H5 p4 (.lst ((Ae 2 ss).flatten.map V.str))) p5 (.lst [V.str spare])) pz (.lst (((Ae 2 ss).flatten++[spare]).map V.str))) pz=some (.lst (((Ae 2 ss).flatten++[spare]).map V.str)):=ac;generalize upd (upd (upd H5 p4 (.lst ((Ae 2 ss).flatten.map V.str))) p5 (.lst [V.str spare])) pz (.lst (((Ae 2 ss).flatten++[spare]).map V.str))=H6 at *;refine⟨by omega,fun pl hpl=>?_⟩;have S26:=S25.trans S6;have S7:af H6 (upd H6 pl (.lst [.ref pc,.ref pb,.ref pz])):=af.updN hpl
 have nn:∀ {G:Hp}{x:Addr},af H1 G→G x=none→H1 x=none:=fun {G x} S e=>by
   cases hz:H1 x with
   | none=>rfl
   | some o=>rw[S _ _ hz] at e;cases e
 refine q pl pc pb pz ws _ _ (w0++zV "Q") _ (S26.trans S7) (nn S26 hpl) npc npb npz ac ((S5.trans (S6.trans S7)) _ _ hpc4) ((S6.trans S7) _ _ hpb5) (S7 _ _ hpz6) hw5 hwn hwm (hm0.shw.app sQ (by omega)) (by rw[zY,l3,Aa];omega) (by rw[zY,l2,Aa];omega) (fun c hc=>?_) (fun c hc=>?_)
 . rcases List.mem_append.mp hc with hc | hc
   . obtain⟨l,hl,hcl⟩:=List.mem_flatten.mp hc;rw[BP hl] at hcl;obtain⟨b,hb,rfl⟩:=List.mem_map.mp hcl;exact hbS b hb
   . rw[List.mem_singleton.mp hc];exact hot
 . rcases List.mem_append.mp hc with hc | hc
   . obtain⟨l,hl,hcl⟩:=List.mem_flatten.mp hc;rw[BP hl] at hcl;exact hsS c hcl
   . rw[List.mem_singleton.mp hc];exact hsp
theorem fc.house {X:Addr→Bool}{H H':Hp}{CH CB:Addr}{A:Ad}{W:Hp}{ss:List Str}{h:Hs}(oc:fc X H)(S:af (hid H A) (hid H' A))(hh:aJ H' CH CB A W ss h):fc X H':=fun b hb e=>by
 cases hH:H b with
 | none=>exact oc b hb hH
 | some o =>
   by_cases hA:b≠A.x∧b≠A.d1∧b≠A.ls∧b≠A.db
   . have:=bp _ _ (S b o (gM hH hA.1 hA.2.1 hA.2.2.1 hA.2.2.2));rw[e] at this;cases this
   . exact hA ⟨(fun z=>by rw[z,hh.ins] at e;cases e),(fun z=>by rw[z,hh.cl] at e;cases e),(fun z=>by obtain⟨ps,h1,_⟩:=hh.dp;rw[z,h1] at e;cases e),(fun z=>by obtain⟨rs,h1,_⟩:=hh.bk;rw[z,h1] at e;cases e)⟩
theorem zt {ws:List Str} (i:Int)(h:0 < ws.length):∃ y∈ws,atI (ws.map V.str) (i % ((ws.length:Nat):Int))=some (V.str y):=by
 have hm0:=AW i (show((ws.length:Nat):Int)≠0 by omega);have hm1:=AU i (show(0:Int) < (ws.length:Nat) by omega);obtain⟨j,hj⟩:=Bj hm0;obtain⟨y,hy⟩:∃ z,ws[j]?=some z:=⟨_,zW (by omega)⟩;exact⟨y,z6 hy,by rw[hj];exact bZ hy⟩
theorem zP {H:Hp}{A:Ad}{x:Addr}{u o:HO}(h:hid H A x=some u):hid (upd H x o) A=upd (hid H A) x o:=lY (gD h).2.1 (gD h).2.2.1 (gD h).2.2.2.1 (gD h).2.2.2.2
def rl (K:PySem.W.Frag)(CH CB:Addr):Sp:=fun vs H Q _=>∃ (A:Ad)(W:Hp)(X:Addr→Bool)(lk kc kd kt lo:Addr)(so ns ss:List Str) (h:Hs)(Tb:List (Int×LK))(a pl pc pb pz:Addr)(ns':List Int)(ws:List Str) (w:Str),vs=[.ref a,.ref A.x,.ref lk,.ref pl]∧SqL K (hid H A) a (ns'.map V.int)∧J38 H CH CB A W X lk kc kd kt lo so ns ss h Tb∧h.cl=[]∧h.dp.length < 999∧Tb.length < 999∧1≤so.length∧hid H A pl=some (.lst [.ref pc,.ref pb,.ref pz])∧hid H A pc=some (.lst ((ws++[w]).map V.str))∧ws.length=5∧ws.Nodup∧(∀ x∈ws,Nm x)∧∀ H' h',J38 H' CH CB A W X lk kc kd kt lo so ns ss h' Tb→(∀ b o,b≠kc→hid H A b=some o→hid H' A b=some o)→h'.dp=h.dp→(∀ c∈h'.cl,c.1∈ws)→h'.cl.length≤5→Q (.bl true) H'
theorem mR:ax ["_law_script", "_law_house", "_law_kept", "_law_pools_here", "_law_k", "_law_shade"] ["_law_script", "_law_house", "_law_kept", "_law_pools_here"] (ao qS):=sM
theorem uM {f fAt fHR:Addr}{fd fdAt fdHR:FuncData}{CH CB cBN cKn cNS cFu:Addr}(F:Fun K "_law_begun" "_law_begun" qS f fd)
   (T:Txt mg)(hX:Hx K mg CH)
   (GAt:Cl P w K mg base CX0 1 "_law_at" ["_law_script", "_law_k"] (t5 K) fAt fdAt)
   (GHR:Cm P w K mg base (CX1 P w) 5 CH "bring" ["self", "cloth", "shade"] (jF CH CB cBN cKn cNS cFu) fHR fdHR) :
   aU P w K mg base CX0 8 f fd ["_law_script", "_law_house", "_law_kept", "_law_pools_here"] (rl K CH CB):=by
 refine oq F mR fun cdv A outer s H vs Q E hr h=>?_;obtain⟨A0,W,X,lk,kc,kd,kt,lo,so,ns,ss,h,Tb,a,pl,pc,pb,pz,ns',ws,w0,rfl,ha,J,hcl0,hdl9,htl99,hso1,hpl,hpc,hw5,hwn,hwm,q⟩:=h;have hu:=eM hr;have cH:=hX.c;have hr1:=hr.mono (j:=1) (by omega);have hr5:=hr.mono (j:=5) (by omega)
 refine⟨_,(aj (bq PassesOwn.never rfl (cb rfl T.range (aa (aA a9 (aA bU (pC GAt hr1 az (aa (pv 0) (aa ag ae))) ag) ag) ae)) (pN 4 mR.nd) (aj (pS 5 mR.nd (pI ak (pI ak (pv 2) ag) (aA a9 (pC GAt hr1 az (aa (pv 0) (aa (aA bU ag (pv 4)) ae))) (al au (by rfl) T.len Ac (aa (pI ak (pv 2) ag) ae)))))
   (aj (aM (pM (pv 1) cH GHR hr5 gq (aa (pI ak (pI ak (pv 3) ag) (pv 4)) (aa (pv 5) ae))))
   (ah (dF hu (pI ak (pv 2) ag) (pI ak (pI ak (pv 3) ag) (pv 4)) (pv 5) rfl)))))
   (ah (ap cv))),?_⟩
 try dsimp only[aF,aO]
 have hs:=aL;have lko:∀ {m:Str}{dd:Int},(m==zV "first_shades")=false→(m==zV "day_now")=false→(m==zV "standing")=false→(m==zV "books_from")=false→Au m (hfs A0 dd)=none:=fun h1 h2 h3 h4=>eu h1 h2 h3 h4
 have h0:{ h with cl:=[] }=h:=by cases h;cases hcl0;rfl
 refine ar (fun σ' H'=>∃ (fi:List (Str×Str))(o4 o5:Option V),σ'=[some (.ref a),some (.ref A0.x),some (.ref lk),some (.ref pl),o4,o5]∧(∀ c∈fi,c.1∈ws)∧fi.length≤5∧J38 H' CH CB A0 W X lk kc kd kt lo so ns ss { h with cl:=fi } Tb∧(∀ b o,b≠kc→hid H A0 b=some o→hid H' A0 b=some o)) (fun R hR=>?_) ?_
 . walk_at"";refine dq (bp.seq ha) (by decide) ⟨_,rfl,by decide,by omega,by omega,?_⟩
   have hn5:((atL ns' 15+2) % 5).toNat≤4:=by omega
   generalize ((atL ns' 15+2) % 5).toNat=n at *;refine a8 (H0:=fun _=>none) bu (fun i σ' H'=>∃ (fi:List (Str×Str))(o4 o5:Option V),σ'=[some (.ref a),some (.ref A0.x),some (.ref lk),some (.ref pl),o4,o5]∧fi.map (·.1)=ws.take i∧J38 H' CH CB A0 W X lk kc kd kt lo so ns ss { h with cl:=fi } Tb∧(∀ b o,b≠kc→hid H A0 b=some o→hid H' A0 b=some o)) ⟨[],none,none,rfl,rfl,by rw[h0];exact J,fun _ _ _ e=>e⟩ (fun _ _ _ _ _ b o e=>by cases e) ?_ ?_
   . rintro i x σ H' hi rfl ⟨fi,o4,o5,rfl,hfi,J1,k1⟩ R2 hR2
     have hz:(0:Int)+(i:Int)=i:=by omega
     rw[hz];obtain⟨c,hc⟩:∃ c,ws[i]?=some c:=⟨_,zW (by omega)⟩
     have hc':(ws++[w0])[i]?=some c:=by rw[Af (by omega)];exact hc
     have hfl:fi.length=i:=by
       have:=congrArg Cr hfi;rw[be,Ao] at this;omega
     have hcm:=hwm c (z6 hc)
     have hcn:c∉fi.map (·.1):=by rw[hfi];exact eS hwn hc
     have nk:∀ {x:Addr}{xs:List V},hid H A0 x=some (.lst xs)→x≠kc:=fun {x xs} e z=>by
       have h1:=bp _ _ e;rw[z,av _ _ J.ki.kcx] at h1;cases h1
     have k2:∀ {x:Addr}{xs:List V},hid H A0 x=some (.lst xs)→H' x=some (.lst xs):=fun e=>bp _ _ (k1 _ _ (nk e) e)
     have sq':SqL K H' a (ns'.map V.int):=by
       rcases ha with (h | ⟨u,h⟩) | h
       . exact .inl (.inl (k2 h))
       . exact .inl (.inr ⟨u,bp _ _ (k1 _ _ (fun z=>by have h1:=bp _ _ h;rw[z,av _ _ J.ki.kcx] at h1;cases h1) h)⟩)
       . exact .inr h
     refine ar (fun σ' H''=>∃ z,z∈so∧σ'=[some (.ref a),some (.ref A0.x),some (.ref lk),some (.ref pl),some (.int i),some (.str z)]∧H''=H') (fun R hR=>?_) ?_
     . walk_at"";obtain⟨z,hz,hza⟩:=zt (ws:=so) (atL ns' (16+(i:Int))) (by omega);refine⟨_,SqL.of (av _ _ J1.ki.r.hlk),_,rfl,dq sq' (by omega) ⟨_,SqL.of (av _ _ J1.ki.r.hlk),_,rfl,lo,rfl,_,.inl (SqL.of (av _ _ J1.ki.r.hlo)),?_⟩⟩;rw[be];exact⟨_,rfl,by omega,lo,rfl,_,SqL.of (av _ _ J1.ki.r.hlo),_,hza,hR _ _ ⟨z,hz,rfl,rfl⟩⟩
     rintro σ2 H2 ⟨z,hz,rfl,rfl⟩;have hzs:=J.ka.pm.mem_iff.mp hz;refine ar (fun σ' H''=>σ'=[some (.ref a),some (.ref A0.x),some (.ref lk),some (.ref pl),some (.int i),some (.str z)]∧af (hid H2 A0) (hid H'' A0)∧aJ H'' CH CB A0 W ss { h with cl:=fi++[(c,z)] }) (fun R hR=>?_) ?_
     . walk_at"";obtain⟨Bd,hNd,hZd⟩:=J.ka.ho.on 1;exact⟨A0.dx,_,J1.hh.ins,lko (by decide) (by decide) (by decide) (by decide),_,SqL.of (k2 hpl),_,rfl,pc,rfl,_,SqL.of (k2 hpc),_,bZ hc',A0,W,ss,ns,{ h with cl:=fi },c,z,rfl,J1.hh,J1.ka.ho,by show fi.length≤1000;omega,hcm.shw,Bd.snw z ((hZd z).mpr hzs),fun h=>absurd (hcm.good.symm.trans h) (by decide),fun _ h=>absurd h hcn,fun _ _ h=>absurd hzs h,fun _ _ _ h=>absurd h (by show ¬(50≤fi.length);omega),fun _ _ _ _ H' S hh=>hR _ _ ⟨rfl,S,hh⟩⟩
     rintro σ3 H3 ⟨rfl,S3,hh3⟩;walk_at"";have K3:=J1.ki.same (rX S3 (d7.refl _ _) (X:=X));have hf:=(aK K3.kcx).2;have hkc3:=av _ _ K3.kcx;obtain⟨n1,n2,n3⟩:=jP hf;have hkc3h:hid H3 A0 kc=some (.dK (clV fi)):=gM hkc3 n1.1 n1.2.1 n1.2.2.1 n1.2.2.2;have k3:∀ {x:Addr}{xs:List V},hid H A0 x=some (.lst xs)→H3 x=some (.lst xs):=fun e=>bp _ _ (S3 _ _ (k1 _ _ (nk e) e));have ho':bH ss ns { h with cl:=fi++[(c,z)] }:=J1.ka.ho.bring hcn hzs hcm.good;have kas:=(J1.ka.step (dd:=.bring c z) (h':={ h with cl:=fi++[(c,z)] }) ⟨hcm.good,hcn,hz⟩ rfl ho' (by show h.dp.length+1 < 1000;omega) (by omega) (by show fi.length < 50;omega)).1;refine⟨_,SqL.of (av _ _ K3.r.hlk),_,rfl,_,SqL.of (k3 hpl),_,rfl,pc,rfl,_,SqL.of (k3 hpc),_,bZ hc',kc,rfl,_,.inl ⟨_,Sum.inr c,hkc3,rfl,by unfold clV;rw[be];show fi.length+1≤sizeLine;omega,rfl⟩,?_⟩;rw[cU _ (bM hcn)];rw[show clV fi++[(Sum.inr c,V.str z)]=clV (fi++[(c,z)]) by unfold clV;rw[z8];rfl];refine hR2 _ _ ⟨fi++[(c,z)],_,_,rfl,by rw[z8,hfi,bw hc];rfl,⟨hh3.upd hkc3h n2,?_,fun b hb e=>?_,kas⟩,fun b o hb e=>?_⟩
     . rw[dk hf];exact K3.cl
     . by_cases hbk:b=kc
       . rw[hbk,ac] at e;cases e
       . rw[ai hbk] at e;exact(J1.oc.house S3 hh3) b hb e
     . rw[zP hkc3h,ai hb];exact S3 _ _ (k1 _ _ hb e)
   . rintro σ H' ⟨fi,o4,o5,rfl,hfi,J1,k1⟩;refine hR _ _ ⟨fi,o4,o5,rfl,fun c hc=>?_,?_,J1,k1⟩
     . have:c.1∈fi.map (·.1):=AA hc;rw[hfi] at this;exact(BG _ _).subset this
     . have:=congrArg Cr hfi;rw[be,Ao] at this;omega
 rintro σ1 H1 ⟨fi,o4,o5,rfl,hf1,hf2,J1,k1⟩;walk_at"";exact q _ _ J1 k1 rfl hf1 hf2
theorem J38.start {H2 Ha Hb G:Hp}{CH CB:Addr}{A:Ad}{W:Hp}{X:Addr→Bool}{ss so:List Str}{bs:List (Str×List Str)}{lk kc kd kt lo t d:Addr}(hh2:aJ H2 CH CB A W ss ⟨[],1,[],[(1,(ss,bs))]⟩)(oc2:fc X H2)(B:aP ss bs)(Sa:af H2 Ha)(Sb:af Ha Hb)(Sc:af Hb G)(hks:∀ k∈[lk,kc,kd,kt],H2 k=none)(hlo2:H2 lo=none)(ht2:H2 t=none)(hkcA:Ha kc=some (.dK []))(hkd:G kd=some (.lst []))(ht:G t=some (.tup [.int 1,.ref d]))(hkt:G kt=some (.lst [.ref t]))(hlo:G lo=some (.lst (so.map V.str)))(hlk:G lk=some (.lst [.ref kc,.ref kd,.ref kt,.int 1,.ref lo]))(hd:Ha d=none)(hT:sf Ha Hb d ss bs)(hpm:so.Perm ss)(hso:AC so=true) :
   J38 G CH CB A W X lk kc kd kt lo so (bs.map (·.1)) ss ⟨[],1,[],[(1,(ss,bs))]⟩ [(1,lkB ss bs)]:=by
 have S:=Sa.trans (Sb.trans Sc);have occ:=hh2.occ oc2;have hs12:=B.s12;have hs1:=B.s1;have hb8:=B.b8;have nf:∀ {b:Addr}{o:HO},H2 b=none→G b=some o→bv (fX A W X) G b=some o:=fun h e=>cc e (occ.new h);have hkcG:G kc=some (.dK []):=(Sb.trans Sc) _ _ hkcA;have hsl:=hpm.length_eq
 have k2:∀ {b:Addr},Ha b=none→H2 b=none:=fun {b} e=>by
   cases hz:H2 b with
   | none=>rfl
   | some o=>rw[Sa _ _ hz] at e;cases e
 have bk:∀ d:Int,1≤d→aR [(1,(ss,bs))] d=(ss,bs):=fun d hd=>by
   simp[aR,hd]
 have n1:so≠[]:=fun e=>by rw[e] at hsl;simp at hsl;omega
 refine⟨af.house S hh2,⟨⟨nf (hks _ (by simp)) hlk,nf hlo2 hlo,.inl (nf (hks _ (by simp)) hkcG),⟨[],nf (hks _ (by simp)) hkd,rfl,fun _ _ _ h=>(by cases h)⟩,[t],[d],nf (hks _ (by simp)) hkt,rfl,rfl,fun i p d' e hp hd' he=>?_⟩,nf (hks _ (by simp)) hkcG,?_⟩,fun b hb e=>?_,⟨⟨⟨_,_,rfl⟩,fun d hd=>⟨lkB ss bs,?_,fun n _ z _=>?_⟩,by show 1≤1000;decide⟩,⟨List.Pairwise.nil,fun i e he=>(by cases he)⟩,bH.new B,fun e he=>(by cases he),fun e he=>(by cases he),fun e he=>?_,B.snd,hpm.nodup_iff.mpr B.snd,hso,B.bnd,hpm,by omega,by rw[be];exact hb8,by show 0 < 1000;decide,by show 0≤60;decide,by show 1 < 1000;decide⟩⟩
 . cases i with
   | zero =>
     cases hp;cases hd';cases he;refine⟨nf ht2 ht,hT.tabG B hd fun b u hb hu=>?_⟩;rw[aW (fun z=>by rw[z,hkcA] at hb;cases hb)];exact nf (k2 hb) (Sc _ _ hu)
   | succ j=>cases hp
 . refine⟨fun e=>?_,fun e=>?_,fun e=>?_,fun e=>?_,fun e=>?_,fun e=>?_⟩
   . rw[e,hkd] at hlk;cases hlk
   . rw[e,hkt] at hlk;cases hlk
   . rw[e,hkt] at hkd;cases hkd
   . rw[e,hlk] at hlo
     cases so with
     | nil=>exact n1 rfl
     | cons a r=>cases hlo
   . rw[e,hkd] at hlo
     cases so with
     | nil=>exact n1 rfl
     | cons a r=>cases hlo
   . rw[e,hkt] at hlo
     cases so with
     | nil=>exact n1 rfl
     | cons a r=>cases hlo
 . cases hz:H2 b with
   | none=>exact oc2 b hb hz
   | some o=>rw[S _ _ hz] at e;cases e
 . unfold fJ;rw[A9 (by simpa using hd)];rfl
 . rw[bk d hd]
 . rw[List.mem_singleton.mp he];exact⟨BK _,BK _⟩
theorem xb {K:PySem.W.Frag}{B0 H:Hp}{a:Addr}{xs:List V}(h:SqL K B0 a xs)(k:∀ b o,B0 b=some o→(∀ u,o≠.dK u)→H b=some o):SqL K H a xs:=by
 rcases h with (h | ⟨u,h⟩) | h
 . exact .inl (.inl (k _ _ h (fun _ e=>by cases e)))
 . exact .inl (.inr ⟨u,k _ _ h (fun _ e=>by cases e)⟩)
 . exact .inr h
theorem qF:∀ (l m:List Str),l.Nodup→(∀ x∈l,x∈m)→l.length≤m.length
 | [],_,_,_=>AN _
 | a::l,m,hn,hm=>by
   rw[BS] at hn;have ha:=hm a Ag;have h1:=qF l (m.erase a) hn.2 (fun x hx=>(B9 (fun e=>hn.1 (by rw[←e];exact hx))).mpr (hm x (Ai _ hx)));rw[BO ha] at h1;have h2:=BZ ha;rw[AK];omega
abbrev bBN:List Bool:=[true,false,false,false,false,false,false,false,false,false,false,false]
abbrev bKn:List Bool:=[false,true,false,false,false,false,false,false,false,false,false,false]
abbrev bNS:List Bool:=[false,false,false,false,true,false,false,false,false,false,false,false]
abbrev bNC:List Bool:=[false,false,true,false,false,false,false,false,false,false,false,false]
abbrev bNB:List Bool:=[false,false,false,true,false,false,false,false,false,false,false,false]
abbrev bBB:List Bool:=[false,false,false,false,false,true,false,false,false,false,false,false]
abbrev bND:List Bool:=[false,false,false,false,false,false,false,false,true,false,false,false]
abbrev bLa:List Bool:=[false,false,false,false,false,false,false,false,false,true,false,false]
abbrev bNo:List Bool:=[false,false,false,false,false,false,false,false,false,false,true,false]
theorem zG:dN (true::bBN)=zV "ValueError "++zV "BadName":=by decide
theorem zA:dN (true::bKn)=zV "ValueError "++zV "Known":=by decide
theorem yY:dN (true::bNS)=zV "ValueError "++zV "NoShade":=by decide
theorem zy:dN (true::bNC)=zV "ValueError "++zV "NoCloth":=by decide
theorem zH:dN (true::bNB)=zV "ValueError "++zV "NoBath":=by decide
theorem zo:dN (true::bBB)=zV "ValueError "++zV "BadBook":=by decide
theorem y9:dN (true::bND)=zV "ValueError "++zV "NoDay":=by decide
theorem yX:dN (true::bLa)=zV "ValueError "++zV "Late":=by decide
theorem zu:dN (true::bNo)=zV "ValueError "++zV "NoDip":=by decide
theorem zQ {K:PySem.W.Frag}{cs:List Addr}{dip cBN cKn cNS cNC cNB cBB cND cLa cNo:Addr}(hBN:Bits K cs dip cBN bBN)(hKn:Bits K cs dip cKn bKn)(hNS:Bits K cs dip cNS bNS)(hNC:Bits K cs dip cNC bNC)(hNB:Bits K cs dip cNB bNB)(hBB:Bits K cs dip cBB bBB)(hND:Bits K cs dip cND bND)(hLa:Bits K cs dip cLa bLa)(hNo:Bits K cs dip cNo bNo):wT K cs dip cBN cKn cNS cNC cNB cBB cND cLa cNo:=⟨fun C w h=>by
 rcases h with ⟨rfl,rfl⟩ | ⟨rfl,rfl⟩ | ⟨rfl,rfl⟩ | ⟨rfl,rfl⟩ | ⟨rfl,rfl⟩ | ⟨rfl,rfl⟩ | ⟨rfl,rfl⟩ | ⟨rfl,rfl⟩ | ⟨rfl,rfl⟩
 . exact⟨_,hBN,zG⟩
 . exact⟨_,hKn,zA⟩
 . exact⟨_,hNS,yY⟩
 . exact⟨_,hNC,zy⟩
 . exact⟨_,hNB,zH⟩
 . exact⟨_,hBB,zo⟩
 . exact⟨_,hND,y9⟩
 . exact⟨_,hLa,yX⟩
 . exact⟨_,hNo,zu⟩⟩
def rC:Sp:=fun vs H Q _=>∃ (p c:Int),vs=[.int p,.int c]∧∀ (d:Int) H',¬(1≤d∧d≤400)→af H H'→Q (.int d) H'
theorem wO:ax ["_law_pick", "_law_cell"] ["_law_pick", "_law_cell"] (ao qZ):=sM
theorem vV {f:Addr}{fd:FuncData}(F:Fun K "_law_no_day" "_law_no_day" qZ f fd)
   (T:Txt mg)  :
   aU P w K mg base CX0 1 f fd ["_law_pick", "_law_cell"] rC:=by
 refine oq F wO fun cdv A outer s H vs Q E hr h=>?_;obtain⟨p,c,rfl,q⟩:=h
 refine⟨_,(aj (aC (aq bK (aA a9 (pv 0) ag) ag (aw _)) (ah (ap (pI ak (ba (aa ag (aa (d9 cK ag) (aa ag (aa (aA kI ag ag) (aa (d9 cK ag) ae)))))) (aA a9 (aA d5 (pv 0) ag) ag)))) am)
   (aj (aC (aq bK (aA a9 (pv 0) ag) ag (aw _)) (ah (ap (aA bU ag (aA a9 (pv 1) ag)))) am)
   (aj (aC (aq bK (aA a9 (pv 0) ag) ag (aw _)) (ah (ap (aA bU ag (aA a9 (pv 1) (aA kI ag ag))))) am)
   (ah (ap (aA jL ag (aA a9 (pv 1) (aA kI ag ag)))))))),?_⟩
 try dsimp only[aF,aO]
 have hs:=aL
 have h40:(0:Int) < 10 ^ Bl 40:=by decide
 have cp:∀ j:Int,0≤j→j≤1000000→yV 10 j:=fun j h1 h2=>⟨h1,h2,by decide⟩;refine ar (fun σ' H'=>σ'=[some (.int p),some (.int c)]∧H'=H) (fun R hR=>?_) ?_
 . walk_at"";refine⟨by decide,rfl,aB (fun _=>⟨cp _ (by decide) (by decide),by omega,fun r hr=>⟨by decide,by decide,by decide,?_⟩⟩) (fun _=>hR _ _ ⟨rfl,rfl⟩)⟩;have h6:0≤p / 4 % 5∧p / 4 % 5 < 5:=⟨AW _ (by decide),AU _ (by decide)⟩;obtain⟨y,hm,hy⟩:=fQ [0,-1,401,10 ^ Bl 30,-400] (x:=p / 4 % 5) h6.1 h6.2;refine⟨_,SqL.of ac,_,hy,q _ _ ?_ (af.updN hr)⟩
   have:∀ z∈([0,-1,401,10 ^ Bl 30,-400]:List Int),¬(1≤z∧z≤400):=by decide
   exact this y hm
 rintro σ1 H1 ⟨rfl,rfl⟩;refine ar (fun σ' H'=>σ'=[some (.int p),some (.int c)]∧H'=H1) (fun R hR=>?_) ?_
 . walk_at"";exact⟨by decide,rfl,aB (fun _=>⟨by decide,q _ _ (by omega) (af.refl _)⟩) (fun _=>hR _ _ ⟨rfl,rfl⟩)⟩
 rintro σ2 H2 ⟨rfl,rfl⟩;refine ar (fun σ' H'=>σ'=[some (.int p),some (.int c)]∧H'=H2) (fun R hR=>?_) ?_
 . walk_at"";refine⟨by decide,rfl,aB (fun _=>⟨cp _ (by decide) (by decide),h40,q _ _ (fun hh=>?_) (af.refl _)⟩) (fun _=>hR _ _ ⟨rfl,rfl⟩)⟩;have:=AW c (Int.ne_of_gt h40);omega
 rintro σ3 H3 ⟨rfl,rfl⟩;walk_at"";refine⟨cp _ (by decide) (by decide),h40,q _ _ (fun hh=>?_) (af.refl _)⟩;have:=AW c (Int.ne_of_gt h40);omega
def Dd.onday (d:Int):Dd→Prop
 | .bring _ _=>False
 | .dip _ _ x=>x=d
 | .back x=>x=d
 | .change _ _ _ x=>x=d
 | .shade _ x=>x=d
 | .trail _ x=>x=d
 | .dips x=>x=d
 | .book x=>x=d
theorem Dd.nogood {ns so:List Str}{h:Hs}{dd:Dd}{d:Int}(o:dd.onday d)(n:¬(1≤d∧d≤400)):¬dd.good ns so h:=fun g=>by
 cases dd<;>simp only[Dd.onday] at o<;>simp only[Dd.good] at g
 . subst o;exact n g.2.2.1
 . subst o;exact n g.1
 . subst o;exact n g.2.2.1
 . subst o;exact n g.2
 . subst o;exact n g.2
 . subst o;exact n g
 . subst o;exact n g
def Dd.nochg:Dd→Prop
 | .change _ _ _ _=>False
 | _=>True
def DLs (H:Hp)(nc:Bool) (bad:Int)(ps:List Addr):Prop:=∀ q∈ps,∃ dd:Dd,H q=some (.tup dd.tup)∧dd.fine H∧dd.onday bad∧(nc=true→dd.nochg)
section
variable {H H':Hp}{nc:Bool}{bad:Int}{ps qs:List Addr}
theorem DLs.same (D:DLs H nc bad ps)(S:af H H'):DLs H' nc bad ps:=fun q hq=>by
 obtain⟨dd,h1,h2,h3,h4⟩:=D q hq;exact⟨dd,S _ _ h1,gd h2 S,h3,h4⟩
theorem DLs.weak (D:DLs H true bad ps):DLs H false bad ps:=fun q hq=>by
 obtain⟨dd,h1,h2,h3,h4⟩:=D q hq;exact⟨dd,h1,h2,h3,fun e=>by cases e⟩
theorem DLs.app (D:DLs H nc bad ps)(E:DLs H nc bad qs):DLs H nc bad (ps++qs):=fun q hq=>by
 rcases List.mem_append.mp hq with h | h
 . exact D q h
 . exact E q h
theorem DLs.cons {q:Addr}{dd:Dd}(h1:H q=some (.tup dd.tup))(h2:dd.fine H)(h3:dd.onday bad)(h4:nc=true→dd.nochg)(E:DLs H nc bad qs):DLs H nc bad (q::qs):=fun x hx=>by
 rcases List.mem_cons.mp hx with h | h
 . rw[h];exact⟨dd,h1,h2,h3,h4⟩
 . exact E x h
theorem DLs.nil:DLs H nc bad []:=fun _ h=>by cases h
theorem DLs.lst {p:Addr}{xs ys:List V}(D:DLs H true bad ps)(hp:H p=some (.lst xs)):DLs (upd H p (.lst ys)) true bad ps:=fun q hq=>by
 obtain⟨dd,h1,h2,h3,h4⟩:=D q hq;refine⟨dd,by rw[ai (fun z=>by rw[z,hp] at h1;cases h1)];exact h1,?_,h3,h4⟩
 cases dd with
 | change b lu os d=>exact(h4 rfl).elim
 | bring c z=>exact h2
 | dip c b d=>exact h2
 | back d=>trivial
 | shade c d=>exact h2
 | trail c d=>exact h2
 | dips d=>trivial
 | book d=>trivial
end
theorem vG (ss:List Str)(lo hi:Option Int):∃ s2:List Str,gA (ss.map V.str) lo hi=s2.map V.str∧s2.length≤ss.length∧∀ z∈s2,z∈ss:=by
 unfold gA;rw[←CP,←CO];exact⟨_,rfl,by rw[Ao,A3];omega,fun z hz=>List.mem_of_mem_drop (Bx hz)⟩
theorem v7 (n:Nat) (x:Str):(Ae n [V.str x]).flatten=(Ae n x).map V.str:=by
 induction n with
 | zero=>rfl
 | succ n ih=>rw[Bc,BH,ih,Bc,An];rfl
def rR (K:PySem.W.Frag):Sp:=fun vs H Q _=>∃ (a:Addr)(ns:List Int),vs=[.ref a]∧SqL K H a (ns.map V.int)∧ns.length≤63∧∀ H',Q (.bl true) H'
theorem dg:ax ["_law_script", "_law_shades", "_law_baths", "_law_spare", "_law_other", "_law_house", "_law_kept", "_law_pools_here", "_law_mixed", "_law_k", "_law_deed_here", "_law_bad", "_law_deeds", "_law_cloth", "_law_outs"] ["_law_script"] (ao yp):=sM
theorem yd {f fAt fPl fTa fHd fD fPo fBg fDw fDu fDo fAl fSe fDz fND fHI:Addr}{fd fdAt fdPl fdTa fdHd fdD fdPo fdBg fdDw fdDu fdDo fdAl fdSe fdDz fdND fdHI:FuncData}{CH CB cBN cKn cNS cFu cNC cNB cBB cND cLa cNo dip:Addr}{cs:List Addr}(F:Fun K "law" "law" yp f fd)
   (T:Txt mg)(hX:Hx K mg CH)(BT:wT K cs dip cBN cKn cNS cNC cNB cBB cND cLa cNo)
   (GAt:Cl P w K mg base CX0 1 "_law_at" ["_law_script", "_law_k"] (t5 K) fAt fdAt)
   (GPl:Cl P w K mg base CX0 4 "_law_plain" ["_law_script", "_law_count"] (sw K) fPl fdPl)
   (GTa:Cl P w K mg base CX0 1 "_law_tables" ["_law_shades", "_law_baths"] (ln K) fTa fdTa)
   (GHd:Cl P w K mg base CX0 6 "_law_handed" ["_law_shades", "_law_baths"] (lr K CB) fHd fdHd)
   (GD:Cl P w K mg base CX0 1 "_law_draws" ["_law_cell", "_law_many", "_law_bound", "_law_mixed"] jq fD fdD)
   (GPo:Cl P w K mg base CX0 3 "_law_pools" ["_law_script", "_law_shades", "_law_baths", "_law_spare", "_law_other"] (rm K) fPo fdPo)
   (GBg:Cl P w K mg base CX0 8 "_law_begun" ["_law_script", "_law_house", "_law_kept", "_law_pools_here"] (rl K CH CB) fBg fdBg)
   (GDw:Cl P w K mg base CX0 2 "_law_deed" ["_law_drawn", "_law_kept", "_law_pools_here"] rp fDw fdDw)
   (GDu:Cl P w K mg base CX0 5 "_law_due" ["_law_kept", "_law_deed_here"] (uJ K) fDu fdDu)
   (GDo:Cl P w K mg base (CX1 P w) 9 "_law_do" ["_law_thing", "_law_deed_here"] (xl (l8 K CH CB cBN cKn cNS cFu cNC cNB cBB cND cLa cNo) K cs dip) fDo fdDo)
   (GAl:Cl P w K mg base CX0 3 "_law_alike" ["_law_found", "_law_due_here"] (fZ (fZ (fZ rV))) fAl fdAl)
   (GSe:Cl P w K mg base CX0 5 "_law_seen" ["_law_house", "_law_kept", "_law_days_here"] (vI K CH CB) fSe fdSe)
   (GDz:Cl P w K mg base CX0 1 "_law_days" ["_law_kept"] v9 fDz fdDz)
   (GND:Cl P w K mg base CX0 1 "_law_no_day" ["_law_pick", "_law_cell"] rC fND fdND)
   (MH:Mk K CH fHI)(GHI:aU P w K mg base CX0 1 fHI fdHI ["self", "book"] (ra CH CB))(bHI:eC K fdHI ["self", "book"] [])(mCH:mg "House"=some (.ref CH)) :
   aU P w K mg base CX0 11 f fd ["_law_script"] (rR K):=by
 refine oq F dg fun cdv A outer s H vs Q E hr h=>?_;obtain⟨a,ns,rfl,ha,hn,q⟩:=h;have hr1:=hr.mono (j:=1) (by omega);have hr2:=hr.mono (j:=2) (by omega);have hr3:=hr.mono (j:=3) (by omega);have hr4:=hr.mono (j:=4) (by omega);have hr5:=hr.mono (j:=5) (by omega);have hr6:=hr.mono (j:=6) (by omega);have hr8:=hr.mono (j:=8) (by omega);have hr9:=hr.mono (j:=9) (by omega)
 refine⟨_,(aj (mJ (pC GPl hr4 az (aa (pv 0) (aa (aA a9 (pC GAt hr1 az (aa (pv 0) (aa ag ae))) ag) ae))) (cz (n:=4) rfl (aH (pN 1 dg.nd) (aH (pN 2 dg.nd) (aH (pN 3 dg.nd) (aH (pN 4 dg.nd) bT))))))
   (aj (pS 5 dg.nd (mr MH GHI hr2 rfl mCH bHI .nil az (aa (pC GHd hr6 az (aa (pv 1) (aa (pv 2) ae))) ae)))
   (aj (pS 6 dg.nd (ba (aa ee (aa (ba ae) (aa (ba (aa (bj (aa ag (aa (pC GTa hr1 az (aa (pv 1) (aa (pv 2) ae))) ae))) ae)) (aa ag (aa (al dR (by rfl) T.sorted (by decide) (aa (pv 1) ae)) ae)))))))
   (aj (pS 7 dg.nd (pC GPo hr3 az (aa (pv 0) (aa (pv 1) (aa (pv 2) (aa (pv 3) (aa (pv 4) ae)))))))
   (aj (aM (pC GBg hr8 az (aa (pv 0) (aa (pv 5) (aa (pv 6) (aa (pv 7) ae))))))
   (aj (pS 8 dg.nd (aA a9 (pC GAt hr1 az (aa (pv 0) (aa ag ae))) ag))
   (aj (bq PassesOwn.never rfl (cb rfl T.range (aa (al (k7 rfl) (by rfl) T.min (by decide) (aa ag (aa (al au (by rfl) T.len Ac (aa (pv 0) ae)) ae))) ae)) (pN 9 dg.nd) (aj (pS 10 dg.nd (pC GDw hr2 az (aa (pC GD hr1 az (aa (aA bU (pI ak (pv 0) (pv 9)) (aA fY (aA fY ag (pv 9)) (pv 8))) (aa ag (aa ag (aa (pv 8) ae))))) (aa (pv 6) (aa (pv 7) ae)))))
   (aj (aM (pC GDu hr5 az (aa (pv 6) (aa (pv 10) ae))))
   (ah (aM (pC GDo hr9 gq (aa (pv 5) (aa (pv 10) ae))))))))
   (aj (pS 11 dg.nd (pC GND hr1 az (aa (pC GAt hr1 az (aa (pv 0) (aa ag ae))) (aa (pC GAt hr1 az (aa (pv 0) (aa ag ae))) ae))))
   (aj (pS 12 dg.nd (ba (aa (bj (aa ay (aa (pv 11) ae))) (aa (bj (aa ay (aa (pv 11) ae))) (aa (bj (aa ay (aa (pv 11) ae))) ae)))))
   (aj (bq PassesOwn.never rfl (aY (pI ak (pv 7) ag)) (pN 13 dg.nd) (aj (pS 12 dg.nd (aA fb (pv 12) (ba (aa (bj (aa ay (aa (pv 13) (aa (pv 11) ae)))) (aa (bj (aa ay (aa (pv 13) (aa (pv 11) ae)))) (aa (bj (aa ay (aa (pv 13) (aa (pI ak (pI ak (pv 7) ag) ag) (aa (pv 11) ae))))) ae))))))
   (ah (aM (eI Aw AE AF bN (pv 12) (aa (bj (aa ay (aa (pv 13) (aa (pv 4) (aa (pv 11) ae))))) ae))))))
   (aj (bq PassesOwn.never rfl (aY (ba (aa (al dR (by rfl) T.sorted (by decide) (aa (pv 1) ae)) (aa (er gk (pv 1) (eG ag) gj) (aa (aA pA (ba (aa (pv 3) ae)) (al au (by rfl) T.len Ac (aa (pv 1) ae))) ae))))) (pN 14 dg.nd) (ah (pS 12 dg.nd (aA fb (pv 12) (ba (aa (bj (aa ay (aa (pI ak (pI ak (pv 7) ag) ag) (aa (pv 14) (aa (pv 11) ae))))) (aa (bj (aa ay (aa (pv 4) (aa (pv 14) (aa (pv 11) ae))))) ae)))))))
   (aj (bq PassesOwn.never rfl (aY (pv 12)) (pN 10 dg.nd) (ah (aC (cf (bL (pC GAl hr3 az (aa (pC GDo hr9 gq (aa (pv 5) (aa (pv 10) ae))) (aa (pC GDu hr5 az (aa (pv 6) (aa (pv 10) ae))) ae))))) (ah (ap cv)) am)))
   (ah (ap (pC GSe hr5 az (aa (pv 5) (aa (pv 6) (aa (pC GDz hr1 az (aa (pv 6) ae)) ae)))))))))))))))))),?_⟩
 try dsimp only[aF,aO]
 have hs:=aL;have lk0:∀ {A0:Ad}{m:Str}{dd:Int},(m==zV "first_shades")=false→(m==zV "day_now")=false→(m==zV "standing")=false→(m==zV "books_from")=false→Au m (hfs A0 dd)=none:=fun h1 h2 h3 h4=>eu h1 h2 h3 h4;refine ar (fun σ' H'=>∃ l lb ss bs spare other,σ'=[some (.ref a),some (.ref l),some (.ref lb),some (.str spare),some (.str other),none,none,none,none,none,none,none,none,none,none]∧af H H'∧H' l=some (.lst (ss.map V.str))∧ig H' lb bs∧aP ss bs∧Nm spare∧Nm other) (fun R hR=>?_) ?_
 . walk_at""
   have h0:(0:Int)≤atL ns 1 % 9:=by omega
   refine dq ha (by decide) ⟨_,rfl,by decide,a,ns,(atL ns 1 % 9).toNat,by rw[Ch h0],ha,by omega,fun p l lb ss bs spare other H' S h1 h2 h3 h4 h5 B hbl n1 _ n2 _=>?_⟩;exact⟨p,_,rfl,SqT.of h1,rfl,_,_,rfl,_,_,rfl,_,_,rfl,_,_,rfl,rfl,hR _ _ ⟨l,lb,ss,bs,_,_,rfl,S,h3,h5,B,n1,n2⟩⟩
 rintro σ1 H1 ⟨l,lb,ss,bs,spare,other,rfl,S1,hl,hb,B,nsp,noth⟩;have hs12:=B.s12;have hs1:=B.s1;have hb8:=B.b8;refine ar (fun σ' H'=>∃ (A0:Ad)(W:Hp),σ'=[some (.ref a),some (.ref l),some (.ref lb),some (.str spare),some (.str other),some (.ref A0.x),none,none,none,none,none,none,none,none,none]∧af H1 (hid H' A0)∧aJ H' CH CB A0 W ss ⟨[],1,[],[(1,(ss,bs))]⟩∧∀ b o,H1 b=some o→W b=none) (fun R hR=>?_) ?_
 . walk_at"";refine⟨l,lb,ss,bs,rfl,SqL.of hl,hb,B,fun r H' hr S hbk=>?_⟩;show ∀ (x dx:Addr),_;intro x dx hx hdx hne
   have S6:af H' (hide (upd (upd H' dx (.own x)) x (.ins CH dx [])) x):=fun y o e=>by
     rw[aW (aG e hx),ai (aG e hx),ai (aG e hdx)];exact e
   exact⟨x,dx,r,cZ H1 H',ss,bs,rfl,ac,lV.trans S6,hbk,fun A0 H2 hA S7 hh=>⟨rfl,by rw[←hA];exact hR _ _ ⟨A0,_,rfl,(S.trans S6).trans S7,hh,fun b o e=>by unfold cZ;rw[e]⟩⟩⟩
 rintro σ2 H2 ⟨A0,W,rfl,S2,hh2,hW2⟩;have ho2:=bH.new B;have occ2:fc (fX A0 W fun _=>false) H2:=hh2.occ (fun b hb=>by cases hb);refine ar (fun σ' H'=>∃ lk kc kd kt lo so,σ'=[some (.ref a),some (.ref l),some (.ref lb),some (.str spare),some (.str other),some (.ref A0.x),some (.ref lk),none,none,none,none,none,none,none,none]∧af H2 H'∧(∀ k∈[lk,kc,kd,kt],H2 k=none)∧J38 H' CH CB A0 W (fun _=>false) lk kc kd kt lo so (bs.map (·.1)) ss ⟨[],1,[],[(1,(ss,bs))]⟩ [(1,lkB ss bs)]) (fun R hR=>?_) ?_
 . walk_at"";intro kc hkc;refine⟨by omega,fun kd hkd=>?_⟩;have Sa:af H2 (upd (upd H2 kc (.dK [])) kd (.lst [])):=(af.updN hkc).trans (af.updN hkd);have hckd:kc≠kd:=aG ac hkd
   have hkc1:upd (upd H2 kc (.dK [])) kd (.lst []) kc=some (.dK []):=by rw[ai hckd];exact ac
   have hkd1:upd (upd H2 kc (.dK [])) kd (.lst []) kd=some (.lst []):=ac;generalize upd (upd H2 kc (.dK [])) kd (.lst [])=Ha at *;refine⟨l,lb,ss,bs,rfl,SqL.of ((S2.trans (bp.trans Sa)) _ _ hl),af.bths (S2.trans (bp.trans Sa)) hb,B,fun d Hb hd Sb hT=>?_⟩;refine⟨by omega,fun t ht=>⟨by omega,fun kt hkt=>?_⟩⟩;refine⟨ss,SqL.of (((Sb.trans (af.updN ht)).trans (af.updN hkt)) _ _ ((S2.trans (bp.trans Sa)) _ _ hl)),by omega,fun lo so hlo hpm hso=>⟨by omega,fun lk hlk=>?_⟩⟩;have Sc:af Hb (upd (upd (upd (upd Hb t (.tup [.int 1,.ref d])) kt (.lst [.ref t])) lo (.lst (so.map V.str))) lk (.lst [.ref kc,.ref kd,.ref kt,.int 1,.ref lo])):=((af.updN ht).trans (af.updN hkt)).trans ((af.updN hlo).trans (af.updN hlk))
   have n2:∀ {G:Hp}{x:Addr},af H2 G→G x=none→H2 x=none:=fun {G x} S e=>by
     cases hz:H2 x with
     | none=>rfl
     | some o=>rw[S _ _ hz] at e;cases e
   have Sab:=Sa.trans Sb;have Lt:af Hb (upd Hb t (.tup [.int 1,.ref d])):=af.updN ht;have Lkt:af (upd Hb t (.tup [.int 1,.ref d])) (upd (upd Hb t (.tup [.int 1,.ref d])) kt (.lst [.ref t])):=af.updN hkt;have Llo:af (upd (upd Hb t (.tup [.int 1,.ref d])) kt (.lst [.ref t])) (upd (upd (upd Hb t (.tup [.int 1,.ref d])) kt (.lst [.ref t])) lo (.lst (so.map V.str))):=af.updN hlo;have Llk:af (upd (upd (upd Hb t (.tup [.int 1,.ref d])) kt (.lst [.ref t])) lo (.lst (so.map V.str))) (upd (upd (upd (upd Hb t (.tup [.int 1,.ref d])) kt (.lst [.ref t])) lo (.lst (so.map V.str))) lk (.lst [.ref kc,.ref kd,.ref kt,.int 1,.ref lo])):=af.updN hlk
   have hks:∀ k∈[lk,kc,kd,kt],H2 k=none:=fun k hk=>by
     simp only[AV,AM,or_false] at hk
     rcases hk with rfl | rfl | rfl | rfl
     . exact n2 (Sab.trans (Lt.trans (Lkt.trans Llo))) hlk
     . exact hkc
     . exact n2 (af.updN hkc) hkd
     . exact n2 (Sab.trans Lt) hkt
   exact hR _ _ ⟨lk,kc,kd,kt,lo,so,rfl,Sab.trans Sc,hks,J38.start hh2 (fun b hb=>by cases hb) B Sa Sb Sc hks (n2 (Sab.trans (Lt.trans Lkt)) hlo) (n2 Sab ht) hkc1 (Sc _ _ (Sb _ _ hkd1)) (Llk _ _ (Llo _ _ (Lkt _ _ ac))) (Llk _ _ (Llo _ _ ac)) (Llk _ _ ac) ac hd hT hpm hso⟩
 rintro σ3 H3 ⟨lk,kc,kd,kt,lo,so,rfl,S3,hks,J3⟩;have up3:=S2.trans (bp.trans S3);refine ar (fun σ' H'=>∃ (pl pc pb pz:Addr)(ws PB PZ:List Str) (w:Str),σ'=[some (.ref a),some (.ref l),some (.ref lb),some (.str spare),some (.str other),some (.ref A0.x),some (.ref lk),some (.ref pl),none,none,none,none,none,none,none]∧af H3 H'∧(∀ p∈[pl,pc,pb,pz],H3 p=none)∧H' pl=some (.lst [.ref pc,.ref pb,.ref pz])∧H' pc=some (.lst ((ws++[w]).map V.str))∧H' pb=some (.lst (PB.map V.str))∧H' pz=some (.lst (PZ.map V.str))∧ws.length=5∧ws.Nodup∧(∀ x∈ws,Nm x)∧Shw w∧(1≤PB.length∧PB.length≤100)∧(1≤PZ.length∧PZ.length≤100)∧(∀ c∈PB,Shw c)∧(∀ c∈PZ,Shw c)) (fun R hR=>?_) ?_
 . walk_at"";refine⟨a,l,lb,ns,ss,bs,spare,other,rfl,(S1.trans up3).seq ha,up3 _ _ hl,af.bths up3 hb,B,B.snw,B.bnw,nsp.shw,noth.shw,fun pl pc pb pz ws PB PZ w H' S n1 n2 n3 n4 e1 e2 e3 e4 g1 g2 g3 g4 g5 g6 g7 g8=>hR _ _ ⟨pl,pc,pb,pz,ws,PB,PZ,w,rfl,S,fun p hp=>?_,e1,e2,e3,e4,g1,g2,g3,g4,g5,g6,g7,g8⟩⟩;simp only[AV,AM,or_false] at hp
   rcases hp with rfl | rfl | rfl | rfl<;>assumption
 rintro σ4 H4 ⟨pl,pc,pb,pz,ws,PB,PZ,w,rfl,S4,hnp,hpl,hpc,hpb,hpz,hw5,hwn,hwm,hww,lPB,lPZ,sPB,sPZ⟩;have J4:=J3.same S4;have hpH:∀ {p:Addr}{xs:List V},p∈[pl,pc,pb,pz]→H4 p=some (.lst xs)→hid H4 A0 p=some (.lst xs):=fun hp e=>wZ J3.hh (hnp _ hp) e;have hplh:=hpH (by simp) hpl;have hpch:=hpH (by simp) hpc;have hpbh:=hpH (by simp) hpb;have hpzh:=hpH (by simp) hpz;have hah:SqL K (hid H4 A0) a (ns.map V.int):=((S1.trans S2).trans (ck (S3.trans S4))).seq ha
 have hso1:1≤so.length:=by rw[J3.ka.pm.length_eq];exact hs1
 have hsoS:∀ z∈so,Shw z:=fun z hz=>B.snw z (J3.ka.pm.mem_iff.mp hz);refine ar (fun σ' H'=>∃ h,σ'=[some (.ref a),some (.ref l),some (.ref lb),some (.str spare),some (.str other),some (.ref A0.x),some (.ref lk),some (.ref pl),none,none,none,none,none,none,none]∧J38 H' CH CB A0 W (fun _=>false) lk kc kd kt lo so (bs.map (·.1)) ss h [(1,lkB ss bs)]∧(∀ b o,b≠kc→hid H4 A0 b=some o→hid H' A0 b=some o)∧h.dp.length=0∧∀ c∈h.cl,c.1∈ws) (fun R hR=>?_) ?_
 . walk_at"";exact⟨A0,W,fun _=>false,lk,kc,kd,kt,lo,so,_,ss,_,_,a,pl,pc,pb,pz,ns,ws,w,rfl,hah,J4,rfl,by show 0 < 999;decide,by show 1 < 999;decide,hso1,hplh,hpch,hw5,hwn,hwm,fun H' h' J k edp ecl lcl=>hR _ _ ⟨h',rfl,J,k,by rw[edp];rfl,ecl⟩⟩
 rintro σ5 H5 ⟨h5,rfl,J5,k5,hdp5,hcl5⟩;have hB0:∃ B0:Hp,B0=bv (fun b=>decide (b∈[lk,kc,kd,kt])) (hid H4 A0):=⟨_,rfl⟩;obtain⟨B0,hB0⟩:=hB0
 have b0:∀ {b:Addr}{o:HO},B0 b=some o→b∉[lk,kc,kd,kt]∧hid H4 A0 b=some o:=fun {b o} e=>by
   rw[hB0] at e;have:=aK e;exact⟨fun hm=>(by have h2:=this.2;rw[decide_eq_true hm] at h2;cases h2),this.1⟩
 have hpk:∀ p∈[pl,pc,pb,pz],p∉[lk,kc,kd,kt]:=fun p hp hk=>by
   have h1:=hnp p hp
   have h3:∃ o,H3 p=some o:=by
     obtain⟨psd,hkd,_⟩:=J3.ki.r.hkd;obtain⟨pst,dst,hkt,_⟩:=J3.ki.r.hkt;simp only[AV,AM,or_false] at hk
     rcases hk with rfl | rfl | rfl | rfl
     . exact⟨_,av _ _ J3.ki.r.hlk⟩
     . exact⟨_,av _ _ J3.ki.kcx⟩
     . exact⟨_,av _ _ hkd⟩
     . exact⟨_,av _ _ hkt⟩
   obtain⟨o,h3⟩:=h3;rw[h1] at h3;cases h3
 have hpB:∀ {p:Addr}{xs:List V},p∈[pl,pc,pb,pz]→hid H4 A0 p=some (.lst xs)→B0 p=some (.lst xs):=fun {p xs} hp e=>by
   rw[hB0];exact cc e (decide_eq_false (hpk p hp))
 have hplB:=hpB (by simp) hplh;have hpcB:=hpB (by simp) hpch;have hpbB:=hpB (by simp) hpbh;have hpzB:=hpB (by simp) hpzh
 have haB:SqL K B0 a (ns.map V.int):=by
   have hk:∀ b o,H1 b=some o→B0 b=some o:=fun b o e=>by
     rw[hB0];refine cc ((ck (S3.trans S4)) _ _ (S2 _ _ e)) (decide_eq_false fun hm=>?_);have h1:=bp _ _ (S2 _ _ e);rw[hks b hm] at h1;cases h1
   rcases S1.seq ha with (h | ⟨u,h⟩) | h
   . exact .inl (.inl (hk _ _ h))
   . exact .inl (.inr ⟨u,hk _ _ h⟩)
   . exact .inr h
 have kb5:∀ b o,B0 b=some o→(∀ u,o≠.dK u)→hid H5 A0 b=some o:=fun b o e _=>k5 b o (fun z=>(b0 e).1 (by rw[z];simp)) (b0 e).2;refine ar (fun σ' H'=>∃ mx:Int,(mx=0∨mx=1)∧σ'=[some (.ref a),some (.ref l),some (.ref lb),some (.str spare),some (.str other),some (.ref A0.x),some (.ref lk),some (.ref pl),some (.int mx),none,none,none,none,none,none]∧H'=H5) (fun R hR=>?_) ?_
 . walk_at"";exact dq (xb haB fun b o e n=>bp _ _ (kb5 b o e n)) (by decide) ⟨_,rfl,by decide,hR _ _ ⟨_,by omega,rfl,rfl⟩⟩
 rintro σ6 H6 ⟨mx,hmx,rfl,rfl⟩
 have hlB:B0 l=some (.lst (ss.map V.str)):=by
   rw[hB0];refine cc ((ck (S3.trans S4)) _ _ (S2 _ _ hl)) (decide_eq_false fun hm=>?_);have h1:=bp _ _ (S2 _ _ hl);rw[hks l hm] at h1;cases h1
 have nd:∀ {xs:List V}(u:List (Key×V)),(HO.lst xs)≠.dK u:=fun _ e=>by cases e
 refine ar (fun σ' H'=>∃ (W':Hp) (h:Hs)(Tb:List (Int×LK))(o9 o10:Option V),σ'=[some (.ref a),some (.ref l),some (.ref lb),some (.str spare),some (.str other),some (.ref A0.x),some (.ref lk),some (.ref pl),some (.int mx),o9,o10,none,none,none,none]∧J38 H' CH CB A0 W' (fun _=>false) lk kc kd kt lo so (bs.map (·.1)) ss h Tb∧(∀ b o,B0 b=some o→hid H' A0 b=some o)∧h.dp.length≤63∧∀ c∈h.cl,c.1∈ws++[w]) (fun R hR=>?_) ?_
 . walk_at"";refine⟨_,.inl (xb haB fun b o e n=>bp _ _ (kb5 b o e n)),?_⟩;rw[be];refine⟨by split<;>omega,by split<;>omega,?_⟩
   have hmin:(if((ns.length:Nat):Int) < 20 then((ns.length:Nat):Int) else 20).toNat≤ns.length:=by split<;>omega
   refine a8 (H0:=fun _=>none) bu (fun i σ' H'=>∃ (W':Hp) (h:Hs)(Tb:List (Int×LK))(o9 o10:Option V),σ'=[some (.ref a),some (.ref l),some (.ref lb),some (.str spare),some (.str other),some (.ref A0.x),some (.ref lk),some (.ref pl),some (.int mx),o9,o10,none,none,none,none]∧J38 H' CH CB A0 W' (fun _=>false) lk kc kd kt lo so (bs.map (·.1)) ss h Tb∧(∀ b o,B0 b=some o→hid H' A0 b=some o)∧h.dp.length≤i∧Tb.length≤i+1∧∀ c∈h.cl,c.1∈ws++[w]) ⟨W,h5,_,none,none,rfl,J5,fun b o e=>k5 b o (fun z=>(b0 e).1 (by rw[z];simp)) (b0 e).2,by omega,z7 _,fun c hc=>A8 _ (hcl5 c hc)⟩ (fun _ _ _ _ _ b o e=>by cases e) ?_ ?_
   . rintro i x σ H' hi rfl ⟨W',h,Tb,o9,o10,rfl,J,kb,hdl,htl,hcl⟩ R2 hR2;have hi:i < ns.length:=Am hi hmin
     have hz:(0:Int)+(i:Int)=i:=by omega
     rw[hz]
     have hm9:(31:Int)*i*mx < 2 ^ 62:=by rcases hmx with e | e<;>(rw[e];omega)
     have hcl6:h.cl.length < 50:=by
       have:=qF (h.cl.map (·.1)) (ws++[w]) J.ka.ho.cnd (fun x hx=>by obtain⟨c,hc,rfl⟩:=List.mem_map.mp hx;exact hcl c hc);rw[be,zY,Aa] at this;omega
     refine ar (fun σ' H''=>∃ (t:Addr)(dd:Dd),σ'=[some (.ref a),some (.ref l),some (.ref lb),some (.str spare),some (.str other),some (.ref A0.x),some (.ref lk),some (.ref pl),some (.int mx),some (.int i),some (.ref t),none,none,none,none]∧af H' H''∧H'' t=some (.tup dd.tup)∧dd.fine H''∧dd.luok [lk,kc,kd,kt]∧∀ c z,dd=.bring c z→c∈ws++[w]) (fun R hR=>?_) ?_
     . walk_at"";refine⟨_,xb haB fun b o e n=>bp _ _ (kb b o e),V.int ns[i],bS (by rw[zX,zW hi];rfl),.inl ⟨by decide,by decide⟩,.inl ⟨by omega,by omega⟩,_,rfl,_,_,_,_,rfl,by decide,by decide,by decide,by decide,hmx,fun dr H'' hdr S'' hH''=>?_⟩;have J'':=J.same S'';refine⟨dr,pl,pc,pb,pz,_,ws++[w],PB,PZ,lk,kc,kd,kt,lo,so,_,ss,h,Tb,rfl,hH'',CS (eO _ _ _ _).symm,J''.ki.r.same av,hso1,J.ka.so12,hsoS,S'' _ _ (bp _ _ (kb _ _ hplB)),S'' _ _ (bp _ _ (kb _ _ hpcB)),S'' _ _ (bp _ _ (kb _ _ hpbB)),S'' _ _ (bp _ _ (kb _ _ hpzB)),by rw[zY,hw5,Aa];exact⟨by decide,by decide⟩,lPB,lPZ,fun c hc=>?_,sPB,sPZ,fun t dd H3' S3' hn3 ht3 hf3 hlu3 hbr3=>hR _ _ ⟨t,dd,rfl,S''.trans S3',ht3,hf3,?_,hbr3⟩⟩
       . rcases List.mem_append.mp hc with hc | hc
         . exact(hwm c hc).shw
         . rw[List.mem_singleton.mp hc];exact hww
       . cases dd with
         | change b lu os d =>
           intro hm;obtain⟨⟨o,e⟩,_⟩:=J''.ks4 _ hm;rw[hlu3 b lu os d rfl] at e;cases e
         | _=>trivial
     rintro σ1 H1' ⟨t,dd,rfl,S1',ht,hfd,hlu,hbr⟩;have J1:=J.same S1';refine ar (fun σ' H''=>σ'=[some (.ref a),some (.ref l),some (.ref lb),some (.str spare),some (.str other),some (.ref A0.x),some (.ref lk),some (.ref pl),some (.int mx),some (.int i),some (.ref t),none,none,none,none]∧∃ v1,yy H1' H'' A0 W' (fun _=>false) lk kc kd kt lo so (bs.map (·.1)) ss h Tb dd v1) (fun R hR=>?_) ?_
     . walk_at"";exact rD J1 ht hfd fun v1 H2 M=>hR _ _ ⟨rfl,v1,M⟩
     rintro σ2 H2' ⟨rfl,v1,M⟩;walk_at"";refine yf BT J1 ht hfd hlu B.snd hcl6 (by omega) (by omega) M fun v2 H2 W2 h2 Tb2 J2 kp gr l1 l2 l3=>hR2 _ _ ⟨W2,h2,Tb2,_,_,rfl,J2,fun b o e=>?_,by omega,by omega,fun c hc=>?_⟩
     . have e1:=gD (kb b o e);exact gM (kp b o (b0 e).1 e1.2 (S1' _ _ e1.1)) e1.2.1 e1.2.2.1 e1.2.2.2.1 e1.2.2.2.2
     . rcases l3 c hc with hc | ⟨z,hz⟩
       . exact hcl c hc
       . exact hbr _ _ hz
   . rintro σ H' ⟨W',h,Tb,o9,o10,rfl,J,kb,hdl,htl,hcl⟩;exact hR _ _ ⟨W',h,Tb,o9,o10,rfl,J,kb,by omega,hcl⟩
 rintro σ7 H7 ⟨W',h,Tb,o9,o10,rfl,J7,kb7,hdl7,hcl7⟩;have ks7:∀ {b:Addr}{o:HO},B0 b=some o→H7 b=some o:=fun e=>bp _ _ (kb7 _ _ e);refine ar (fun σ' H'=>∃ bad:Int,¬(1≤bad∧bad≤400)∧σ'=[some (.ref a),some (.ref l),some (.ref lb),some (.str spare),some (.str other),some (.ref A0.x),some (.ref lk),some (.ref pl),some (.int mx),o9,o10,some (.int bad),none,none,none]∧af H7 H') (fun R hR=>?_) ?_
 . walk_at"";have ha7:SqL K H7 a (ns.map V.int):=xb haB fun b o e n=>ks7 e;exact⟨a,ns,21,rfl,ha7,by decide,⟨a,ns,22,rfl,ha7,by decide,⟨_,_,rfl,fun d H' hd S=>hR _ _ ⟨d,hd,rfl,S⟩⟩⟩⟩
 rintro σ8 H8 ⟨bad,hbad,rfl,S8⟩;have J8:=J7.same S8;have ks8:∀ {b:Addr}{o:HO},B0 b=some o→H8 b=some o:=fun e=>S8 _ _ (ks7 e);refine ar (fun σ' H'=>∃ (p:Addr)(ps:List Addr),σ'=[some (.ref a),some (.ref l),some (.ref lb),some (.str spare),some (.str other),some (.ref A0.x),some (.ref lk),some (.ref pl),some (.int mx),o9,o10,some (.int bad),some (.ref p),none,none]∧af H8 H'∧H8 p=none∧H' p=some (.lst (ps.map V.ref))∧DLs H' true bad ps∧ps.length≤3) (fun R hR=>?_) ?_
 . walk_at"";refine⟨by omega,fun q1 h1=>⟨by omega,fun q2 h2=>⟨by omega,fun q3 h3=>⟨by omega,fun p h4=>?_⟩⟩⟩⟩;have s1:af H8 (upd H8 q1 (.tup [.str "back",.int bad])):=af.updN h1;have e1:upd H8 q1 (.tup [.str "back",.int bad]) q1=some (.tup (Dd.back bad).tup):=ac;generalize upd H8 q1 (.tup [.str "back",.int bad])=G1 at *;have s2:af G1 (upd G1 q2 (.tup [.str "dips",.int bad])):=af.updN h2;have e2:upd G1 q2 (.tup [.str "dips",.int bad]) q2=some (.tup (Dd.dips bad).tup):=ac;generalize upd G1 q2 (.tup [.str "dips",.int bad])=G2 at *;have s3:af G2 (upd G2 q3 (.tup [.str "book",.int bad])):=af.updN h3;have e3:upd G2 q3 (.tup [.str "book",.int bad]) q3=some (.tup (Dd.book bad).tup):=ac;generalize upd G2 q3 (.tup [.str "book",.int bad])=G3 at *;have s4:af G3 (upd G3 p (.lst [.ref q1,.ref q2,.ref q3])):=af.updN h4;have s13:=s1.trans (s2.trans s3);exact hR _ _ ⟨p,[q1,q2,q3],rfl,s13.trans s4,s13.free h4,ac,.cons (s4 _ _ (s3 _ _ (s2 _ _ e1))) trivial rfl (fun _=>trivial) (.cons (s4 _ _ (s3 _ _ e2)) trivial rfl (fun _=>trivial) (.cons (s4 _ _ e3) trivial rfl (fun _=>trivial) .nil)),z7 _⟩
 rintro σ9 H9 ⟨p9,ps9,rfl,S9,hpn9,hp9,hD9,hl9⟩;refine ar (fun σ' H'=>∃ (p:Addr)(ps:List Addr)(o13:Option V),σ'=[some (.ref a),some (.ref l),some (.ref lb),some (.str spare),some (.str other),some (.ref A0.x),some (.ref lk),some (.ref pl),some (.int mx),o9,o10,some (.int bad),some (.ref p),o13,none]∧af H8 H'∧H8 p=none∧H' p=some (.lst (ps.map V.ref))∧DLs H' true bad ps∧ps.length≤27) (fun R hR=>?_) ?_
 . walk_at"";refine⟨_,SqL.of (S9 _ _ (ks8 hplB)),_,rfl,pc,rfl,⟨_,SqL.of (S9 _ _ (ks8 hpcB))⟩,?_⟩;refine a8 (H0:=H8) (aE (SqL.of (ks8 hpcB))) (fun i σ' H'=>∃ (p:Addr)(ps:List Addr)(o13:Option V),σ'=[some (.ref a),some (.ref l),some (.ref lb),some (.str spare),some (.str other),some (.ref A0.x),some (.ref lk),some (.ref pl),some (.int mx),o9,o10,some (.int bad),some (.ref p),o13,none]∧af H8 H'∧H8 p=none∧H' p=some (.lst (ps.map V.ref))∧DLs H' true bad ps∧ps.length≤3+4*i) ⟨p9,ps9,none,rfl,S9,hpn9,hp9,hD9,by omega⟩ (fun _ _ _ _ ⟨_,_,_,_,S,_⟩=>S) ?_ (fun σ H' ⟨p,ps,o13,e,S,hn,hp,hD,hl⟩=>hR _ _ ⟨p,ps,o13,e,S,hn,hp,hD,by rw[be,zY,hw5,Aa] at hl;omega⟩);rintro i x σ H' hi hx ⟨p,ps,o13,rfl,S,hn,hp,hD,hpl⟩ R2 hR2;rw[zX] at hx;obtain⟨c,hc,rfl⟩:=Option.map_eq_some_iff.mp hx
   have hcs:Shw c:=by
     rcases List.mem_append.mp (z6 hc) with h | h
     . exact(hwm c h).shw
     . rw[List.mem_singleton.mp h];exact hww
   refine ar (fun σ' H''=>∃ (p:Addr)(ps:List Addr),σ'=[some (.ref a),some (.ref l),some (.ref lb),some (.str spare),some (.str other),some (.ref A0.x),some (.ref lk),some (.ref pl),some (.int mx),o9,o10,some (.int bad),some (.ref p),some (.str c),none]∧af H8 H''∧H8 p=none∧H'' p=some (.lst (ps.map V.ref))∧DLs H'' true bad ps∧ps.length≤3+4*i+3) (fun R hR=>?_) ?_
   . walk_at"";refine⟨by omega,fun q1 h1=>⟨by omega,fun q2 h2=>?_⟩⟩;have s1:af H' (upd H' q1 (.tup [.str "shade",.str c,.int bad])):=af.updN h1;have e1:upd H' q1 (.tup [.str "shade",.str c,.int bad]) q1=some (.tup (Dd.shade c bad).tup):=ac;generalize upd H' q1 (.tup [.str "shade",.str c,.int bad])=G1 at *;have s2:af G1 (upd G1 q2 (.tup [.str "trail",.str c,.int bad])):=af.updN h2;have e2:upd G1 q2 (.tup [.str "trail",.str c,.int bad]) q2=some (.tup (Dd.trail c bad).tup):=ac;generalize upd G1 q2 (.tup [.str "trail",.str c,.int bad])=G2 at *;obtain⟨bb,hbb⟩:∃ y,PB[0]?=some y:=⟨_,zW (by omega)⟩;have s82:=S.trans (s1.trans s2);refine⟨_,SqL.of (s82 _ _ (ks8 hplB)),_,rfl,pb,rfl,_,SqL.of (s82 _ _ (ks8 hpbB)),_,bS (j:=0) (by rw[zX,hbb];rfl),by omega,fun q4 h4=>⟨by omega,fun p5 h5=>?_⟩⟩;have s3:af G2 (upd G2 q4 (.tup [.str "dip",.str c,.str bb,.int bad])):=af.updN h4;have e3:upd G2 q4 (.tup [.str "dip",.str c,.str bb,.int bad]) q4=some (.tup (Dd.dip c bb bad).tup):=ac;generalize upd G2 q4 (.tup [.str "dip",.str c,.str bb,.int bad])=G3 at *;have s4:af G3 (upd G3 p5 (.lst [.ref q1,.ref q2,.ref q4])):=af.updN h5;have e4:upd G3 p5 (.lst [.ref q1,.ref q2,.ref q4]) p5=some (.lst [.ref q1,.ref q2,.ref q4]):=ac;generalize upd G3 p5 (.lst [.ref q1,.ref q2,.ref q4])=G4 at *;have s14:=s1.trans (s2.trans (s3.trans s4));refine dZ (s14 _ _ hp) e4 (by rw[be];show ps.length+3≤sizeLine;have:=(List.getElem?_eq_some_iff.mp hc).1;rw[zY,hw5,Aa] at this;omega) fun p6 h6=>?_;have s5:af G4 (upd G4 p6 (.lst (ps.map V.ref++[.ref q1,.ref q2,.ref q4]))):=af.updN h6;have hbS:Shw bb:=sPB bb (z6 hbb);exact hR _ _ ⟨p6,ps++[q1,q2,q4],rfl,S.trans (s14.trans s5),(S.trans s14).free h6,by rw[z8];exact ac,.app (hD.same (s14.trans s5)) (.cons ((s2.trans (s3.trans (s4.trans s5))) _ _ e1) hcs rfl (fun _=>trivial) (.cons ((s3.trans (s4.trans s5)) _ _ e2) hcs rfl (fun _=>trivial) (.cons ((s4.trans s5) _ _ e3) ⟨hcs,hbS⟩ rfl (fun _=>trivial) .nil))),by rw[zY];show ps.length+3≤_;omega⟩
   rintro σ1 H1' ⟨p',ps',rfl,S',hn',hp',hD',hl'⟩;walk_at"";refine⟨.inl ⟨rfl,_,SqL.of hp'⟩,by omega,fun q1 h1=>⟨_,af.updN h1 _ _ hp',by rw[be];have:=(List.getElem?_eq_some_iff.mp hc).1;rw[zY,hw5,Aa] at this;omega,?_⟩⟩;have s1:af H1' (upd H1' q1 (.tup [.str "dip",.str c,.str other,.int bad])):=af.updN h1;have e1:upd H1' q1 (.tup [.str "dip",.str c,.str other,.int bad]) q1=some (.tup (Dd.dip c other bad).tup):=ac;have hne:q1≠p':=(aG hp' h1).symm;generalize upd H1' q1 (.tup [.str "dip",.str c,.str other,.int bad])=G1 at *;have hpG:=s1 _ _ hp';refine hR2 _ _ ⟨p',ps'++[q1],_,rfl,fun b o e=>?_,hn',by rw[z8];exact ac,.app ((hD'.same s1).lst hpG) (.cons (dd:=.dip c other bad) (by rw[ai hne];exact e1) ⟨hcs,noth.shw⟩ rfl (fun _=>trivial) .nil),by rw[zY,Aa];omega⟩;rw[ai (fun z=>by rw[z,hn'] at e;cases e)];exact s1 _ _ (S' _ _ e)
 rintro σ10 H10 ⟨p10,ps10,o13,rfl,S10,hpn10,hp10,hD10,hl10⟩;refine ar (fun σ' H'=>∃ (p:Addr)(ps:List Addr)(o14:Option V),σ'=[some (.ref a),some (.ref l),some (.ref lb),some (.str spare),some (.str other),some (.ref A0.x),some (.ref lk),some (.ref pl),some (.int mx),o9,o10,some (.int bad),some (.ref p),o13,o14]∧af H8 H'∧H8 p=none∧H' p=some (.lst (ps.map V.ref))∧DLs H' false bad ps) (fun R hR=>?_) ?_
 . walk_at"";have hl10':H10 l=some (.lst (ss.map V.str)):=S10 _ _ (ks8 hlB);refine⟨ss,SqL.of hl10',by omega,fun o1 s1' hn1 hpm1 hso1'=>?_⟩;have s1:af H10 (upd H10 o1 (.lst (s1'.map V.str))):=af.updN hn1;have e1:upd H10 o1 (.lst (s1'.map V.str)) o1=some (.lst (s1'.map V.str)):=ac;generalize upd H10 o1 (.lst (s1'.map V.str))=G1 at *;refine⟨_,SqL.of (s1 _ _ hl10'),fun o2 hn2=>⟨by omega,fun o0 hn0=>?_⟩⟩;obtain⟨s2',hcut,hlen2,hmem2⟩:=vG ss (some 1) none;rw[hcut] at hn0 ⊢;have s2:af G1 (upd G1 o2 (.lst (s2'.map V.str))):=af.updN hn2;have e2:upd G1 o2 (.lst (s2'.map V.str)) o2=some (.lst (s2'.map V.str)):=ac;generalize upd G1 o2 (.lst (s2'.map V.str))=G2 at *;have s0:af G2 (upd G2 o0 (.lst [.str spare])):=af.updN hn0;have e0:upd G2 o0 (.lst [.str spare]) o0=some (.lst [.str spare]):=ac;generalize upd G2 o0 (.lst [.str spare])=G0 at *;refine⟨_,.inl (SqL.of ((s1.trans (s2.trans s0)) _ _ hl10')),_,e0,?_⟩;rw[be];refine⟨by omega,by omega,by show 1*_≤sizeLine;omega,fun o3 hn3=>⟨by omega,fun q hnq=>?_⟩⟩;rw[v7] at hnq ⊢
   have hrl:(Ae ((ss.length:Nat):Int).toNat spare).length=ss.length:=by rw[List.length_replicate];omega
   have hrm:∀ z∈Ae ((ss.length:Nat):Int).toNat spare,Shw z:=fun z hz=>by rw[BP hz];exact nsp.shw
   generalize Ae ((ss.length:Nat):Int).toNat spare=s3' at *;have s3:af G0 (upd G0 o3 (.lst (s3'.map V.str))):=af.updN hn3;have e3:upd G0 o3 (.lst (s3'.map V.str)) o3=some (.lst (s3'.map V.str)):=ac;generalize upd G0 o3 (.lst (s3'.map V.str))=G3 at *;have s4:af G3 (upd G3 q (.lst [.ref o1,.ref o2,.ref o3])):=af.updN hnq;have e4:upd G3 q (.lst [.ref o1,.ref o2,.ref o3]) q=some (.lst [.ref o1,.ref o2,.ref o3]):=ac;generalize upd G3 q (.lst [.ref o1,.ref o2,.ref o3])=G4 at *;have s14:=s1.trans (s2.trans (s0.trans (s3.trans s4)))
   have hos:∀ (i:Nat) x,([V.ref o1,V.ref o2,V.ref o3]:List V)[i]?=some x→∃ (o:Addr)(os:List Str),x=.ref o∧G4 o=some (.lst (os.map V.str))∧os.length≤100∧∀ z∈os,Shw z:=fun i x hx=>by
     rcases i with _ | _ | _ | i
     . cases hx;exact⟨o1,s1',rfl,(s2.trans (s0.trans (s3.trans s4))) _ _ e1,by rw[hpm1.length_eq];omega,fun z hz=>B.snw z (hpm1.mem_iff.mp hz)⟩
     . cases hx;exact⟨o2,s2',rfl,(s0.trans (s3.trans s4)) _ _ e2,by omega,fun z hz=>B.snw z (hmem2 z hz)⟩
     . cases hx;exact⟨o3,s3',rfl,s4 _ _ e3,by omega,hrm⟩
     . cases hx
   refine⟨⟨_,SqL.of e4⟩,?_⟩;refine a8 (H0:=G4) (aE (SqL.of e4)) (fun i σ' H'=>∃ (p:Addr)(ps:List Addr)(o14:Option V),σ'=[some (.ref a),some (.ref l),some (.ref lb),some (.str spare),some (.str other),some (.ref A0.x),some (.ref lk),some (.ref pl),some (.int mx),o9,o10,some (.int bad),some (.ref p),o13,o14]∧af G4 H'∧H8 p=none∧H' p=some (.lst (ps.map V.ref))∧DLs H' false bad ps∧ps.length≤27+2*i) ⟨p10,ps10,none,rfl,af.refl _,hpn10,s14 _ _ hp10,hD10.weak.same s14,by omega⟩ (fun _ _ _ _ ⟨_,_,_,_,S,_⟩=>S) ?_ (fun σ H' ⟨p,ps,o14,e,S,hn,hp,hD,hl⟩=>hR _ _ ⟨p,ps,o14,e,S10.trans (s14.trans S),hn,hp,hD⟩);rintro i x σ H' hi hx ⟨p,ps,o14,rfl,S,hn,hp,hD,hpl⟩ R2 hR2;obtain⟨o,os,rfl,ho,hol,hoS⟩:=hos i x hx;have hi3:i < 3:=hi;obtain⟨bb,hbb⟩:∃ y,PB[0]?=some y:=⟨_,zW (by omega)⟩;have S8':=S10.trans (s14.trans S);walk_at"";refine⟨_,SqL.of (S8' _ _ (ks8 hplB)),_,rfl,pb,rfl,_,SqL.of (S8' _ _ (ks8 hpbB)),_,bS (j:=0) (by rw[zX,hbb];rfl),by omega,fun q1 h1=>⟨by omega,fun q2 h2=>⟨by omega,fun q3 h3=>?_⟩⟩⟩;have hbS:Shw bb:=sPB bb (z6 hbb);have hoG:=S _ _ ho;have t1:af H' (upd H' q1 (.tup [.str "change",.str bb,.ref o,.int bad])):=af.updN h1;have f1:upd H' q1 (.tup [.str "change",.str bb,.ref o,.int bad]) q1=some (.tup (Dd.change bb o os bad).tup):=ac;generalize upd H' q1 (.tup [.str "change",.str bb,.ref o,.int bad])=F1 at *;have t2:af F1 (upd F1 q2 (.tup [.str "change",.str other,.ref o,.int bad])):=af.updN h2;have f2:upd F1 q2 (.tup [.str "change",.str other,.ref o,.int bad]) q2=some (.tup (Dd.change other o os bad).tup):=ac;generalize upd F1 q2 (.tup [.str "change",.str other,.ref o,.int bad])=F2 at *;have t3:af F2 (upd F2 q3 (.lst [.ref q1,.ref q2])):=af.updN h3;have f3:upd F2 q3 (.lst [.ref q1,.ref q2]) q3=some (.lst [.ref q1,.ref q2]):=ac;generalize upd F2 q3 (.lst [.ref q1,.ref q2])=F3 at *;have t13:=t1.trans (t2.trans t3);refine dZ (t13 _ _ hp) f3 (by rw[be];show ps.length+2≤sizeLine;omega) fun p6 h6=>?_;have t4:af F3 (upd F3 p6 (.lst (ps.map V.ref++[.ref q1,.ref q2]))):=af.updN h6;have t14:=t13.trans t4;exact hR2 _ _ ⟨p6,ps++[q1,q2],_,rfl,S.trans t14,(S8'.trans t13).free h6,by rw[z8];exact ac,.app (hD.same t14) (.cons ((t2.trans (t3.trans t4)) _ _ f1) ⟨hbS,t14 _ _ hoG,hol,hoS⟩ rfl (fun e=>by cases e) (.cons ((t3.trans t4) _ _ f2) ⟨noth.shw,t14 _ _ hoG,hol,hoS⟩ rfl (fun e=>by cases e) .nil)),by rw[zY];show ps.length+2≤_;omega⟩
 rintro σ11 H11 ⟨p11,ps11,o14,rfl,S11,hpn11,hp11,hD11⟩;have J11:=J8.same S11;refine ar (fun σ' H'=>∃ o10,σ'=[some (.ref a),some (.ref l),some (.ref lb),some (.str spare),some (.str other),some (.ref A0.x),some (.ref lk),some (.ref pl),some (.int mx),o9,o10,some (.int bad),some (.ref p11),o13,o14]∧af H11 H') (fun R hR=>?_) ?_
 . walk_at"";refine⟨⟨_,SqL.of hp11⟩,?_⟩;refine a8 (H0:=H11) (aE (SqL.of hp11)) (fun i σ' H'=>∃ o10,σ'=[some (.ref a),some (.ref l),some (.ref lb),some (.str spare),some (.str other),some (.ref A0.x),some (.ref lk),some (.ref pl),some (.int mx),o9,o10,some (.int bad),some (.ref p11),o13,o14]∧af H11 H') ⟨o10,rfl,af.refl _⟩ (fun _ _ _ _ ⟨_,_,S⟩=>S) ?_ (fun σ H' h=>hR _ _ h);rintro i x σ H' hi hx ⟨o10,rfl,S⟩ R2 hR2;rw[zX] at hx;obtain⟨t,ht,rfl⟩:=Option.map_eq_some_iff.mp hx;obtain⟨dd,htt,hf,hon,_⟩:=(hD11.same S) t (z6 ht);have J':=J11.same S
   have hcl6:h.cl.length < 50:=by
     have:=qF (h.cl.map (·.1)) (ws++[w]) J7.ka.ho.cnd (fun x hx=>by obtain⟨c,hc,rfl⟩:=List.mem_map.mp hx;exact hcl7 c hc);rw[be,zY,Aa] at this;omega
   walk_at"";refine yS BT J'.hh J'.ka.ho J'.ka.pm htt hf B.snd J'.ka.dl hcl6 (Dd.nogood hon hbad) fun t2 H2 w2 hb2 S2 ht2=>?_;refine rD (J'.same S2) (S2 _ _ htt) (gd hf S2) fun v1 H3 M=>?_
   rcases M with ⟨w1,t1,hb1,rfl,S3,ht1⟩ | ⟨hg,_⟩
   . have:=Dd.one hb1 hb2;subst this;exact pU (S3 _ _ ht2) ht1 (by show 3≤1000;decide) zK ⟨true,rfl,aB (fun h=>by cases h) (fun _=>hR2 _ _ ⟨_,rfl,S.trans (S2.trans S3)⟩)⟩
   . exact(Dd.nogood hon hbad hg).elim
 rintro σ12 H12 ⟨o10',rfl,S12⟩;have J12:=J11.same S12;have ho7:=J12.ka.ho;walk_at"";refine⟨lk,kc,kd,kt,lo,so,_,ss,h,Tb,rfl,J12.ki.r.same av,⟨ho7.d1,ho7.d4⟩,fun e he=>?_,fun e he=>?_,fun ld L H' S hn hl hL hd=>?_⟩
 . have h1:=ho7.dd e he;have h2:=ho7.d4;exact⟨h1.1,by omega⟩
 . have h1:=J12.ka.ts e he;have h2:=ho7.d4;exact⟨h1.1,by omega⟩
 . refine⟨A0,W',fun _=>false,lk,kc,kd,kt,lo,so,_,ss,h,Tb,ld,L,rfl,(J12.same S).jr,hl,by omega,hd,fun c hc=>?_,fun H' _ _=>q H'⟩
   rcases List.mem_append.mp (hcl7 c hc) with hc | hc
   . exact(hwm _ hc).shw
   . rw[List.mem_singleton.mp hc];exact hww
end
end DM
namespace DM
open PySem L2
theorem bits12 {K:PySem.W.Frag}{C:Addr}{x1 x2 x3 x4 x5 x6 x7 x8 x9 x10 x11 x12:Addr}{b1 b2 b3 b4 b5 b6 b7 b8 b9 b10 b11 b12:Bool}
   (h1:AB K (.ref C) (.ref x1)=some b1)(h2:AB K (.ref C) (.ref x2)=some b2)(h3:AB K (.ref C) (.ref x3)=some b3)(h4:AB K (.ref C) (.ref x4)=some b4)(h5:AB K (.ref C) (.ref x5)=some b5)(h6:AB K (.ref C) (.ref x6)=some b6)(h7:AB K (.ref C) (.ref x7)=some b7)(h8:AB K (.ref C) (.ref x8)=some b8)(h9:AB K (.ref C) (.ref x9)=some b9)(h10:AB K (.ref C) (.ref x10)=some b10)(h11:AB K (.ref C) (.ref x11)=some b11)(h12:AB K (.ref C) (.ref x12)=some b12) :
   ∀ (i:Nat) c b,[x1,x2,x3,x4,x5,x6,x7,x8,x9,x10,x11,x12][i]?=some c→[b1,b2,b3,b4,b5,b6,b7,b8,b9,b10,b11,b12][i]?=some b→AB K (.ref C) (.ref c)=some b:=by
 intro i c b hc hb
 rcases i with _ | _ | _ | _ | _ | _ | _ | _ | _ | _ | _ | _ | i
 all_goals first
   | (cases hc;cases hb;assumption)
   | (cases hc)
theorem isSm {α:Type}{o:Option α}{c:α}(h:o=some c):o.isSome=true:=by rw[h];rfl
local macro_rules | `(tactic| walk_at "b")=>`(tactic| first | (exact fun _ _ _ _ _ _ us hl=>match us,hl with | [_],_=>rfl) | (exact fun _ _ _ _ _ _ us hl=>match us,hl with | [_,_],_=>rfl) | (exact fun _ _ _ _ _ _ us hl=>match us,hl with | [_,_,_],_=>rfl) | (exact fun _ _ _ _ _ _ us hl=>match us,hl with | [_,_,_,_],_=>rfl) | (exact fun _ _ _ _ _ _ us hl=>match us,hl with | [_,_,_,_,_],_=>rfl) | (exact fun _ _ _ _ _ _ us hl=>match us,hl with | [],_=>rfl))
theorem zf {P:Program}{w:World}{K:PySem.W.Frag}{hp:Heap}{mg:Str→Option Value}{base:Heap}(X:K.In hp)(G:hp.Ns mainGlobals mg){CX:CXT}{k:Nat}{sp:Sp}{n x qual:Str}{st:Stmt}{f:Addr}{fd:FuncData}{ps:List Str}(F:Ay K mainGlobals n=some (some (.ref f))∧Fun K x qual st f fd)(g:aU P w K mg base CX k f fd ps sp)
 (h:∀ (kV doc pm:Value)(an:Option Addr) (cdv ct:Value)(us:List Value),us.length=ps.length→bindArgs (BD x qual (gh st) (dC st) (ao st) .none kV doc pm an cdv ct) ⟨us,[]⟩=pure (ps.zip us):=by walk_at "b"):Cl P w K mg base CX k n ps sp f fd:=⟨g,F.2.kp,F.2.binds h,Av X G F.1⟩
theorem zm {P:Program}{w:World}{K:PySem.W.Frag}{mg:Str→Option Value}{base:Heap}{CX:CXT}{k:Nat}{sp:Sp}{C:Addr}{n x qual:Str}{st:Stmt}{f:Addr}{fd:FuncData}{ps:List Str}(F:Meth K C n f∧Fun K x qual st f fd)(g:aU P w K mg base CX k f fd ps sp)
 (h:∀ (kV doc pm:Value)(an:Option Addr) (cdv ct:Value)(us:List Value),us.length=ps.length→bindArgs (BD x qual (gh st) (dC st) (ao st) .none kV doc pm an cdv ct) ⟨us,[]⟩=pure (ps.zip us):=by walk_at "b"):Cm P w K mg base CX k C n ps sp f fd:=⟨g,F.1,F.2.binds h⟩
def Gn (K:PySem.W.Frag) (n:Str)(f:Addr):Prop:=Ay K mainGlobals n=some (some (.ref f))
set_option autoImplicit true in
set_option relaxedAutoImplicit true in
theorem all_mk {l:PySem.W.OpenLaw}{w:World}{K:PySem.W.Frag}{h:Heap}{mg:Str→Option Value}{fa:Addr}(X:K.In h)(G:h.Ns mainGlobals mg)(hfa:mg "law"=some (.ref fa))
   (aCB:Gn K "Book" CB)
   (FI:Meth K CB "__init__" f0I∧Fun K "__init__" "Book.__init__" rW f0I d0I)
   (FMS:Meth K CB "shades" f0MS∧Fun K "shades" "Book.shades" jW f0MS d0MS)
   (FMB:Meth K CB "baths" f0MB∧Fun K "baths" "Book.baths" mX f0MB d0MB)
   (FMT:Meth K CB "table" f0MT∧Fun K "table" "Book.table" ms f0MT d0MT)
   (FMX:Meth K CB "changed" f0MX∧Fun K "changed" "Book.changed" iq f0MX d0MX)
   (FMC:Meth K CB "check_bath" f0MC∧Fun K "check_bath" "Book.check_bath" js f0MC d0MC)
   (FMH:Meth K CB "check_shade" f0MH∧Fun K "check_shade" "Book.check_shade" g9 f0MH d0MH)
   (FMO:Meth K CB "out" f0MO∧Fun K "out" "Book.out" uA f0MO d0MO)
   (clB:Cls K CB)
   (mkB:Ca K CB=true)
   (kcB:Bq K (.ref CB)=true)
   (OB:Own K CB)
   (naB_order:NoAttr K CB "order")
   (naB_tables:NoAttr K CB "tables")
   (aCH:Gn K "House" CH)
   (FHI:Meth K CH "__init__" f0HI∧Fun K "__init__" "House.__init__" q8 f0HI d0HI)
   (FHR:Meth K CH "bring" f0HR∧Fun K "bring" "House.bring" mv f0HR d0HR)
   (FHQ:Meth K CH "dip" f0HQ∧Fun K "dip" "House.dip" uC f0HQ d0HQ)
   (FHK:Meth K CH "back" f0HK∧Fun K "back" "House.back" pR f0HK d0HK)
   (FHG:Meth K CH "change" f0HG∧Fun K "change" "House.change" kH f0HG d0HG)
   (FHB:Meth K CH "book" f0HB∧Fun K "book" "House.book" pq f0HB d0HB)
   (FHS:Meth K CH "shade" f0HS∧Fun K "shade" "House.shade" mh f0HS d0HS)
   (FHT:Meth K CH "trail" f0HT∧Fun K "trail" "House.trail" mV f0HT d0HT)
   (FHP:Meth K CH "dips" f0HP∧Fun K "dips" "House.dips" qp f0HP d0HP)
   (FHN:Meth K CH "newest_book" f0HN∧Fun K "newest_book" "House.newest_book" jN f0HN d0HN)
   (FHC:Meth K CH "check_cloth" f0HC∧Fun K "check_cloth" "House.check_cloth" ky f0HC d0HC)
   (FHD:Meth K CH "check_day_to_do" f0HD∧Fun K "check_day_to_do" "House.check_day_to_do" pL f0HD d0HD)
   (FHL:Meth K CH "cloths" f0HL∧Fun K "cloths" "House.cloths" kf f0HL d0HL)
   (FHY:Meth K CH "today" f0HY∧Fun K "today" "House.today" mw f0HY d0HY)
   (clH:Cls K CH)
   (mkH:Ca K CH=true)
   (kcH:Bq K (.ref CH)=true)
   (OH:Own K CH)
   (naH_first_shades:NoAttr K CH "first_shades")
   (naH_day_now:NoAttr K CH "day_now")
   (naH_standing:NoAttr K CH "standing")
   (naH_books_from:NoAttr K CH "books_from")
   (FGd:Gn K "good_name" f0Gd∧Fun K "good_name" "good_name" uE f0Gd d0Gd)
   (FCn:Gn K "check_names" f0Cn∧Fun K "check_names" "check_names" jt f0Cn d0Cn)
   (FCs:Gn K "check_shades" f0Cs∧Fun K "check_shades" "check_shades" ii f0Cs d0Cs)
   (FCo:Gn K "check_outs" f0Co∧Fun K "check_outs" "check_outs" l7 f0Co d0Co)
   (FCb:Gn K "check_baths" f0Cb∧Fun K "check_baths" "check_baths" jp f0Cb d0Cb)
   (FCD:Gn K "check_day" f0CD∧Fun K "check_day" "check_day" uz f0CD d0CD)
   (FA:Gn K "_law_at" f0A∧Fun K "_law_at" "_law_at" sAt f0A d0A)
   (FD:Gn K "_law_draws" f0D∧Fun K "_law_draws" "_law_draws" qi f0D d0D)
   (FW:Gn K "_law_words" f0W∧Fun K "_law_words" "_law_words" qP f0W d0W)
   (FPl:Gn K "_law_plain" f0Pl∧Fun K "_law_plain" "_law_plain" qJ f0Pl d0Pl)
   (FTa:Gn K "_law_tables" f0Ta∧Fun K "_law_tables" "_law_tables" ml f0Ta d0Ta)
   (FHd:Gn K "_law_handed" f0Hd∧Fun K "_law_handed" "_law_handed" mY f0Hd d0Hd)
   (FX:Gn K "_law_texts" f0X∧Fun K "_law_texts" "_law_texts" qW f0X d0X)
   (FTe:Gn K "_law_tells" f0Te∧Fun K "_law_tells" "_law_tells" qX f0Te d0Te)
   (FAl:Gn K "_law_alike" f0Al∧Fun K "_law_alike" "_law_alike" qm f0Al d0Al)
   (FNw:Gn K "_law_no" f0Nw∧Fun K "_law_no" "_law_no" sNo f0Nw d0Nw)
   (FIs:Gn K "_law_is_name" f0Is∧Fun K "_law_is_name" "_law_is_name" nj f0Is d0Is)
   (FRl:Gn K "_law_refusal" f0Rl∧Fun K "_law_refusal" "_law_refusal" kA f0Rl d0Rl)
   (FDo:Gn K "_law_do" f0Do∧Fun K "_law_do" "_law_do" sDo f0Do d0Do)
   (FAs:Gn K "_law_asked" f0As∧Fun K "_law_asked" "_law_asked" pD f0As d0As)
   (FIF:Gn K "_law_in_force" f0IF∧Fun K "_law_in_force" "_law_in_force" jY f0IF d0IF)
   (FTD:Gn K "_law_trail_due" f0TD∧Fun K "_law_trail_due" "_law_trail_due" iG f0TD d0TD)
   (FSD:Gn K "_law_shade_due" f0SD∧Fun K "_law_shade_due" "_law_shade_due" iM f0SD d0SD)
   (FDpD:Gn K "_law_dips_due" f0DpD∧Fun K "_law_dips_due" "_law_dips_due" ke f0DpD d0DpD)
   (FBrD:Gn K "_law_bring_due" f0BrD∧Fun K "_law_bring_due" "_law_bring_due" io f0BrD d0BrD)
   (FDiD:Gn K "_law_dip_due" f0DiD∧Fun K "_law_dip_due" "_law_dip_due" mI f0DiD d0DiD)
   (FBaD:Gn K "_law_back_due" f0BaD∧Fun K "_law_back_due" "_law_back_due" kD f0BaD d0BaD)
   (FChD:Gn K "_law_change_due" f0ChD∧Fun K "_law_change_due" "_law_change_due" gF f0ChD d0ChD)
   (FAsD:Gn K "_law_asked_due" f0AsD∧Fun K "_law_asked_due" "_law_asked_due" iE f0AsD d0AsD)
   (FDu:Gn K "_law_due" f0Du∧Fun K "_law_due" "_law_due" yo f0Du d0Du)
   (FSn:Gn K "_law_seen" f0Sn∧Fun K "_law_seen" "_law_seen" t9 f0Sn d0Sn)
   (FDz:Gn K "_law_days" f0Dz∧Fun K "_law_days" "_law_days" uq f0Dz d0Dz)
   (FDy:Gn K "_law_day" f0Dy∧Fun K "_law_day" "_law_day" uS f0Dy d0Dy)
   (FDw:Gn K "_law_deed" f0Dw∧Fun K "_law_deed" "_law_deed" vZ f0Dw d0Dw)
   (FPo:Gn K "_law_pools" f0Po∧Fun K "_law_pools" "_law_pools" ph f0Po d0Po)
   (FBg:Gn K "_law_begun" f0Bg∧Fun K "_law_begun" "_law_begun" qS f0Bg d0Bg)
   (FNx:Gn K "_law_no_day" f0Nx∧Fun K "_law_no_day" "_law_no_day" qZ f0Nx d0Nx)
   (FL:Gn K "law" f0L∧Fun K "law" "law" yp f0L d0L)
   (aBadText:Gn K "BadText" x0BadText)
   (aTooLong:Gn K "TooLong" x0TooLong)
   (aDipError:Gn K "DipError" x0DipError)
   (aND:Gn K "NoDay" x0ND)
   (XND:ExcC K x0ND)
   (aLa:Gn K "Late" x0La)
   (XLa:ExcC K x0La)
   (aNC:Gn K "NoCloth" x0NC)
   (XNC:ExcC K x0NC)
   (aKn:Gn K "Known" x0Kn)
   (XKn:ExcC K x0Kn)
   (aBN:Gn K "BadName" x0BN)
   (XBN:ExcC K x0BN)
   (aFu:Gn K "Full" x0Fu)
   (XFu:ExcC K x0Fu)
   (aNB:Gn K "NoBath" x0NB)
   (XNB:ExcC K x0NB)
   (aNS:Gn K "NoShade" x0NS)
   (XNS:ExcC K x0NS)
   (aBB:Gn K "BadBook" x0BB)
   (XBB:ExcC K x0BB)
   (aNo:Gn K "NoDip" x0No)
   (XNo:ExcC K x0No)
   (hZ:Z=[x0BN,x0Kn,x0NC,x0NB,x0NS,x0BB,x0BadText,x0TooLong,x0ND,x0La,x0No,x0Fu])
   (BiBN:ExcC K x0BN→Bits K Z x0DipError x0BN DM.bBN)
   (BiKn:ExcC K x0Kn→Bits K Z x0DipError x0Kn DM.bKn)
   (BiNC:ExcC K x0NC→Bits K Z x0DipError x0NC DM.bNC)
   (BiNB:ExcC K x0NB→Bits K Z x0DipError x0NB DM.bNB)
   (BiNS:ExcC K x0NS→Bits K Z x0DipError x0NS DM.bNS)
   (BiBB:ExcC K x0BB→Bits K Z x0DipError x0BB DM.bBB)
   (BiND:ExcC K x0ND→Bits K Z x0DipError x0ND DM.bND)
   (BiLa:ExcC K x0La→Bits K Z x0DipError x0La DM.bLa)
   (BiNo:ExcC K x0No→Bits K Z x0DipError x0No DM.bNo)
   (zlen:Ay K mainGlobals "len"=some none)
   (zall:Ay K mainGlobals "all"=some none)
   (zrange:Ay K mainGlobals "range"=some none)
   (zisinstance:Ay K mainGlobals "isinstance"=some none)
   (zlist:Ay K mainGlobals "list"=some none)
   (zstr:Ay K mainGlobals "str"=some none)
   (zsorted:Ay K mainGlobals "sorted"=some none)
   (ztuple:Ay K mainGlobals "tuple"=some none)
   (zdict:Ay K mainGlobals "dict"=some none)
   (zzip:Ay K mainGlobals "zip"=some none)
   (zset:Ay K mainGlobals "set"=some none)
   (zmin:Ay K mainGlobals "min"=some none)
   (zint:Ay K mainGlobals "int"=some none)
   (zmax:Ay K mainGlobals "max"=some none)
   (zbool:Ay K mainGlobals "bool"=some none)
   (zValueError:Ay K mainGlobals "ValueError"=some none)
   (vlett:Ay K mainGlobals "LETTERS"=some (some (.str bo tlett)))
   (vlong:Ay K mainGlobals "LONGEST"=some (some (.int 8 tlong)))
   (vmostS:Ay K mainGlobals "MOST_SHADES"=some (some (.int 12 tmostS)))
   (vmostB:Ay K mainGlobals "MOST_BATHS"=some (some (.int 8 tmostB)))
   (vfday:Ay K mainGlobals "FIRST_DAY"=some (some (.int 1 tfday)))
   (vlday:Ay K mainGlobals "LAST_DAY"=some (some (.int 400 tlday)))
   (vmostC:Ay K mainGlobals "MOST_CLOTHS"=some (some (.int 50 tmostC)))
   (vmostD:Ay K mainGlobals "MOST_DIPS"=some (some (.int 1000 tmostD))) :
   ∃ fd:FuncData,(∀ (s:Shared) (v:Value),BindsTo s fd ⟨[v],[]⟩ [("_law_script",v)])∧∀ base:Heap,K.In base→base.Ns mainGlobals mg→aU l.prog w K mg base CX0 11 fa fd ["_law_script"] (rR K):=by
 cases hfa.symm.trans (Av X G FL.1);have bI:=FI.2.binds (ps:=["self", "shades", "baths"]) (by walk_at "b");have mCB:=Av X G aCB;have bHI:=FHI.2.binds (ps:=["self", "book"]) (by walk_at "b");have mCH:=Av X G aCH;have mmBadText:=Av X G aBadText;have mmTooLong:=Av X G aTooLong;have mmDipError:=Av X G aDipError;have mND:=Av X G aND;have mLa:=Av X G aLa;have mNC:=Av X G aNC;have mKn:=Av X G aKn;have mBN:=Av X G aBN;have mFu:=Av X G aFu;have mNB:=Av X G aNB;have mNS:=Av X G aNS;have mBB:=Av X G aBB;have mNo:=Av X G aNo;have nlen:=Az X G zlen;have nall:=Az X G zall;have nrange:=Az X G zrange;have nisinstance:=Az X G zisinstance;have nlist:=Az X G zlist;have nstr:=Az X G zstr;have nsorted:=Az X G zsorted;have ntuple:=Az X G ztuple;have ndict:=Az X G zdict;have nzip:=Az X G zzip;have nset:=Az X G zset;have nmin:=Az X G zmin;have nint:=Az X G zint;have nmax:=Az X G zmax;have nbool:=Az X G zbool;have nValueError:=Az X G zValueError;have elett:=Av X G vlett;have elong:=Av X G vlong;have emostS:=Av X G vmostS;have emostB:=Av X G vmostB;have efday:=Av X G vfday;have elday:=Av X G vlday;have emostC:=Av X G vmostC;have emostD:=Av X G vmostD;have T:Txt mg:=⟨nlen,nall,nrange,nisinstance,nlist,nstr,nsorted,ntuple,ndict,nzip,nset,nmin,nint,⟨_,elett⟩,⟨_,elong⟩⟩;have TB:v4 mg:=⟨⟨_,emostS⟩,⟨_,emostB⟩⟩;have c:=clB;have nO:=naB_order;have nT:=naB_tables;have MkB:Mk K CB f0I:=⟨mkB,FI.1.at_,FI.1.fn,kcB⟩;have hX:Hx K mg CH:=⟨clH,naH_first_shades,naH_day_now,naH_standing,naH_books_from,⟨_,efday⟩,⟨_,elday⟩,⟨_,emostC⟩,⟨_,emostD⟩,nmax⟩;have MkH:Mk K CH f0HI:=⟨mkH,FHI.1.at_,FHI.1.fn,kcH⟩;have O:=OB
 have RR:zg K mg Z x0DipError:=by subst hZ;exact⟨⟨_,rfl,mBN⟩,⟨_,rfl,mKn⟩,⟨_,rfl,mNC⟩,⟨_,rfl,mNB⟩,⟨_,rfl,mNS⟩,⟨_,rfl,mBB⟩,⟨_,rfl,mmBadText⟩,⟨_,rfl,mmTooLong⟩,⟨_,rfl,mND⟩,⟨_,rfl,mLa⟩,⟨_,rfl,mNo⟩,⟨_,rfl,mFu⟩,mmDipError,nValueError⟩
 have BiBN:=BiBN XBN;have BiKn:=BiKn XKn;have BiNC:=BiNC XNC;have BiNB:=BiNB XNB;have BiNS:=BiNS XNS;have BiBB:=BiBB XBB;have BiND:=BiND XND;have BiLa:=BiLa XLa;have BiNo:=BiNo XNo;refine⟨d0L,fun s v=>by obtain⟨_,_,_,_,_,_,_,_,_,rfl,_⟩:=FL.2.ex;exact .of_eq rfl,fun base _ _=>?_⟩;have cl:=@zf l.prog w K h mg base X G;have cm:=@zm l.prog w K mg base;have TM:mg "max"=none:=nmax;have BT:=zQ BiBN BiKn BiNS BiNC BiNB BiBB BiND BiLa BiNo;have GA:=cl FA (za FA.2 T);have GD:=cl FD (vL FD.2 T);have GW:=cl FW (wb FW.2 T GD);have GPl:=cl FPl (vS FPl.2 T GD GA GW);have GTa:=cl FTa (qq FTa.2 T);have GGd:=cl FGd (wM FGd.2 T);have GCn:=cl FCn (tW FCn.2 T GGd);have GCs:=cl FCs (qD FCs.2 T TB GCn);have GCo:=cl FCo (uh FCo.2 T);have GCb:=cl FCb (sV FCb.2 T TB GCn GCo);have GI:=xt (P:=l.prog) (w:=w) (mg:=mg) (base:=base) FI.2 T c nO nT GCs GCb;have GMC0:=cm FMC (sX FMC.2 c nT);have GMH0:=cm FMH (qy FMH.2 c nO);have GMO:=cm FMO (wE FMO.2 c nT GMC0 GMH0);have GMC:=cm FMC (qj FMC.2 c nT XNB mNB);have GMH:=cm FMH (og FMH.2 c nO XNS mNS);have GCnX:=cl FCn (qo FCn.2 T XBB mBB GGd);have GCsX:=cl FCs (oE FCs.2 T TB XBB mBB GCnX);have GCoX:=cl FCo (tj FCo.2 T XBB mBB);have GCbX:=cl FCb (pH FCb.2 T TB XBB mBB GCnX GCoX);have GIX:=u5 (P:=l.prog) (w:=w) (mg:=mg) (base:=base) FI.2 T c nO nT GCsX GCbX;have GMS:=cm FMS (qt FMS.2 T c nO);have GMB:=cm FMB (sI FMB.2 T c nT);have GMT:=cm FMT (tJ FMT.2 c nO nT GMC0);have GMX:=cm FMX (nW FMX.2 T c MkB GIX bI mCB GMC GMS GMB GMT);have GHd:=cl FHd (qz FHd.2 T MkB GIX bI mCB);have GX:=cl FX (uX FX.2 T);have GCD:=cl FCD (wS FCD.2 T hX c XND mND);have GHC:=cm FHC (yc FHC.2 T hX c XNC mNC);have GHD:=cm FHD (yD FHD.2 T hX c XLa mLa GCD);have GHB:=cm FHB (uP FHB.2 T hX c GCD);have GHN:=cm FHN (w5 FHN.2 T hX c GHB);have GHY:=cm FHY (tV FHY.2 T hX c);have GHT:=cm FHT (tf FHT.2 T hX c GHC GCD);have GHP:=cm FHP (vC FHP.2 T hX c GCD);have GHS:=cm FHS (tT FHS.2 T hX c GHT);have GHI:=u9 (P:=l.prog) (w:=w) (mg:=mg) (base:=base) FHI.2 T hX c;have GHR:=cm FHR (tQ FHR.2 T hX c XBN mBN XKn mKn XFu mFu GGd GHN GMH);have GHK:=cm FHK (ug FHK.2 T hX c XNo mNo GHD GHP);have GHG:=cm FHG (qG FHG.2 T hX c XLa mLa GHN GMX GHD GHP);have GHQ:=cm FHQ (wU FHQ.2 T hX c XFu mFu GHC GHN GMC GHD GHB GHS GMO);have GRl:=cl FRl (qB FRl.2 T);have GHL:=cm FHL (qR FHL.2 T hX c);have GNw:=cl FNw (zi FNw.2 T);have GIs:=cl FIs (sC FIs.2 T);have GAl1:=cl FAl (kG FAl.2 T nbool (cl FAl yI));have GAl:=cl FAl (kG FAl.2 T nbool GAl1);have GTe:=cl FTe (vk FTe.2 T c GX GMS GMB GMT GMO);have GAs:=cl FAs (uv FAs.2 T hX GHR GHQ GHK GHG GHS GHT GHP GHB);have GDo:=cl FDo (zw FDo.2 T RR GAs GRl);have GAl3:=cl FAl (kG FAl.2 T nbool GAl);have GIF:=cl FIF (qV FIF.2 T);have GTD:=cl FTD (oY FTD.2 T GIF);have GSD:=cl FSD (nz FSD.2 T GTD);have GDpD:=cl FDpD (qw FDpD.2 T);have GBrD:=cl FBrD (oI FBrD.2 T GIs GNw);have GDiD:=cl FDiD (tm FDiD.2 T GNw GSD);have GBaD:=cl FBaD (qE FBaD.2 T GNw);have GChD:=cl FChD (mf FChD.2 T GNw GDpD);have GAsD:=cl FAsD (oP FAsD.2 T GNw GSD GTD GDpD);have GDu:=cl FDu (yA FDu.2 T GBrD GDiD GBaD GChD GAsD);have GSn:=cl FSn (wu FSn.2 T hX GHL GHY GHP GHB GHT GHS GX GAl3 GDpD GTe GIF GTD GSD);have GDz:=cl FDz (wG FDz.2 T TM);have GDy:=cl FDy (yj FDy.2 T);have GDw:=cl FDw (wt FDw.2 T GDy);have GPo:=cl FPo (vz FPo.2 T GA GW);have GBg:=cl FBg (uM FBg.2 T hX GA GHR);have GNx:=cl FNx (vV FNx.2 T);exact yd FL.2 T hX BT GA GPl GTa GHd GD GPo GBg GDw GDu GDo GAl3 GSn GDz GNx MkH GHI bHI mCH
theorem walk {l:PySem.W.OpenLaw}{q:Program}{loose:List Str}{XP:(Str→Option Value)→Heap→Prop}{YP:World→Heap→Prop}{d:DefRec}{K:Params→PySem.W.Frag}(hn:l.most=some 63)(hdf:d.params.defaults=[])
   (hY:∀ (w:World)(h:Heap),YP w h→(K w.params).In h)
   (F:∀ (w:World)(mg:Str→Option Value)(fa:Addr)(h:Heap),(K w.params).In h→h.Ns mainGlobals mg→mg d.name=some (.ref fa) →
     ∃ fd:FuncData,(∀ (s:Shared) (u:Value),BindsTo s fd ⟨[u],[]⟩ [("_law_script",u)])∧∀ base:Heap,(K w.params).In base→base.Ns mainGlobals mg→aU l.prog w (K w.params) mg base CX0 11 fa fd ["_law_script"] (rR (K w.params))) :
   PySem.W.WalkO q loose XP YP l.row.toRowW d [] (fun f vs=>CY f vs) :=
 L2.walk_of (n:=63) (k:=11) (x:="_law_script") (CX:=fun _=>CX0) (sp:=fun w=>rR (K w.params)) hn (by decide) hdf ⟨rfl,by decide,by decide⟩ hY F (fun _ _ a ns hl _ hS=>⟨a,ns,rfl,hS,hl,fun _=>rfl⟩) fun _ _ _ _ _ z=>z
end DM
namespace PySem.W.Fast
def tw10007211203346043080:=0
def tw10009036294307823713:=0
def tw10025056452803638113:=0
def tw10037130876906200799:=0
def tw10049103176643853871:=0
def tw10084646166170768261:=0
def tw10106869867808419726:=0
def tw10118746369756037057:=0
def tw10142893043386260470:=0
def tw10183751565074827528:=0
def tw10224977300807528605:=0
def tw10246177845374731174:=0
def tw10254562524432621226:=0
def tw10295796628428509314:=0
def tw10326160538361564701:=0
def tw10405616823812093227:=0
def tw10448235878047010229:=0
def tw10449581303895329970:=0
def tw10523221662349776557:=0
def tw10527170089182484421:=0
def tw10546477801200725539:=0
def tw10594744051123810247:=0
def tw10614864074098886765:=0
def tw10623768557251422753:=0
def tw1063676060079545977:=0
def tw10771615847386086042:=0
def tw10823424965564056710:=0
def tw10831001106316195429:=0
def tw10832664014646258882:=0
def tw10843673375357951165:=0
def tw10847992391280741135:=0
def tw10865129554337497294:=0
def tw10924125720829887535:=0
def tw10944683981558434748:=0
def tw11016859639215020839:=0
def tw11022467436459567047:=0
def tw11051176414175132607:=0
def tw11127436903410951017:=0
def tw11142576246663723388:=0
def tw11156097970770377667:=0
def tw11171890611980491056:=0
def tw11173411671511073085:=0
def tw11177133864565124706:=0
def tw11195584060699487797:=0
def tw11264266073822153925:=0
def tw11293525866840403632:=0
def tw11294468887234721928:=0
def tw1130872619277334874:=0
def tw11332572765903653717:=0
def tw11368389444098789841:=0
def tw1140691411765176912:=0
def tw11446163669140418856:=0
def tw11446772743845653563:=0
def tw11533448331335732107:=0
def tw11571468380098275457:=0
def tw11596947570298748410:=0
def tw11624230634937005528:=0
def tw11631102672148045957:=0
def tw11638303878927394778:=0
def tw11660976780921892422:=0
def tw11699821882418919403:=0
def tw11719783163505101611:=0
def tw11766390918886110061:=0
def tw11775886658691106619:=0
def tw11790461898454893838:=0
def tw11822357837330809326:=0
def tw11843044219293965216:=0
def tw11857487576231898716:=0
def tw11857687332246357654:=0
def tw11888980913094740545:=0
def tw11969499886717476637:=0
def tw12013085737642773066:=0
def tw12037588148595993103:=0
def tw12101651981448889421:=0
def tw12128437024710131933:=0
def tw1214215139291616940:=0
def tw121483057227436366:=0
def tw12155259871984913277:=0
def tw12238660960084685024:=0
def tw12283933663071819521:=0
def tw12305155465838104207:=0
def tw12311781060807272511:=0
def tw12312301762323482224:=0
def tw12350261815848205576:=0
def tw1235171399287295516:=0
def tw12373046530699340204:=0
def tw12407942327635027676:=0
def tw12418412041101174201:=0
def tw1245473890045297956:=0
def tw12491292589636623930:=0
def tw12494304487871954209:=0
def tw12533503882437355676:=0
def tw12573628593038641994:=0
def tw12579197793272635652:=0
def tw12637308022060860409:=0
def tw12650680863650912776:=0
def tw12659875115671131895:=0
def tw12666968684089259392:=0
def tw12686634383015016727:=0
def tw12725709807816745832:=0
def tw12763262595445293849:=0
def tw12773513710869460630:=0
def tw12783012007284571701:=0
def tw12784387742496078206:=0
def tw12825667497219822422:=0
def tw12851914074067564447:=0
def tw12868975330354081960:=0
def tw130819691730714494:=0
def tw1308338408721166602:=0
def tw13146229401917007622:=0
def tw13176429358861235137:=0
def tw13193259498076159811:=0
def tw1319367419997140484:=0
def tw13279320515825535117:=0
def tw13302573719461084469:=0
def tw13316222693853621657:=0
def tw13354300148796867719:=0
def tw1339616456188581783:=0
def tw13398922282067833727:=0
def tw13442120285611010150:=0
def tw13514874585399738877:=0
def tw13592757995008219821:=0
def tw13604734454901338090:=0
def tw13632290866176274048:=0
def tw13647326658108445841:=0
def tw13668214371553767969:=0
def tw13685115565306468114:=0
def tw13715183177576536465:=0
def tw1375891557314355887:=0
def tw13773248743167285032:=0
def tw13815115342902715287:=0
def tw13858823269250678925:=0
def tw13967389742493078781:=0
def tw13991757041420458142:=0
def tw14081792287066555077:=0
def tw14110527104837325752:=0
def tw14111767618840074883:=0
def tw14153336115047353920:=0
def tw14196492208297472058:=0
def tw14210063855897880251:=0
def tw14213975717715596799:=0
def tw14237514784090985698:=0
def tw1424304708438657491:=0
def tw14287816240965780947:=0
def tw142996834827224529:=0
def tw14338694988458036732:=0
def tw14412144122625812694:=0
def tw144368273040560104:=0
def tw14455323778410128494:=0
def tw14478188748241609082:=0
def tw14524739436929961227:=0
def tw14576863195146532524:=0
def tw14597988175129695445:=0
def tw14599807367869241352:=0
def tw14620046821411668144:=0
def tw14631287827895681783:=0
def tw14648743518197552280:=0
def tw14651525624087916823:=0
def tw14662640479935206816:=0
def tw14668305419851262144:=0
def tw14682216396600957332:=0
def tw14730883028765850644:=0
def tw14818166246698273031:=0
def tw14825909196056398225:=0
def tw14858276663799241835:=0
def tw148696677824532878:=0
def tw14911863721887781130:=0
def tw14935562037530110009:=0
def tw14976238055664170626:=0
def tw14980883263100940208:=0
def tw1500251361232654834:=0
def tw15006358711325731551:=0
def tw15043830942833141942:=0
def tw15079446788109836946:=0
def tw15122961197908324288:=0
def tw15136697167403859021:=0
def tw1516219197613747309:=0
def tw1516326999344622874:=0
def tw15178877072629677057:=0
def tw15182452283135442198:=0
def tw15186444886942096708:=0
def tw15196645312195503971:=0
def tw15214068331627909277:=0
def tw15238031772795634171:=0
def tw1528978476242382961:=0
def tw15339007165054881348:=0
def tw15354005377974174288:=0
def tw15402946297068100055:=0
def tw15406756742991893544:=0
def tw15410078445980105412:=0
def tw1541077279152460344:=0
def tw15446181366429194714:=0
def tw15481686793886400762:=0
def tw15482400612068843203:=0
def tw15507202741453883609:=0
def tw15557475773478193453:=0
def tw15570634329118805398:=0
def tw15609649679040178882:=0
def tw15637777752391403608:=0
def tw15658359876419866493:=0
def tw15664032202707975420:=0
def tw15673074547528187507:=0
def tw15676729058683910467:=0
def tw15730911337415529403:=0
def tw15744484946963779341:=0
def tw15750723699141638352:=0
def tw15756408826562102907:=0
def tw1579639801918477754:=0
def tw15846467548418036043:=0
def tw15864480027754000115:=0
def tw1590410705020831668:=0
def tw15939246275379645236:=0
def tw15956871443674225573:=0
def tw15994303899260566298:=0
def tw16028245768811030692:=0
def tw16039677226527687926:=0
def tw16047766893682390046:=0
def tw160809828967771035:=0
def tw16128790366500647816:=0
def tw16138537826563345782:=0
def tw16145971579168683238:=0
def tw16201206423270801627:=0
def tw16249130841726614404:=0
def tw16254949708857114036:=0
def tw16328393623843674302:=0
def tw16346872000286047947:=0
def tw16355777751304190731:=0
def tw16359582042599055489:=0
def tw16388990640172562258:=0
def tw16429876207245533426:=0
def tw16442970925549272827:=0
def tw16536452100986137884:=0
def tw16557430453660642623:=0
def tw16578223285174769433:=0
def tw16590895599817995535:=0
def tw16597324773305485201:=0
def tw16615388979099106495:=0
def tw16672630550305361321:=0
def tw16675694211467803215:=0
def tw16749578399646777051:=0
def tw16755037270083513003:=0
def tw16800151938046437031:=0
def tw16812510369476036910:=0
def tw1685370825565221731:=0
def tw16860214200339817976:=0
def tw1686717606252211741:=0
def tw16887457646221649390:=0
def tw16916988103214009510:=0
def tw16917759531682152653:=0
def tw16942891491457398101:=0
def tw16947581301065547209:=0
def tw16971687340964988887:=0
def tw17053156277379152591:=0
def tw17059690671124496457:=0
def tw17112162378377785082:=0
def tw17113503203077080765:=0
def tw17124817924219499567:=0
def tw17134032348267700031:=0
def tw17153898863974850186:=0
def tw17160567693830644779:=0
def tw1716797688939106795:=0
def tw171857760041063868:=0
def tw17207325749897895449:=0
def tw17248985792032783134:=0
def tw17255865314759161147:=0
def tw1728007463538622145:=0
def tw17289873726561203485:=0
def tw17332316385926922371:=0
def tw17358112115948944366:=0
def tw17363941159112067131:=0
def tw17375206478522813817:=0
def tw17392592240453701528:=0
def tw17441083193940632070:=0
def tw17459755001779298015:=0
def tw17466947013173509374:=0
def tw17472623679989342385:=0
def tw1749255468902315377:=0
def tw17498321593951792390:=0
def tw17546663654930405471:=0
def tw17588178610330442971:=0
def tw1761148134351324613:=0
def tw17641997990124645018:=0
def tw17642542592189291314:=0
def tw17643665265605299768:=0
def tw1766087175263124575:=0
def tw17682849693658701731:=0
def tw17684503099677167309:=0
def tw17722952045752073755:=0
def tw17723229402410509856:=0
def tw17724750017687437323:=0
def tw17737603105930395405:=0
def tw17769212559967571315:=0
def tw17775440363086984189:=0
def tw17792323256385950761:=0
def tw17818363628384490967:=0
def tw17831920126185793181:=0
def tw17863743777248430787:=0
def tw17887621645180014038:=0
def tw17936395692374991799:=0
def tw17982289590487997015:=0
def tw18022249497431396088:=0
def tw18024349771433856011:=0
def tw18039926726335812687:=0
def tw18076257911255536515:=0
def tw18119904577582110972:=0
def tw18209225591046444339:=0
def tw1824811826939564269:=0
def tw18248973353500015133:=0
def tw18290154561684423977:=0
def tw18324804322120070665:=0
def tw18337202310176904922:=0
def tw18393842712357256763:=0
def tw18419020224329189142:=0
def tw18442623270899721152:=0
def tw1844371807221826128:=0
def tw1853985127228629951:=0
def tw1875077014306596396:=0
def tw1894862753168272901:=0
def tw1926119328240757918:=0
def tw1947866371224937821:=0
def tw1974823249573721033:=0
def tw2003765813429220497:=0
def tw20167377967010386:=0
def tw2020822024641054560:=0
def tw2030407993372390522:=0
def tw2036265043669333077:=0
def tw2040371834487068326:=0
def tw2069461204580431403:=0
def tw2084511443675412490:=0
def tw2092699295782347257:=0
def tw2130373778879117861:=0
def tw2173716049708956680:=0
def tw2191504940910473908:=0
def tw2201240103564294188:=0
def tw2228066268753894279:=0
def tw2243522150401257536:=0
def tw2269657845347239271:=0
def tw2271712773935101127:=0
def tw2273941494100541595:=0
def tw2346871559985016054:=0
def tw236424233263858226:=0
def tw2369569549988915798:=0
def tw2391538257304213113:=0
def tw2409856279784680518:=0
def tw2478862238683116199:=0
def tw2544103314473184013:=0
def tw2563245301938209077:=0
def tw2592878564381923297:=0
def tw2686550748156549298:=0
def tw2705404389793608678:=0
def tw2706263547575428270:=0
def tw271480437390139781:=0
def tw2752849501844461155:=0
def tw2760589098959611016:=0
def tw2766635785305271926:=0
def tw2786967217923179099:=0
def tw2942610603049228521:=0
def tw2942711241384086928:=0
def tw2976833701533651934:=0
def tw3009038696557070544:=0
def tw3014253836938056118:=0
def tw3018790774159497566:=0
def tw3042961583699556630:=0
def tw3047845881057126564:=0
def tw3056224023809709013:=0
def tw306931408679916367:=0
def tw3070565612558591092:=0
def tw3079977012632080470:=0
def tw3105459406798874721:=0
def tw3139040663773571401:=0
def tw315095509336542505:=0
def tw3190156035059720639:=0
def tw3248499575522603270:=0
def tw3269801776177043903:=0
def tw327552282136707705:=0
def tw3295787422538807482:=0
def tw3303283095795345520:=0
def tw3353947373745273062:=0
def tw3368890421731535421:=0
def tw3376697730150721338:=0
def tw3401375454196230172:=0
def tw3409059700841843917:=0
def tw34229873612413783:=0
def tw3423397248559614242:=0
def tw3468031527449091144:=0
def tw3479742959813501850:=0
def tw3515180485196266449:=0
def tw3548715515694168209:=0
def tw3566480215325638302:=0
def tw3592414285766560712:=0
def tw3642652259205419134:=0
def tw3705188787741192381:=0
def tw3711522739444113907:=0
def tw3723138142364720518:=0
def tw3749951340006542620:=0
def tw3752323818554055611:=0
def tw3761257275968138618:=0
def tw383464439108350207:=0
def tw3838151663350314378:=0
def tw3856062444731382062:=0
def tw3877903441124066367:=0
def tw3880450928528924056:=0
def tw3910325020972367993:=0
def tw3960429349587414832:=0
def tw3976567720689785926:=0
def tw4105383004700546601:=0
def tw4144446950574597876:=0
def tw4157323618289898268:=0
def tw4202082578242268989:=0
def tw4250065334933937848:=0
def tw4269319167534157065:=0
def tw4273689422730524175:=0
def tw4302486504538085805:=0
def tw4381053056690422455:=0
def tw4424943531127966720:=0
def tw4466714713062936432:=0
def tw4475602927717644740:=0
def tw4626582228064223403:=0
def tw4655298143214987783:=0
def tw4701769281808786446:=0
def tw4770292707983826113:=0
def tw4777689572045131791:=0
def tw4798775431422909614:=0
def tw4865860588142308308:=0
def tw4865905105570944672:=0
def tw4898357045631568582:=0
def tw4913113157675794920:=0
def tw4916819323939456478:=0
def tw4938233368075242115:=0
def tw4950646963000362093:=0
def tw498721165593967339:=0
def tw5042716083254230200:=0
def tw5066962837045777384:=0
def tw5070004360193066534:=0
def tw5095173384617040938:=0
def tw5098276542774628229:=0
def tw5103283923877369019:=0
def tw5117650299759391879:=0
def tw5117806290620806625:=0
def tw5130907065933413672:=0
def tw5144334924416399962:=0
def tw5145565419724630994:=0
def tw5149713855510131906:=0
def tw5159692051020914121:=0
def tw5186350715023301566:=0
def tw5242157398195520289:=0
def tw5295437779419823947:=0
def tw5296010089113143820:=0
def tw5326054910791912985:=0
def tw5355759476369054892:=0
def tw5359604488865719029:=0
def tw5395067790055023197:=0
def tw5409612157291766324:=0
def tw5410644367145842154:=0
def tw5423017506351832613:=0
def tw5450111522638938641:=0
def tw5531983697780938189:=0
def tw5535411021714130446:=0
def tw5683428653610199116:=0
def tw575861260350958123:=0
def tw5799584676640488110:=0
def tw5820074439532521775:=0
def tw5823652726151877111:=0
def tw5835296152996129394:=0
def tw58432862436536215:=0
def tw5843526334708417676:=0
def tw5851013862501362672:=0
def tw5876351887165820976:=0
def tw592687397824152978:=0
def tw592819861446142962:=0
def tw5933826703937317971:=0
def tw5947968170835138528:=0
def tw5956321695264842775:=0
def tw6001690744586645128:=0
def tw6016846717394183825:=0
def tw6024150859138042097:=0
def tw6061424470571747103:=0
def tw6098021191945024081:=0
def tw6107065702386765449:=0
def tw6238286728159093110:=0
def tw6290637169474482868:=0
def tw6334659120698443572:=0
def tw636190551596224214:=0
def tw6369815272950683392:=0
def tw6399083726301877188:=0
def tw6400643384624527024:=0
def tw6404627581662959293:=0
def tw6410885346650780583:=0
def tw6451371693904200609:=0
def tw6492171267777810763:=0
def tw6508743005364973548:=0
def tw654535012576508051:=0
def tw655605190387554576:=0
def tw6567981424078826898:=0
def tw6651782317077071563:=0
def tw6700644258323515725:=0
def tw6726332753448410646:=0
def tw6754468881290860424:=0
def tw6756497717900740480:=0
def tw6757916915363003992:=0
def tw676321444459564816:=0
def tw6775817191440957286:=0
def tw678991756021115251:=0
def tw6796028700926383324:=0
def tw6837749518959543224:=0
def tw6862217673800674694:=0
def tw687106665379965623:=0
def tw6898900276602707775:=0
def tw6925731747406430405:=0
def tw6927050202888215341:=0
def tw695715283532941994:=0
def tw6960629175292762573:=0
def tw6968698161976955525:=0
def tw697555645375876976:=0
def tw698301652594252937:=0
def tw6985627725354843917:=0
def tw6991398917752362156:=0
def tw6997989600879249308:=0
def tw7016939825189321535:=0
def tw7097392928300630051:=0
def tw7121657062915255144:=0
def tw7151796944406704961:=0
def tw7176230395646474007:=0
def tw7177107372283004163:=0
def tw7215030580453632322:=0
def tw7237719697113786387:=0
def tw7253057745897034466:=0
def tw7254803511336039976:=0
def tw730718001370321812:=0
def tw7314973478198818016:=0
def tw7333598483807433242:=0
def tw7347993429436791510:=0
def tw7362899282223796193:=0
def tw737106416024969734:=0
def tw740535009542726488:=0
def tw7442804446334729512:=0
def tw7448510218786279972:=0
def tw7466763217887553554:=0
def tw7470781865211568485:=0
def tw7524073340611056365:=0
def tw7527948983703293934:=0
def tw7549502154022174347:=0
def tw7555729509650352924:=0
def tw755698357514702931:=0
def tw7573084563750928455:=0
def tw7600858948507308043:=0
def tw7606358448569125528:=0
def tw7621226279060736775:=0
def tw7621286347305335504:=0
def tw7633553954818650317:=0
def tw7642118285801618730:=0
def tw7646171552371730955:=0
def tw7652370392053958513:=0
def tw7661030707812676831:=0
def tw7705462528186135701:=0
def tw7745045684448904386:=0
def tw775642285024255540:=0
def tw7762509995656092702:=0
def tw7863876159681506133:=0
def tw7868869270526373922:=0
def tw7910125606735816494:=0
def tw7925137265635816840:=0
def tw7940256747484335397:=0
def tw7952503460073905028:=0
def tw7955602950193928534:=0
def tw799791160500788978:=0
def tw8021039539082454448:=0
def tw8052527619893655661:=0
def tw8118801073397685905:=0
def tw8209555415884881692:=0
def tw8210678009019053071:=0
def tw8225607596401255081:=0
def tw8250546287061699998:=0
def tw8263843095469273938:=0
def tw8310190685164018509:=0
def tw8328160120116356374:=0
def tw8350247522112941706:=0
def tw8377962367036850454:=0
def tw8385415011204501592:=0
def tw8389017308398972324:=0
def tw8398316169141793924:=0
def tw8402656724439484454:=0
def tw8426307329694047848:=0
def tw8438861729345933360:=0
def tw8500713116826177686:=0
def tw8513927614033319701:=0
def tw8557061359448856880:=0
def tw8615312218609105789:=0
def tw8622086091904685022:=0
def tw8627741087402149887:=0
def tw8643549171844305119:=0
def tw8685941480544661977:=0
def tw868964917842347272:=0
def tw8744045267255983714:=0
def tw8758872252874040705:=0
def tw8813346421696973586:=0
def tw8818033973085862186:=0
def tw8823191371666259095:=0
def tw8852042577087785872:=0
def tw8889881907559919639:=0
def tw8905741613853392987:=0
def tw8915294879832616177:=0
def tw8934738251943865213:=0
def tw8936196991797828542:=0
def tw8978218056066493207:=0
def tw8983621087162061486:=0
def tw8990169946946485404:=0
def tw8991786945194728177:=0
def tw9062738471078778952:=0
def tw9065246656693645431:=0
def tw9083677704670401412:=0
def tw9110849022440077105:=0
def tw9112746223156066932:=0
def tw9116512943404694236:=0
def tw911985241177817465:=0
def tw9185661992250896853:=0
def tw9187088246954313819:=0
def tw91898591113241899:=0
def tw9233019068989095026:=0
def tw9288481630114698353:=0
def tw9288659153738484892:=0
def tw9306582946619206498:=0
def tw9430662374281669000:=0
def tw9466271765203401587:=0
def tw9534364967969816849:=0
def tw9557505340500442728:=0
def tw957024529950418336:=0
def tw9585362552010567887:=0
def tw9593222343672215673:=0
def tw9598197591588198706:=0
def tw9641312022913910869:=0
def tw9674099357300103946:=0
def tw9704900810102823022:=0
def tw9729310369188859976:=0
def tw9736635106499111354:=0
def tw975712276709122232:=0
def tw9762815034136051741:=0
def tw9764599803240075933:=0
def tw9772257898089429107:=0
def tw9899837158462595994:=0
def tw9916261263557316031:=0
def tw994292588036798494:=0
def tw9943329526144058814:=0
def tw996785121266414252:=0
def tw9989439757664311773:=0
end PySem.W.Fast
open PySem PySem.W PyProof.Rows
local macro_rules | `(tactic| walk_at "ki")=>`(tactic| first | k_is | skip)
local macro_rules | `(tactic| walk_at "kf")=>`(tactic| (refine' L2.fun_mk ?_ ?_ ?_<;>walk_at "ki"))
local macro_rules | `(tactic| walk_at "kk")=>`(tactic| first
 | k_is
 | walk_at "kf"
 | (refine' L2.ExcC.mk ?_ ?_ ?_ (DM.isSm ?_) ?_ ?_ ?_ ?_ ?_;k_exc;all_goals walk_at "ki")
 | (refine' L2.Cls.mk ?_ ?_ ?_ ?_<;>k_is)
 | (refine' DM.Own.mk ?_ ?_ ?_ ?_<;>k_is)
 | (with_reducible exact rfl)
 | (unfold L2.NoAttr;k_is)
 | skip)
set_option maxRecDepth 100000 in
set_option maxHeartbeats 0 in
theorem PySem.Challenge.cw_dipmaps_k30_no_day_holds : PySem.Challenge.rw_dipmaps_k30_no_day.Holds := by
 w_on;o_law;k_head;(case hw=>w_witness2)
 k_fill
 refine DM.walk (l:=PySem.Challenge.rw_dipmaps_k30_no_day) rfl rfl (fun w h Y=>PySem.W.kIn_of Y) ?F
 case F =>
   intro w mg fa h KX G hmg;refine' DM.all_mk KX G hmg ..
   all_goals (try (refine' And.intro ?_ ?_))
   all_goals (try unfold DM.Gn)
   all_goals (try (refine' L2.Meth.mk ?_ ?_ ?_))
   all_goals (try walk_at "kk")
   all_goals (intro X;refine' DM.Bits.mk X rfl ?_ (DM.bits12 ?_ ?_ ?_ ?_ ?_ ?_ ?_ ?_ ?_ ?_ ?_ ?_) ?_)
   all_goals (first | kit_is | kts_exm)
