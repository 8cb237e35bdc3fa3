import PyProof.Rows.All
import Wide.All
import OpenK.AllK
import Wide.FinOn
import Lean
import PyProof.EqAt
import PyProof.EqKinds
import PyProof.TupleCall
import PySem.Challenge.RW_dipmaps_k38_whole_days
set_option Elab.async false
set_option linter.all false
set_option compiler.extract_closed false
noncomputable section
set_option maxRecDepth 100000
local macro:max "§" x:term:max : term => `(some (.ref $x))
local macro:max "¢" x:term:max : term => `(some (.str $x))
local macro:max "£" x:term:max : term => `(some (.int $x))
local macro:max "¿" : term => `((fun _ _ => rfl))
local macro:max "®" : term => `(⟨rfl, rfl, rfl, by decide +kernel, rfl, by decide +kernel, by decide +kernel⟩)
local macro:max "¶" x:str : term => `(PySem.Str.ofString $x)
local macro "w" : tactic => `(tactic| walk_at "dm")
local macro "h" x:Lean.Parser.Term.letDecl : tactic => `(tactic| have $x:letDecl)
local macro "þ" i:Lean.Parser.Command.declId s:Lean.Parser.Command.declSig v:Lean.Parser.Command.declVal : command => `(command| theorem $i:declId $s:declSig $v:declVal)
open List renaming length_map→be,getElem?_eq_getElem→zJ,getElem?_map→zK,length_append→zL,getD_eq_getElem?_getD→zM,mem_of_getElem?→zO,getElem?_append_right→zP,map_append→zQ,length_singleton→zR,range→zS,getElem?_append_left→zU,mem_cons_self→zV,size_toArray→zW,mem_cons_of_mem→zX,replicate→zY,map_cons→z8,length_take→Aa,dropLast_concat_getLast→Ac,mem_append_right→Ae,lookup→Af,lookup_cons→Ah,mem_map_of_mem→Aj,map_map→Ao,not_mem_nil→Aq,length_cons→Av,mem_cons→Az,take_of_length_le→AC,take_length→AE,getElem?_of_mem→AF,getLast?_eq_some_getLast→AH,length_dropLast→AI,append_nil→AK,getElem_mem→AM,filter_append→AQ,mem_append_left→AR,length_drop→AU,filter_cons_of_pos→AV,length_range→AW,length_filter_le→AZ,zip_cons_cons→A1,find?_cons→A5,getElem?_eq_none→A9,dropLast_sublist→Ba,range_succ→Bb,filter_nil→Bc,append_assoc→Be,map_nil→Bf,any_cons→Bg,replicate_succ→Bh,pairwise_singleton→Bl,getLast_eq_getElem→Bn,map_singleton→Bp,length_zip→Bq,take_sublist→Br,take_succ→Bs,pairwise_append→Bt,mem_of_mem_take→Bu,perm_ext_iff_of_nodup→Bw,filterMap_cons→Bz,length_erase_of_mem→BA,foldl_cons→BB,nodup_cons→BD,filter_cons_of_neg→BE,getElem?_set_self→BF,flatten_cons→BH,length_pos_of_mem→BI,filter_eq_nil_iff→BK,dropLast_eq_take→BM,getElem?_set_ne→BO,mem_erase_of_ne→BP,length_nil→BR,forIn_cons→BS,getElem?_range→BW,getElem?_drop→B5,getElem?_take→B6,length→B9,foldl_append→Cb,ext_getElem?→Cd,all_cons→Ce,of_mem_zip→Cn,length_set→Co,nodup_nil→Cr,all_map→Cv,foldl→Cz
open Nat renaming le_refl→zN,ne_of_lt→z6,lt_of_lt_of_le→z9,sub_self→Ay,zero_le→AA,le_trans→AB,lt_succ_of_lt→A2,lt_irrefl→A7,lt_succ_self→Bj,ne_of_gt→BG,lt_of_succ_lt→BJ,lt_of_le_of_lt→B3,le_of_not_lt→Cg,le_add_right→Ch,le_of_lt→Ci,le_succ→Cp,le_of_eq→Cu,min_self→Cw,succ_pos→Cy
open PySem renaming boot_len→zT,mem_of_lookup→AX,call→CA
open PySem.F renaming excBase_ValueError→zZ,plainAttrs_list→Ak,slot_list_append→Aw,type_list_append→Ax
open Array renaming getElem?_eq_getElem→z7,length_toList→Ap,getD_eq_getD_getElem?→Au,getElem?_toList→AY
open PySem.W renaming kitOne→Ab,mg_of→Ag,mg_none_of→Ai,nsIn→Am,kia_one→AJ,emptyDict→AN,findIn→AO,instObj→A4,keepIn→A8,fnOf→Bo,methodCall_KW→BL,plainGet→BN,makesIn→BQ,hideAll_get→BU,plainGet_of→BV,lookIn→BZ,callWith_K→B1,methodObj→B7,hasDictIn→B8,takerIn→Ck,codeIn→Cq,excIn→Cs,isFn→Ct
open PyProof.Rows renaming sortedS→Al,callWith_type1→A6
open Int renaming toNat_natCast→An,emod_lt_of_pos→AG,emod_nonneg→AL,eq_ofNat_of_zero_le→A3,toNat→Bm,le_refl→Bv,toNat_of_nonneg→BX,le_trans→Cj
open Option renaming getD_some→Bx,map_some→BC,isSome_map→Ca,getD_none→Cf
local macro "e " x:term : tactic => `(tactic| exact $x)
local macro "r " x:term : tactic => `(tactic| refine $x)
local macro "d" : tactic => `(tactic| decide +kernel)
set_option hygiene false in
local macro "m" : tactic => `(tactic| first | exact Nat.le_trans (by decide) hs | decide | omega)
local macro "o " p:Lean.Parser.Tactic.rcasesPatMed " := " x:term : tactic => `(tactic| obtain $p:rcasesPatMed := $x)
namespace L2
open PySem PySem.Spec PyProof.Rows
abbrev Key:=Sum Int Str
noncomputable def jd:Key→Value→Bool
 | .inl k,v=>Value.isInt k v
 | .inr x,v=>Value.isStrOf x v
noncomputable def zG (w:World):Key→Int
 | .inl k=>hashInt k
 | .inr x=>hashStr w x
þ bH:∀ {k:Key}{v:Value},jd k v=true→(∃ i t,k=Sum.inl i∧v=Value.int i t)∨(∃ x t,k=Sum.inr x∧v=Value.str x t)
 | .inl i,v,h=>by
   o⟨t,e⟩:=Value.isInt_shape (k:=i) (v:=v) h;e .inl ⟨i,t,rfl,e⟩
 | .inr x,v,h=>by
   o⟨t,e⟩:=Value.isStrOf_shape (x:=x) (v:=v) h;e .inr ⟨x,t,rfl,e⟩
þ sR (i:Int)(t:Tok):jd (.inl i) (.int i t)=true:=by simp[jd,Value.isInt]
þ sO (x:Str)(t:Tok):jd (.inr x) (.str x t)=true:=by simp[jd,Value.isStrOf]
þ yk (a b:Int):decide ((Sum.inl a:Key)=Sum.inl b)=(a==b):=by
 by_cases e:a=b
 . subst e;simp
 . h h:¬(Sum.inl a:Key)=Sum.inl b:=fun q=>e (Sum.inl.inj q);rw[decide_eq_false h];e(beq_eq_false_iff_ne.mpr e).symm
þ yh (a b:Str):decide ((Sum.inr a:Key)=Sum.inr b)=decide (a=b):=by
 by_cases e:a=b
 . subst e;simp
 . h h:¬(Sum.inr a:Key)=Sum.inr b:=fun q=>e (Sum.inr.inj q);rw[decide_eq_false h,decide_eq_false e]
þ yE (a:Int) (b:Str):decide ((Sum.inl a:Key)=Sum.inr b)=false:=decide_eq_false (fun q=>nomatch q)
þ yG (a:Str) (b:Int):decide ((Sum.inr a:Key)=Sum.inl b)=false:=decide_eq_false (fun q=>nomatch q)
noncomputable def bL (prog:Program)(w:World):PySem.KeyKind prog w Key where
 is:=jd
 hash:=zG w
 inj:=fun v a b ha hb=>by
   rcases bH ha with ⟨i,t,rfl,rfl⟩ | ⟨x,t,rfl,rfl⟩
   . rcases bH hb with ⟨j,u,rfl,e⟩ | ⟨y,u,rfl,e⟩
     . injection e with e1 _;rw[e1]
     . e nomatch e
   . rcases bH hb with ⟨j,u,rfl,e⟩ | ⟨y,u,rfl,e⟩
     . e nomatch e
     . injection e with e1 _;rw[e1]
 byValue:=fun k v h=>by
   rcases bH h with ⟨i,t,rfl,rfl⟩ | ⟨x,t,rfl,rfl⟩<;>rfl
 pyHash:=fun hv h=>by
   rcases bH hv with ⟨i,t,rfl,rfl⟩ | ⟨x,t,rfl,rfl⟩
   . e wpAny_pyHash_int h
   . e wpAny_pyHash_str h
 eqBool:=fun hu hv h=>by
   rcases bH hu with ⟨i,t,rfl,rfl⟩ | ⟨x,t,rfl,rfl⟩
   . rcases bH hv with ⟨j,u,rfl,rfl⟩ | ⟨y,u,rfl,rfl⟩
     . rw[yk] at h;e wpAny_eqBool_int h
     . rw[yE] at h;e SeqAt.EqAt.int_str i t y u _ _ _ _ h
   . rcases bH hv with ⟨j,u,rfl,rfl⟩ | ⟨y,u,rfl,rfl⟩
     . rw[yG] at h;e SeqAt.EqAt.str_int x t j u _ _ _ _ h
     . rw[yh] at h;e wpAny_eqBool_str h
 «strs»:=fun k x t v h=>by
   rcases bH h with ⟨i,u,rfl,e⟩ | ⟨y,u,rfl,e⟩
   . e nomatch e
   . injection e with e1 _
     subst e1;cases v<;>rfl
þ nW (prog:Program)(w:World) (i:Int)(t:Tok):(bL prog w).is (.inl i) (.int i t)=true:=sR i t
þ i9 (prog:Program)(w:World) (x:Str)(t:Tok):(bL prog w).is (.inr x) (.str x t)=true:=sO x t
inductive V where
 | non | bl (b:Bool) | int (i:Int) | str (x:Str) | byt (b:Array UInt8) | flt (b:UInt64) | ref (a:Addr) | ty (n:String)
 deriving DecidableEq
noncomputable def bd:V→Value→Prop
 | .non,u=>u=Value.none
 | .bl b,u=>u=Value.bool b
 | .int i,u=>∃ t,u=Value.int i t
 | .str x,u=>∃ t,u=Value.str x t
 | .byt b,u=>∃ t,u=Value.bytes b t
 | .flt b,u=>∃ t,u=Value.float b t
 | .ref a,u=>u=Value.ref a
 | .ty n,u=>u=Value.type n
abbrev Vals:List V→List Value→Prop:=Paired bd
þ Vals.length {xs:List V}{us:List Value}(r:Vals xs us):xs.length=us.length:=Paired.length r
þ Vals.get:∀ {xs:List V}{us:List Value}{i:Nat}{x:V},Vals xs us→xs[i]?=some x→∃ u,us[i]?=some u∧bd x u
 | _,_,_,_,.nil,e=>by simp at e
 | _,_,0,_,.cons r _,e=>by simp at e;subst e;e⟨_,rfl,r⟩
 | _,_,i+1,x,.cons _ t,e=>by
   o⟨u,h1,h2⟩:=Vals.get (i:=i) (x:=x) t (by simpa using e);e⟨u,by simpa using h1,h2⟩
þ Vals.set {x:V}{u:Value}(r:bd x u):∀ {xs:List V}{us:List Value} (i:Nat),Vals xs us→Vals (xs.set i x) (us.set i u)
 | _,_,_,.nil=>.nil
 | _,_,0,.cons _ t=>.cons r t
 | _,_,i+1,.cons q t=>.cons q (Vals.set r i t)
þ Vals.append:∀ {xs ys:List V}{us ws:List Value},Vals xs us→Vals ys ws→Vals (xs++ys) (us++ws)
 | _,_,_,_,.nil,s=>s
 | _,_,_,_,.cons r t,s=>.cons r (Vals.append t s)
þ Vals.take:∀ {xs:List V}{us:List Value} (n:Nat),Vals xs us→Vals (xs.take n) (us.take n)
 | _,_,0,_=>.nil
 | _,_,_+1,.nil=>.nil
 | _,_,n+1,.cons r t=>.cons r (Vals.take n t)
þ Vals.drop:∀ {xs:List V}{us:List Value} (n:Nat),Vals xs us→Vals (xs.drop n) (us.drop n)
 | _,_,0,r=>r
 | _,_,_+1,.nil=>.nil
 | _,_,n+1,.cons _ t=>Vals.drop n t
noncomputable def gw:Option V→Option Value→Prop
 | some v,some u=>bd v u
 | none,none=>True
 | _,_=>False
noncomputable def KV {κ:Type}:List (κ×V)→List (κ×Value)→Prop:=Paired fun(p:κ×V)(q:κ×Value)=>p.1=q.1∧bd p.2 q.2
noncomputable def kV:Key→V
 | .inl i=>.int i
 | .inr x=>.str x
inductive HO where
 | lst (xs:List V)
 | tup (xs:List V)
 | dK (kvs:List (Key×V)) | dT (kvs:List (List Key×V))
 | set (S:Int→Bool) (n:Nat)
 | ins (C dx:Addr)(fs:List (Str×V))
 | own (x:Addr)
 | xd (fs:List (Str×V))
 | met (f x:Addr)
 | rng (lo hi:Int)
 | frz (o:Obj)(u:HO)
 | tbl (ps:Array Value)
 | ext (φ:Heap→Prop)
abbrev Hp:=Addr→Option HO
noncomputable def upd (H:Hp)(a:Addr)(o:HO):Hp:=fun b=>if b=a then some o else H b
þ ac {H:Hp}{a:Addr}{o:HO}:upd H a o a=some o:=by unfold upd;rw[if_pos rfl]
þ ai {H:Hp}{a b:Addr}{o:HO}(h:b≠a):upd H a o b=H b:=by unfold upd;rw[if_neg h]
þ ic {H:Hp}{a:Addr}{o u:HO}:upd (upd H a o) a u=upd H a u:=by
 funext b;unfold upd;split<;>rfl
þ yO {H:Hp}{a b:Addr}{o u:HO}(h:H a=some o)(h':H b=some u)(d:o≠u):a≠b:=by
 intro e;subst e;rw[h] at h';e d (Option.some.inj h')
þ aF {H:Hp}{a b:Addr}{o:HO}(h:H a=some o)(h':H b=none):a≠b:=by
 intro e;subst e;rw[h] at h';cases h'
section
variable (P:Program)(w:World)
noncomputable def bR (H:Hp)(h:Heap)(a:Addr):HO→Prop
 | .lst xs=>xs.length≤sizeLine∧∃ (its:List Value) (n:Nat),Vals xs its∧h.get? a=some { cls:=.type "list",data:=.seq its.toArray n }
 | .tup xs=>xs.length≤sizeLine∧∃ its:List Value,Vals xs its∧IsTup h a its.toArray
 | .dK kvs=>kvs.length≤sizeLine∧(a==sysModules)=false∧∃ vs,KV kvs vs∧h.DictOf (bL P w) a vs
 | .dT kvs=>kvs.length≤sizeLine∧(a==sysModules)=false∧∃ xs:List (List Key×Addr×Value),
     Paired (fun(p:List Key×V)(q:List Key×Addr×Value)=>p.1=q.1∧H q.2.1=some (.tup (p.1.map kV))∧bd p.2 q.2.2) kvs xs ∧
     ∃ o es ep,h.get? a=some o∧o.ExactDict∧o.data=.dict es ep∧es.toList=xs.map (entryOfKey (tupleKind (bL P w)))∧(xs.map (·.1)).Nodup
 | .set S n=>h.SetOf (intKind P w) a S n
 | .ins C dx fs=>H dx=some (.own a)∧fs.length≤1000∧dx≠a∧h.get? a=some (A4 C dx) ∧
     ∃ mA,h.Ns1 dx mA∧(∀ f,gw (fs.lookup f) (mA f))∧PySem.Within mA (fs.map (·.1))
 | .own _=>∃ o,h.get? a=some o
 | .xd fs=>∃ mA,h.Ns1 a mA∧∀ f,gw (fs.lookup f) (mA f)
 | .rng lo hi=>∃ t u v,h.get? a=some { cls:=.type "range",data:=.fields #[.int lo t,.int hi u,.int 1 v] }
 | .frz o u=>h.get? a=some o∧bR H h a u
 | .tbl ps=>h.get? a=some { cls:=.none,data:=.fields ps }
 | .met f x=>h.get? a=some (B7 (.ref f) (.ref x))
 | .ext φ=>φ h∧(∃ o,h.get? a=some o)∧∀ h1 h2:Heap,φ h1→(∀ o,h1.get? a=some o→h2.get? a=some o)→φ h2
noncomputable def HOk (H:Hp)(h:Heap):Prop:=∀ a o,H a=some o→bR P w H h a o
end
section
variable {P:Program}{w:World}{H H':Hp}{h h':Heap}{a:Addr}{o:HO}
þ bR.lt (x:bR P w H h a o):a < h.objs.size:=by
 cases o with
 | lst xs=>o⟨_,_,_,_,e⟩:=x;e Heap.lt_size e
 | tup xs=>o⟨_,_,_,p⟩:=x;e p.lt
 | dK kvs=>o⟨_,_,_,_,o,_,_,e,_⟩:=x;e Heap.lt_size e
 | dT kvs=>o⟨_,_,_,_,o,_,_,e,_⟩:=x;e Heap.lt_size e
 | set S n=>o⟨o,_,_,_,e,_⟩:=x;e Heap.lt_size e
 | ins C dx fs=>o⟨_,_,_,e,_⟩:=x;e Heap.lt_size e
 | own y=>o⟨_,e⟩:=x;e Heap.lt_size e
 | xd fs=>o⟨_,⟨_,_,_,e,_⟩,_⟩:=x;e Heap.lt_size e
 | rng lo hi=>o⟨_,_,_,e⟩:=x;e Heap.lt_size e
 | frz ob u=>o⟨e,_⟩:=x;e Heap.lt_size e
 | tbl ps=>e Heap.lt_size (show h.get? a=some _ from x)
 | met f y=>e Heap.lt_size (show h.get? a=some _ from x)
 | ext φ=>o⟨_,⟨_,e⟩,_⟩:=x;e Heap.lt_size e
þ Paired.mapP {α β:Type}{F G:α→β→Prop}:∀ {l₁:List α}{l₂:List β},Paired F l₁ l₂→(∀ a b,F a b→G a b)→Paired G l₁ l₂
 | _,_,.nil,_=>.nil
 | _,_,.cons r t,f=>.cons (f _ _ r) (Paired.mapP t f)
þ bR.stay (x:bR P w H h a o)(k:∀ b u,(b=a∨H b=some (.own a))→h.get? b=some u→h'.get? b=some u)
   (ho:∀ b,H b=some (.own a)→H' b=some (.own a))(ht:∀ b xs,H b=some (.tup xs)→H' b=some (.tup xs)):bR P w H' h' a o:=by
 induction o with
 | lst xs=>o⟨z,its,n,r,e⟩:=x;e⟨z,its,n,r,k _ _ (.inl rfl) e⟩
 | tup xs=>o⟨z,its,r,ob,e,c⟩:=x;e⟨z,its,r,ob,k _ _ (.inl rfl) e,c⟩
 | dK kvs=>o⟨z,y,vs,r,ob,es,ep,e,c⟩:=x;e⟨z,y,vs,r,ob,es,ep,k _ _ (.inl rfl) e,c⟩
 | dT kvs =>
   o⟨z,y,xs,r,ob,es,ep,e,c⟩:=x;e⟨z,y,xs,Paired.mapP r fun p q z=>⟨z.1,ht _ _ z.2.1,z.2.2⟩,ob,es,ep,k _ _ (.inl rfl) e,c⟩
 | set S n=>o⟨ob,es,ep,t,e,c⟩:=x;e⟨ob,es,ep,t,k _ _ (.inl rfl) e,c⟩
 | ins C dx fs =>
   o⟨d,z,ne,e,mA,⟨od,es,ep,e2,c⟩,r⟩:=x;e⟨ho _ d,z,ne,k _ _ (.inl rfl) e,mA,⟨od,es,ep,k _ _ (.inr d) e2,c⟩,r⟩
 | own y=>o⟨ob,e⟩:=x;e⟨ob,k _ _ (.inl rfl) e⟩
 | xd fs=>o⟨mA,⟨od,es,ep,e,c⟩,r⟩:=x;e⟨mA,⟨od,es,ep,k _ _ (.inl rfl) e,c⟩,r⟩
 | rng lo hi=>o⟨t,u,v,e⟩:=x;e⟨t,u,v,k _ _ (.inl rfl) e⟩
 | frz ob u ih=>o⟨e,q⟩:=x;e⟨k _ _ (.inl rfl) e,ih q⟩
 | tbl ps =>
   h e:h.get? a=some { cls:=.none,data:=.fields ps }:=x;show h'.get? a=some { cls:=.none,data:=.fields ps };e k a _ (.inl rfl) e
 | met f y =>
   h e:h.get? a=some (B7 (.ref f) (.ref y)):=x;show h'.get? a=some (B7 (.ref f) (.ref y));e k a _ (.inl rfl) e
 | ext φ=>o⟨p,⟨o,e⟩,st⟩:=x;e⟨st _ _ p fun o q=>k _ _ (.inl rfl) q,⟨o,k _ _ (.inl rfl) e⟩,st⟩
þ HOk.lt (x:HOk P w H h)(e:H a=some o):a < h.objs.size:=(x a o e).lt
þ HOk.fresh (x:HOk P w H h)(e:h.objs.size≤a):H a=none:=by
 cases q:H a with
 | none=>rfl
 | some u=>e absurd (z9 (x.lt q) e) (A7 _)
þ HOk.kept (x:HOk P w H h)(k:∀ b u,h.get? b=some u→h'.get? b=some u):HOk P w H h':=fun a o e =>
 (x a o e).stay (fun b u _ q=>k b u q) (fun _ q=>q) fun _ _ q=>q
þ HOk.laid (x:HOk P w H h)(k:∀ b u,h.get? b=some u→h'.get? b=some u)(hp:h.objs.size≤a)(new:bR P w (upd H a o) h' a o):HOk P w (upd H a o) h':=fun b u e=>by
 h hn:=x.fresh hp;by_cases hb:b=a
 . subst hb;rw[ac] at e;cases e;e new
 . rw[ai hb] at e
   e(x b u e).stay (fun c v _ q=>k c v q) (fun c q=>by rw[ai (aF q hn)];e q) fun c xs q=>by rw[ai (aF q hn)];e q
end
noncomputable def Rd (H:Hp)(a:Addr)(u:HO):Prop:=H a=some u∨∃ o,H a=some (.frz o u)
þ Rd.ok {P:Program}{w:World}{H:Hp}{h:Heap}{a:Addr}{u:HO}(r:Rd H a u)(x:HOk P w H h):bR P w H h a u:=by
 rcases r with r | ⟨o,r⟩
 . e x a u r
 . o⟨_,q⟩:=x a _ r;e q
noncomputable def Mut:Option HO→Prop
 | some (.lst _)=>True
 | some (.dK _)=>True
 | some (.dT _)=>True
 | some (.set _ _)=>True
 | some (.ins _ _ _)=>True
 | some (.ext _)=>True
 | _=>False
section
variable {P:Program}{w:World}{H:Hp}{h h':Heap}{x e:Addr}{o':HO}
þ HOk.write (ok:HOk P w H h)(mu:Mut (H x))(he:e=x∨H e=some (.own x))(k:∀ b u,b≠e→h.get? b=some u→h'.get? b=some u)(heo:∃ u,h'.get? e=some u)
   (new:bR P w (upd H x o') h' x o'):HOk P w (upd H x o') h':=fun b u q=>by
 h nown:∀ c y,H c=some (.own y)→c≠x:=fun c y r z=>by subst z;rw[r] at mu;e mu
 h ntup:∀ c xs,H c=some (.tup xs)→c≠x:=fun c xs r z=>by subst z;rw[r] at mu;e mu
 by_cases hb:b=x
 . subst hb;rw[ac] at q;cases q;e new
 . rw[ai hb] at q;by_cases hbe:b=e
   . h q':H b=some (.own x):=by
       rcases he with z | z
       . e absurd (hbe.trans z) hb
       . rw[hbe];e z
     rw[q] at q';cases q';o⟨v,hv⟩:=heo;e⟨v,by rw[hbe];e hv⟩
   . r(ok b u q).stay (fun c v hc r=>k c v ?_ r) (fun c r=>by rw[ai (nown c b r)];e r) fun c xs r=>by rw[ai (ntup c xs r)];e r
     rcases hc with rfl | hc
     . e hbe
     . rintro rfl
       rcases he with z | z
       . e nown c b hc z
       . rw[hc] at z;cases z;e hb rfl
end
structure Un (fs ex:List Addr)(H H':Hp)(h h':Heap):Prop where
 keep:∀ b o,h.get? b=some o→H b=none→b∉fs→b∉ex→h'.get? b=some o
 slot:∀ b o,h.get? b=some o→H b=none→b∈fs→b∉ex→∃ sl,h'.get? b=some { o with slots:=sl }
 free:∀ b o,h.get? b=some o→H b=none→b∉ex→H' b=none
 there:∀ b o,h.get? b=some o→b∉ex→∃ o',h'.get? b=some o'
 tups:∀ b xs,H b=some (.tup xs)→H' b=some (.tup xs)
 frzs:∀ b o u,H b=some (.frz o u)→H' b=some (.frz o u)
 tbls:∀ b ps,H b=some (.tbl ps)→∃ more,H' b=some (.tbl (ps++more))
section
variable {fs fs' ex ex':List Addr}{H H1 H2:Hp}{h h1 h2 h':Heap}{a x e:Addr}{o:HO}
þ Un.any (u:Un fs ex H H1 h h1){b:Addr}{ob:Obj}(q:h.get? b=some ob)(n:H b=none)(hx:b∉ex):∃ sl,h1.get? b=some { ob with slots:=sl }:=by
 by_cases hb:b∈fs
 . e u.slot b ob q n hb hx
 . e⟨ob.slots,u.keep b ob q n hb hx⟩
þ Un.kept (k:∀ b u,h.get? b=some u→h'.get? b=some u):Un fs ex H H h h' :=
 ⟨fun b ob q _ _ _=>k b ob q,fun b ob q _ _ _=>⟨ob.slots,k b ob q⟩,fun _ _ _ n _=>n,fun b ob q _=>⟨ob,k b ob q⟩,fun _ _ q=>q,fun _ _ _ q=>q,fun _ ps q=>⟨#[],by rw[q];simp⟩⟩
þ Un.refl:Un fs ex H H h h:=Un.kept fun _ _ q=>q
þ Un.laid (k:∀ b u,h.get? b=some u→h'.get? b=some u)(hp:h.objs.size≤a)(hn:H a=none):Un fs ex H (upd H a o) h h' where
 keep:=fun b u q _ _ _=>k b u q
 slot:=fun b u q _ _ _=>⟨u.slots,k b u q⟩
 free:=fun b u q n _=>by rw[ai (z6 (z9 (Heap.lt_size q) hp))];e n
 there:=fun b u q _=>⟨u,k b u q⟩
 tups:=fun b xs q=>by rw[ai (aF q hn)];e q
 frzs:=fun b u xs q=>by rw[ai (aF q hn)];e q
 tbls:=fun b ps q=>⟨#[],by rw[ai (aF q hn),q];simp⟩
þ Un.write (mu:Mut (H x))(he:e=x∨H e=some (.own x))(k:∀ b u,b≠e→h.get? b=some u→h'.get? b=some u)(heo:∃ u,h'.get? e=some u):Un fs ex H (upd H x o) h h':=by
 h hx:∀ b,H b=none→b≠x:=fun b n z=>by subst z;rw[n] at mu;e mu
 h hb:∀ b,H b=none→b≠e:=fun b n z=>by
   subst z
   rcases he with r | r
   . e hx b n r
   . rw[n] at r;cases r
 h hm:∀ b u,H b=some u→¬Mut (some u)→b≠x:=fun b u q nm z=>by subst z;rw[q] at mu;e nm mu
 r⟨fun b u q n _ _=>k b u (hb b n) q,fun b u q n _ _=>⟨u.slots,k b u (hb b n) q⟩,fun b u q n _=>by rw[ai (hx b n)];e n,fun b u q _=>?_,
   fun b xs q=>by rw[ai (hm b _ q fun z=>z)];e q,fun b u xs q=>by rw[ai (hm b _ q fun z=>z)];e q,fun b ps q=>⟨#[],by rw[ai (hm b _ q fun z=>z),q];simp⟩⟩
 by_cases hbe:b=e
 . subst hbe;e heo
 . e⟨u,k b u hbe q⟩
end
noncomputable def trk (h:Heap)(H:Hp):List Addr:=(zS h.objs.size).filter fun a=>(H a).isSome
noncomputable def nc (h:Heap)(H:Hp):Heap:=PySem.W.hideAll h (trk h H)
þ sE (h:Heap)(H:Hp):(nc h H).objs.size=h.objs.size:=PySem.W.hideAll_size _ _
þ ua {h:Heap}{H:Hp}{b:Addr}{o:Obj}(e:h.get? b=some o)(n:H b=none):(nc h H).get? b=some o :=
 BU _ e fun hm=>by
   h q:(H b).isSome=true:=(List.mem_filter.mp hm).2;rw[n] at q;simp at q
þ wN {h:Heap}{H:Hp}{b:Addr}{o:Obj}(e:(nc h H).get? b=some o):h.get? b=some o∧H b=none:=by
 h e':h.get? b=some o:=PySem.W.of_hideAll (trk h H) e;r⟨e',?_⟩
 cases q:H b with
 | none=>rfl
 | some x =>
   h hm:b∈trk h H:=List.mem_filter.mpr ⟨List.mem_range.mpr (Heap.lt_size e'),by simp[q]⟩;h z:(nc h H).get? b=none:=PySem.W.hideAll_none (trk h H) hm;rw[z] at e;cases e
noncomputable def xb (g h:Heap)(L:Addr):List (Addr×Obj):=(zS h.objs.size).filterMap fun a=>if a=L∨(g.get? a).isSome=true then none else(h.get? a).map fun o=>(a,o)
noncomputable def cD (g h:Heap)(L d:Addr):List (Addr×Obj):=(xb g h L).filter fun p=>decide (p.1≠d)
structure Mod (K:PySem.W.Frag)(mg:Str→Option Value)(base:Heap):Prop where
 kin:K.In base
 glob:base.Ns mainGlobals mg
 blt:∃ mb,base.Ns builtinsNs mb∧∀ x:Str,x≠"__name__"→mb x=bootBuiltins x
 nolimit:base.NoLimit
structure Cx where
 prog:Program
 w:World
 K:PySem.W.Frag
 mg:Str→Option Value
 base:Heap
 A:Around
 N:List Str
 s₀:Shared
 H₀:Hp
 env:Env
 outer:List Env
 stack:List Env
 ex:List Addr
 fn:Str→Bool
 calm:Bool
 pn:List (Addr×Obj)
 xe:Value→Shared→Prop
noncomputable def frs (l:List Env):List Addr:=l.filterMap (·.frame)
abbrev Cx.fs (X:Cx):List Addr:=frs X.outer
noncomputable def Vis (sc:Scope) (x:Str):Prop:=sc.names.lookup x=some .local∨sc.names.lookup x=some .cell∨sc.names.lookup x=some .free
noncomputable def Loc (sc:Scope) (x:Str):Prop:=sc.names.lookup x=some .local∨sc.names.lookup x=some .cell
noncomputable def zE (env:Env)(h:Heap)(m:Str→Option Value) (x:Str) (u:Value):Prop :=
 (env.kindOf x=some .local∧m x=some u)∨((env.kindOf x=some .cell∨env.kindOf x=some .free)∧∃ c,env.cells.lookup x=some c∧h.IsCell c (some u))
structure Cx.Ok (X:Cx):Prop where
 mod:Mod X.K X.mg X.base
 kind:X.env.scope.kind=.function
 glob:X.env.globals=mainGlobals
 blt:X.env.builtins=builtinsNs
 above:X.s₀.heap.objs.size≤X.env.locals
 inj:∀ x y c,X.env.cells.lookup x=some c→X.env.cells.lookup y=some c→x=y
 has:∀ x,(X.env.kindOf x=some .cell∨X.env.kindOf x=some .free)→∃ c,X.env.cells.lookup x=some c
 cab:∀ x c,X.fn x=true→X.env.cells.lookup x=some c→X.s₀.heap.objs.size≤c
 hd:X.calm=true→X.A.handled=none
 frames:X.A.frames=some X.stack
 stk:X.stack=X.outer∨(X.stack=X.env::X.outer∧X.env.frame=some X.env.locals)
 exf:∀ b∈X.ex,b≠X.env.locals∧∀ x c,X.env.cells.lookup x=some c→c≠b
 bs:∀ b o,X.base.get? b=some o→X.s₀.heap.get? b=some o∧X.H₀ b=none
 bsz:X.base.objs.size≤X.s₀.heap.objs.size
 noex:∀ b o,X.base.get? b=some o→b∉X.ex
 exfs:∀ b∈X.ex,b∉X.fs
 funs:X.s₀.heap.FunFrames X.base X.outer
 frf:∀ b∈X.fs,X.H₀ b=none
structure Inv (X:Cx)(pins:List (Addr×Obj))(σ:List (Option V))(H:Hp)(s:Shared):Prop where
 ok:X.Ok
 os:s.os=X.s₀.os
 bare:AllBare s.gens
 base:Un X.fs X.ex X.H₀ H X.s₀.heap s.heap
 loc:∃ m,s.heap.Ns X.env.locals m∧∀ (i:Nat) (x:Str) (v:V),X.N[i]?=some x→σ[i]?=some (some v)→Vis X.env.scope x→∃ u,bd v u∧zE X.env s.heap m x u
 cell:∀ x c,X.env.cells.lookup x=some c→∃ v,s.heap.IsCell c v
 free:H X.env.locals=none
 freeC:∀ x c,X.env.cells.lookup x=some c→H c=none
 pin:∀ p∈X.pn++pins,s.heap.get? p.1=some p.2∧H p.1=none∧p.1≠X.env.locals∧p.1∉X.fs∧∀ v,p.2.data≠.cell v
 hok:HOk X.prog X.w H s.heap
 len:σ.length=X.N.length
section
variable {X:Cx}{pins:List (Addr×Obj)}{σ:List (Option V)}{H H':Hp}{s:Shared}{h':Heap}
þ Cx.Ok.nofr (ok:X.Ok){b:Addr}{o:Obj}(e:X.base.get? b=some o):b∉X.fs:=fun hb=>by
 have:=(ok.funs.mem hb).1;rw[e] at this;cases this
þ Inv.bs (I:Inv X pins σ H s):∀ b o,X.base.get? b=some o→s.heap.get? b=some o∧H b=none:=fun b o e =>
 ⟨I.base.keep b o (I.ok.bs b o e).1 (I.ok.bs b o e).2 (I.ok.nofr e) (I.ok.noex b o e),I.base.free b o (I.ok.bs b o e).1 (I.ok.bs b o e).2 (I.ok.noex b o e)⟩
þ Inv.bk (I:Inv X pins σ H s):∀ b o,X.base.get? b=some o→s.heap.get? b=some o:=fun b o e=>(I.bs b o e).1
þ Inv.mod (I:Inv X pins σ H s):Mod X.K X.mg X.base:=I.ok.mod
þ Inv.kIn (I:Inv X pins σ H s):X.K.In s.heap:=I.ok.mod.kin.keeps I.bk
þ Inv.lt (I:Inv X pins σ H s):X.env.locals < s.heap.objs.size:=let ⟨_,hn,_⟩:=I.loc;hn.lt
þ Inv.sz (I:Inv X pins σ H s):X.s₀.heap.objs.size≤s.heap.objs.size:=AB I.ok.above (Ci I.lt)
þ Inv.nofs (I:Inv X pins σ H s){a:Addr}(h:s.heap.objs.size≤a):a∉X.fs:=fun hb=>by
 o⟨_,o,ho,_⟩:=I.ok.funs.mem hb;e absurd (z9 (Heap.lt_size ho) (AB I.sz h)) (A7 _)
þ Inv.cne (I:Inv X pins σ H s):∀ x c,X.env.cells.lookup x=some c→c≠X.env.locals:=fun x c e z=>by
 o⟨v,o,ho,hd⟩:=I.cell x c e;o⟨m,⟨o',es,ep,ho',hd',_⟩,_⟩:=I.loc;rw[z,ho'] at ho;cases ho;rw[hd'] at hd;cases hd
þ Inv.funs (I:Inv X pins σ H s):s.heap.FunFrames X.base X.outer:=by
 h all:∀ (l:List Env),(∀ b∈frs l,b∈X.fs)→X.s₀.heap.FunFrames X.base l→s.heap.FunFrames X.base l:=by
   intro l
   induction l with
   | nil=>intro _ _;trivial
   | cons env r ih =>
     intro hs hl;o⟨hk,⟨L,o,hf,hn,ho,hd⟩,hr⟩:=hl;h hL:L∈X.fs:=hs L (by unfold frs;rw[Bz,hf];e zV);o⟨sl,e⟩:=I.base.slot L o ho (I.ok.frf L hL) hL fun z=>I.ok.exfs L z hL;e⟨hk,⟨L,_,hf,hn,e,hd⟩,ih (fun b hb=>hs b (by unfold frs;rw[Bz,hf];e zX _ hb)) hr⟩
 e all X.outer (fun _ hb=>hb) I.ok.funs
þ Inv.stack (I:Inv X pins σ H s):s.heap.FunFrames X.base X.stack:=by
 rcases I.ok.stk with e | ⟨e,hf⟩
 . rw[e];e I.funs
 . rw[e];o⟨m,hn,_⟩:=I.loc;r .cons (by rw[I.ok.kind];decide) hf hn ?_ I.funs;e Heap.get?_none_of_le (AB I.ok.bsz I.ok.above)
þ Inv.stkSub (I:Inv X pins σ H s):∀ b∈frs X.stack,b∈X.env.locals::X.fs:=fun b hb=>by
 rcases I.ok.stk with e | ⟨e,hf⟩
 . rw[e] at hb;e zX _ hb
 . rw[e] at hb;unfold frs at hb;rw[Bz,hf] at hb;e hb
þ Inv.stkFree (I:Inv X pins σ H s):∀ b∈frs X.stack,H b=none:=fun b hb=>by
 rcases List.mem_cons.mp (I.stkSub b hb) with e | hb
 . rw[e];e I.free
 . o⟨_,o,ho,_⟩:=I.ok.funs.mem hb;e I.base.free b o ho (I.ok.frf b hb) fun z=>I.ok.exfs b z hb
þ Inv.step {g':Array GenState}{t':Nat}{d':Drawn}{ch:List Addr}(I:Inv X pins σ H s)
   (hch:∀ b∈ch,(b∈X.ex∨X.s₀.heap.objs.size≤b)∧b≠X.env.locals∧(∀ x c,X.env.cells.lookup x=some c→c≠b)∧∀ p∈X.pn++pins,p.1≠b)
   (keep:∀ b o,b≠X.env.locals→b∉X.fs→b∉ch→s.heap.get? b=some o→H b=none→h'.get? b=some o)
   (slot:∀ b o,b≠X.env.locals→b∈X.fs→b∉ch→s.heap.get? b=some o→H b=none→∃ sl,h'.get? b=some { o with slots:=sl })(free:∀ b o,b∉ch→s.heap.get? b=some o→H b=none→H' b=none)
   (there:∀ b o,b∉ch→s.heap.get? b=some o→∃ o',h'.get? b=some o')
   (tups:∀ b xs,H b=some (.tup xs)→H' b=some (.tup xs))(frzs:∀ b o u,H b=some (.frz o u)→H' b=some (.frz o u))(tbls:∀ b ps,H b=some (.tbl ps)→∃ more,H' b=some (.tbl (ps++more)))
   (ns:∀ m,s.heap.Ns X.env.locals m→h'.Ns X.env.locals m)(hok:HOk X.prog X.w H' h')(hg:AllBare g') :
   Inv X pins σ H' { s with heap:=h',gens:=g',drawn:=d',toks:=t' }:=by
 h neL:∀ b o,X.s₀.heap.get? b=some o→b≠X.env.locals:=fun b o e=>z6 (z9 (Heap.lt_size e) I.ok.above)
 h neC:∀ b o,X.s₀.heap.get? b=some o→b∉X.ex→b∉ch:=fun b o e hx hb=>by
   rcases(hch b hb).1 with z | z
   . e hx z
   . e absurd (z9 (Heap.lt_size e) z) (A7 _)
 h cellK:∀ x c,X.env.cells.lookup x=some c→∀ v,s.heap.IsCell c v→h'.IsCell c v:=fun x c e v ⟨o,ho,hd⟩=>by
   h nch:c∉ch:=fun z=>(hch c z).2.2.1 x c e rfl;by_cases hc:c∈X.fs
   . o⟨sl,q⟩:=slot c o (I.cne x c e) hc nch ho (I.freeC x c e);e⟨_,q,hd⟩
   . e⟨o,keep c o (I.cne x c e) hc nch ho (I.freeC x c e),hd⟩
 r⟨I.ok,I.os,hg,⟨fun b o e n hb hx=>?_,fun b o e n hb hx=>?_,fun b o e n hx=>?_,fun b o e hx=>?_,fun b xs e=>tups b xs (I.base.tups b xs e),fun b o xs e=>frzs b o xs (I.base.frzs b o xs e),fun b ps e=>?_⟩,?_,fun x c e=>?_,?_,fun x c e=>?_,fun p hp=>?_,hok,I.len⟩
 . e keep b o (neL b o e) hb (neC b o e hx) (I.base.keep b o e n hb hx) (I.base.free b o e n hx)
 . o⟨sl,e1⟩:=I.base.slot b o e n hb hx;o⟨sl',e2⟩:=slot b _ (neL b o e) hb (neC b o e hx) e1 (I.base.free b o e n hx);e⟨sl',e2⟩
 . o⟨o',e1⟩:=I.base.there b o e hx;e free b o' (neC b o e hx) e1 (I.base.free b o e n hx)
 . o⟨o',e1⟩:=I.base.there b o e hx;e there b o' (neC b o e hx) e1
 . o⟨m1,e1⟩:=I.base.tbls b ps e;o⟨m2,e2⟩:=tbls b _ e1;e⟨m1++m2,by rw[e2,Array.append_assoc]⟩
 . o⟨m,hn,hl⟩:=I.loc;r⟨m,ns m hn,fun i x v e1 e2 e3=>?_⟩;o⟨u,r,l⟩:=hl i x v e1 e2 e3;r⟨u,r,?_⟩
   rcases l with l | ⟨k,c,e,z⟩
   . e .inl l
   . e .inr ⟨k,c,e,cellK x c e _ z⟩
 . o⟨v,z⟩:=I.cell x c e;e⟨v,cellK x c e v z⟩
 . o⟨m,⟨o,_,_,ho,_⟩,_⟩:=I.loc;e free _ o (fun z=>(hch _ z).2.1 rfl) ho I.free
 . o⟨v,o,ho,hd⟩:=I.cell x c e;e free c o (fun z=>(hch c z).2.2.1 x c e rfl) ho (I.freeC x c e)
 . o⟨e,n,ne,nf,d⟩:=I.pin p hp;h nch:p.1∉ch:=fun z=>(hch p.1 z).2.2.2 p hp rfl;e⟨keep p.1 p.2 ne nf nch e n,free p.1 p.2 nch e n,ne,nf,d⟩
þ Inv.un {t':Nat}(I:Inv X pins σ H s)(u:Un X.fs [] H H' s.heap h')(hok:HOk X.prog X.w H' h'):Inv X pins σ H' { s with heap:=h',toks:=t' }:=by
 o⟨m,⟨o,es,ep,ho,r⟩,_⟩:=id I.loc;o⟨sl,hL⟩:=u.any ho I.free (by simp)
 e I.step (g':=s.gens) (d':=s.drawn) (ch:=[]) (fun _ z=>nomatch z) (fun b o _ hb _ e n=>u.keep b o e n hb (by simp)) (fun b o _ hb _ e n=>u.slot b o e n hb (by simp)) (fun b o _ e n=>u.free b o e n (by simp)) (fun b o _ e=>u.there b o e (by simp)) u.tups u.frzs u.tbls (fun m' hm=>by
   o⟨o',es',ep',ho',r'⟩:=hm;rw[ho] at ho';cases ho'
   e⟨_,es',ep',hL,r'⟩) hok I.bare
þ Inv.call {g':Array GenState}{t':Nat}{d':Drawn}{ch:List Addr}(I:Inv X pins σ H s)(u:Un (frs X.stack) ch H H' s.heap h')(hok:HOk X.prog X.w H' h')(hg:AllBare g')
   (hch:∀ b∈ch,(b∈X.ex∨X.s₀.heap.objs.size≤b)∧b≠X.env.locals∧(∀ x c,X.env.cells.lookup x=some c→c≠b)∧∀ p∈X.pn++pins,p.1≠b) :
   Inv X pins σ H' { s with heap:=h',gens:=g',drawn:=d',toks:=t' }:=by
 o⟨m,⟨o,es,ep,ho,r⟩,_⟩:=id I.loc;o⟨sl,hL⟩:=u.any ho I.free fun z=>(hch _ z).2.1 rfl
 e I.step (ch:=ch) hch (fun b o hL hb hc e n=>u.keep b o e n (fun z=>(List.mem_cons.mp (I.stkSub b z)).elim hL hb) hc) (fun b o _ _ hc e n=>u.any e n hc) (fun b o hc e n=>u.free b o e n hc) (fun b o hc e=>u.there b o e hc) u.tups u.frzs u.tbls (fun m' hm=>by
   o⟨o',es',ep',ho',r'⟩:=hm;rw[ho] at ho';cases ho'
   e⟨_,es',ep',hL,r'⟩) hok hg
þ Inv.turned {t':Nat}{it:Addr}(I:Inv X pins σ H s)(k:∀ b o,b≠it→s.heap.get? b=some o→h'.get? b=some o)(hn:H it=none)(hL:it≠X.env.locals)
   (h1:it∈X.ex∨X.s₀.heap.objs.size≤it)(h2:∀ x c,X.env.cells.lookup x=some c→c≠it)(h3:∀ p∈X.pn++pins,p.1≠it):Inv X pins σ H { s with heap:=h',toks:=t' }:=by
 h nit:∀ b u,H b=some u→b≠it:=fun b u e z=>by rw[z,hn] at e;cases e
 r I.step (g':=s.gens) (d':=s.drawn) (ch:=[it]) (fun b hb=>?_) (fun b o _ _ hc e _=>k b o (fun z=>hc (by simp[z])) e) (fun b o _ _ hc e _=>⟨o.slots,k b o (fun z=>hc (by simp[z])) e⟩) (fun _ _ _ _ n=>n)
   (fun b o hc e=>⟨o,k b o (fun z=>hc (by simp[z])) e⟩) (fun _ _ e=>e) (fun _ _ _ e=>e) (fun b ps e=>⟨#[],by rw[e];simp⟩) (fun m hm=>?_) (fun b u e=>?_) I.bare
 . h e:b=it:=by simpa using hb
   subst e;e⟨h1,hL,h2,h3⟩
 . o⟨o,es,ep,ho,r⟩:=hm;e⟨o,es,ep,k _ o (Ne.symm hL) ho,r⟩
 . r(I.hok b u e).stay (fun c v hc q=>k c v ?_ q) (fun _ q=>q) fun _ _ q=>q
   rcases hc with z | z
   . rw[z];e nit b u e
   . e nit c _ z
þ Inv.tok (I:Inv X pins σ H s) (t:Nat):Inv X pins σ H { s with toks:=t }:=I.un (h':=s.heap) (t':=t) Un.refl I.hok
þ Inv.kept {t':Nat}(I:Inv X pins σ H s)(k:∀ b u,s.heap.get? b=some u→h'.get? b=some u):Inv X pins σ H { s with heap:=h',toks:=t' }:=I.un (Un.kept k) (I.hok.kept k)
þ Inv.laid {a:Addr}{o:HO}{t':Nat}(I:Inv X pins σ H s)(k:∀ b u,s.heap.get? b=some u→h'.get? b=some u)(hp:s.heap.objs.size≤a)(new:bR X.prog X.w (upd H a o) h' a o) :
 Inv X pins σ (upd H a o) { s with heap:=h',toks:=t' }:=I.un (Un.laid k hp (I.hok.fresh hp)) (I.hok.laid k hp new)
þ Inv.write {x e:Addr}{o:HO}{t':Nat}(I:Inv X pins σ H s)(mu:Mut (H x))(he:e=x∨H e=some (.own x))(k:∀ b u,b≠e→s.heap.get? b=some u→h'.get? b=some u)(heo:∃ u,h'.get? e=some u)
 (new:bR X.prog X.w (upd H x o) h' x o):Inv X pins σ (upd H x o) { s with heap:=h',toks:=t' }:=I.un (Un.write mu he k heo) (I.hok.write mu he k heo new)
þ Inv.pins_of {pins':List (Addr×Obj)}(I:Inv X pins σ H s)(h:∀ p∈pins',s.heap.get? p.1=some p.2∧H p.1=none∧p.1≠X.env.locals∧p.1∉X.fs∧∀ v,p.2.data≠.cell v):Inv X pins' σ H s :=
 ⟨I.ok,I.os,I.bare,I.base,I.loc,I.cell,I.free,I.freeC,fun p hp=>(List.mem_append.mp hp).elim (fun z=>I.pin p (AR _ z)) (h p),I.hok,I.len⟩
þ kP {N:List Str}(hN:N.Nodup){i j:Nat}{x:Str}(a:N[i]?=some x)(b:N[j]?=some x):i=j:=by
 o⟨h1,e1⟩:=List.getElem?_eq_some_iff.mp a;o⟨h2,e2⟩:=List.getElem?_eq_some_iff.mp b;e(List.getElem_inj hN).mp (e1.trans e2.symm)
þ iC {M:Model}{A:Around}{E:Value→Shared→Prop}{i:Nat}{x:Str}{v:V}{u:Value}{Q:Unit→Shared→Prop}(I:Inv X pins σ H s)(hN:X.N.Nodup)(hi:X.N[i]?=some x)(hx:Loc X.env.scope x)(r:bd v u)
   (h:∀ s',Inv X pins (σ.set i (some v)) H s'→(∃ a,Heap.SameBut a s.heap s'.heap∧(a=X.env.locals∨X.env.cells.lookup x=some a))→Q () s')(hf:X.fn x=true∨X.env.scope.names.lookup x=some .local:=by first | e .inl rfl | e .inr rfl | assumption):wpAny M A (storeName X.env x u) Q E s:=by
 o⟨m,hn,hl⟩:=id I.loc
 h hcls:(X.env.scope.kind==.class||(X.env.scope.kind==.module&&X.env.locals != X.env.globals))=false:=by rw[I.ok.kind];rfl
 h hiσ:i < σ.length:=by rw[I.len];e(List.getElem?_eq_some_iff.mp hi).1
 h cne:=I.cne
 h tracked:∀ {a:Addr}{h':Heap},(∃ o,s.heap.get? a=some o∧H a=none)→Heap.SameBut a s.heap h'→HOk X.prog X.w H h':=fun {a h'} ha hs b ob e=>by
   o⟨_,_,hfree⟩:=ha;r(I.hok b ob e).stay (fun c w' hc q=>(hs.2 c ?_).trans q) (fun _ q=>q) fun _ _ q=>q;rintro rfl
   rcases hc with rfl | hc
   . rw[hfree] at e;cases e
   . rw[hfree] at hc;cases hc
 rcases hx with hk | hk
 . r wpAny_storeName_local hk hn (fun h' hn' hs=>?_) hcls;o⟨oL,_,_,hoL,_⟩:=id hn;r h _ ⟨I.ok,I.os,I.bare,⟨fun b o e n hb hx=>?_,fun b o e n hb hx=>?_,I.base.free,fun b o e hx=>?_,I.base.tups,I.base.frzs,I.base.tbls⟩,⟨_,hn',fun j y v' e1 e2 e3=>?_⟩,fun y c e=>?_,I.free,I.freeC,fun p hp=>?_,tracked ⟨oL,hoL,I.free⟩ hs,by simpa using I.len⟩ ⟨_,hs,.inl rfl⟩
   . e(hs.2 b (z6 (z9 (Heap.lt_size e) I.ok.above))).trans (I.base.keep b o e n hb hx)
   . o⟨sl,e1⟩:=I.base.slot b o e n hb hx;e⟨sl,(hs.2 b (z6 (z9 (Heap.lt_size e) I.ok.above))).trans e1⟩
   . o⟨o',e1⟩:=I.base.there b o e hx;e⟨o',(hs.2 b (z6 (z9 (Heap.lt_size e) I.ok.above))).trans e1⟩
   . by_cases hj:j=i
     . subst hj;rw[hi] at e1;cases e1;rw[BF hiσ] at e2;cases e2;e⟨u,r,.inl ⟨hk,by simp⟩⟩
     . rw[BO (Ne.symm hj)] at e2;o⟨u',r',q⟩:=hl j y v' e1 e2 e3;r⟨u',r',?_⟩
       rcases q with ⟨k,e⟩ | ⟨k,c,e,z⟩
       . r .inl ⟨k,?_⟩;h:y≠x:=fun e=>hj (kP hN e1 (e▸hi));simp[this,e]
       . e .inr ⟨k,c,e,z.sameBut hs (cne y c e)⟩
   . o⟨w',z⟩:=I.cell y c e;e⟨w',z.sameBut hs (cne y c e)⟩
   . o⟨e,n,ne,nf,d⟩:=I.pin p hp;e⟨(hs.2 p.1 ne).trans e,n,ne,nf,d⟩
 . h hfn:X.fn x=true:=by
     rcases hf with z | z
     . e z
     . rw[z] at hk;cases hk
   o⟨c,hc⟩:=I.ok.has x (.inl hk);o⟨w',z⟩:=I.cell x c hc;r wpAny_storeName_cell I.ok.kind hk hc z (fun h' hc' hs=>?_);o⟨oc,hoc,hocd⟩:=id z;r h { s with heap:=h' } ⟨I.ok,I.os,I.bare,⟨fun b o e n hb hx=>?_,fun b o e n hb hx=>?_,I.base.free,fun b o e hx=>?_,I.base.tups,I.base.frzs,I.base.tbls⟩,⟨m,hn.sameBut hs (Ne.symm (cne x c hc)),fun j y v' e1 e2 e3=>?_⟩,fun y c' e=>?_,I.free,I.freeC,fun p hp=>?_,tracked ⟨oc,hoc,I.freeC x c hc⟩ hs,by simpa using I.len⟩ ⟨c,hs,.inr hc⟩
   . e(hs.2 b (z6 (z9 (Heap.lt_size e) (I.ok.cab x c hfn hc)))).trans (I.base.keep b o e n hb hx)
   . o⟨sl,e1⟩:=I.base.slot b o e n hb hx;e⟨sl,(hs.2 b (z6 (z9 (Heap.lt_size e) (I.ok.cab x c hfn hc)))).trans e1⟩
   . o⟨o',e1⟩:=I.base.there b o e hx;e⟨o',(hs.2 b (z6 (z9 (Heap.lt_size e) (I.ok.cab x c hfn hc)))).trans e1⟩
   . by_cases hj:j=i
     . subst hj;rw[hi] at e1;cases e1;rw[BF hiσ] at e2;cases e2;e⟨u,r,.inr ⟨.inl hk,c,hc,hc'⟩⟩
     . rw[BO (Ne.symm hj)] at e2;o⟨u',r',q⟩:=hl j y v' e1 e2 e3;r⟨u',r',?_⟩
       rcases q with q | ⟨k,c',e,z'⟩
       . e .inl q
       . r .inr ⟨k,c',e,z'.sameBut hs ?_⟩;rintro rfl;e hj (kP hN e1 (I.ok.inj _ _ _ e hc▸hi))
   . by_cases hcc:c'=c
     . subst hcc;e⟨_,hc'⟩
     . o⟨w2,z2⟩:=I.cell y c' e;e⟨w2,z2.sameBut hs hcc⟩
   . o⟨e,n,ne,nf,d⟩:=I.pin p hp;r⟨(hs.2 p.1 ?_).trans e,n,ne,nf,d⟩;intro q;rw[q,hoc] at e;h q':oc=p.2:=Option.some.inj e;e d w' (by rw[←q'];e hocd)
þ ku {M:Model}{A:Around}{E:Value→Shared→Prop}{i:Nat}{x:Str}{v:V}{u:Value}{Q:Unit→Shared→Prop}(I:Inv X pins σ H s)(hN:X.N.Nodup)(hi:X.N[i]?=some x)(hx:Loc X.env.scope x)(r:bd v u)
   (h:∀ s',Inv X pins (σ.set i (some v)) H s'→Q () s')(hf:X.fn x=true∨X.env.scope.names.lookup x=some .local:=by first | e .inl rfl | e .inr rfl | assumption):wpAny M A (storeName X.env x u) Q E s :=
 iC I hN hi hx r (fun s' I' _=>h s' I') hf
þ Inv.call' {s':Shared}{ch:List Addr}(I:Inv X pins σ H s)(ho:s'.os=s.os)(u:Un (frs X.stack) ch H H' s.heap s'.heap)(hok:HOk X.prog X.w H' s'.heap)(hg:AllBare s'.gens)
   (hch:∀ b∈ch,(b∈X.ex∨X.s₀.heap.objs.size≤b)∧b≠X.env.locals∧(∀ x c,X.env.cells.lookup x=some c→c≠b)∧∀ p∈X.pn++pins,p.1≠b):Inv X pins σ H' s':=by
 o⟨h',g',d',t',o'⟩:=s';h e:o'=s.os:=ho;subst e;e I.call (g':=g') (t':=t') (d':=d') u hok hg hch
end
abbrev XK:=Value→Option Addr→Hp→Prop
abbrev St:=List (Option V)
abbrev VK:=V→Hp→Prop
abbrev TE:=St→Hp→VK→Prop
abbrev TT:=St→Hp→(Bool→Hp→Prop)→Prop
abbrev TA:=St→Hp→(List V→Hp→Prop)→Prop
structure gu where
 nx:St→Hp→Prop
 rt:VK
 bk:St→Hp→Prop:=fun _ _=>False
 ct:St→Hp→Prop:=fun _ _=>False
abbrev TS:=gu→St→Hp→Prop
noncomputable def EP (X:Cx)(pins:List (Addr×Obj)) (σ:St)(Q:VK) (u:Value)(s':Shared):Prop:=∃ v H',Inv X pins σ H' s'∧bd v u∧Q v H'
noncomputable def TP (X:Cx)(pins:List (Addr×Obj)) (σ:St)(Q:Bool→Hp→Prop)(b:Bool)(s':Shared):Prop:=∃ H',Inv X pins σ H' s'∧Q b H'
noncomputable def AP (X:Cx)(pins:List (Addr×Obj)) (σ:St)(Q:List V→Hp→Prop)(us:List Value)(s':Shared):Prop:=∃ vs H',Inv X pins σ H' s'∧Vals vs us∧Q vs H'
noncomputable def SP (X:Cx)(pins:List (Addr×Obj))(D:gu)(f:Flow)(s':Shared):Prop :=
 match f with
 | .next=>∃ σ' H',Inv X pins σ' H' s'∧D.nx σ' H'
 | .brk=>∃ σ' H',Inv X pins σ' H' s'∧D.bk σ' H'
 | .cont=>∃ σ' H',Inv X pins σ' H' s'∧D.ct σ' H'
 | .ret u=>∃ v σ' H',Inv X pins σ' H' s'∧bd v u∧D.rt v H'
noncomputable def PE (X:Cx)(e:Expr)(t:TE):Prop :=
 ∀ ⦃pins:List (Addr×Obj)⦄ (s:Shared) (σ:St)(H:Hp)(Q:VK),Inv X pins σ H s→t σ H Q→wpAny (model X.prog X.w) X.A (eval e X.env) (EP X pins σ Q) X.xe s
noncomputable def PT (X:Cx)(e:Expr)(t:TT):Prop :=
 ∀ ⦃pins:List (Addr×Obj)⦄ (s:Shared) (σ:St)(H:Hp)(Q:Bool→Hp→Prop),Inv X pins σ H s→t σ H Q→wpAny (model X.prog X.w) X.A (isTrue e X.env (eval e X.env)) (TP X pins σ Q) X.xe s
noncomputable def PW (X:Cx)(e:Expr)(t:TT):Prop :=
 ∀ (whole:Sem Value)(pins:List (Addr×Obj))(s:Shared) (σ:St)(H:Hp)(Q:Bool→Hp→Prop),Inv X pins σ H s→t σ H Q→wpAny (model X.prog X.w) X.A (isTrue e X.env whole) (TP X pins σ Q) X.xe s
þ PW.pt {X:Cx}{e:Expr}{t:TT}(h:PW X e t):PT X e t:=h _
noncomputable def PA (X:Cx)(es:List Expr)(t:TA):Prop :=
 ∀ ⦃pins:List (Addr×Obj)⦄ (pos:Pos)(s:Shared) (σ:St)(H:Hp)(Q:List V→Hp→Prop),Inv X pins σ H s→t σ H Q→wpAny (model X.prog X.w) X.A (spliced (backTo pos (starEach es X.env))) (AP X pins σ Q) X.xe s
noncomputable def PS (X:Cx)(st:Stmt)(t:TS):Prop :=
 ∀ ⦃pins:List (Addr×Obj)⦄ (s:Shared) (σ:St)(H:Hp)(D:gu),Inv X pins σ H s→t D σ H→wpAny (model X.prog X.w) X.A (exec st X.env) (SP X pins D) X.xe s
noncomputable def PSs (X:Cx)(st:List Stmt)(t:TS):Prop :=
 ∀ ⦃pins:List (Addr×Obj)⦄ (s:Shared) (σ:St)(H:Hp)(D:gu),Inv X pins σ H s→t D σ H→wpAny (model X.prog X.w) X.A (execs st X.env) (SP X pins D) X.xe s
þ thn {α:Type}{t:Sem α}{Q Q':α→Shared→Prop}{M:Model}{A:Around}{E:Value→Shared→Prop}{s:Shared}(h:wpAny M A t Q E s)(hQ:∀ a s,Q a s→Q' a s):wpAny M A t Q' E s:=wpAny_mono h hQ fun _ _ x=>x
section
variable {X:Cx}
þ bin {a b:Expr}{ta tb:TE}(ha:PE X a ta)(hb:PE X b tb){pins:List (Addr×Obj)}{s:Shared}{σ:St}{H:Hp}{R:V→V→Hp→Prop}(I:Inv X pins σ H s)(h:ta σ H fun x H1=>tb σ H1 fun y H2=>R x y H2)
   {α:Type}{Q:α→Shared→Prop}{f:Value→Value→Sem α}
   (hf:∀ v u s2 x y H2,Inv X pins σ H2 s2→bd x v→bd y u→R x y H2→wpAny (model X.prog X.w) X.A (f v u) Q X.xe s2) :
   wpAny (model X.prog X.w) X.A (eval a X.env) (fun v s₁=>wpAny (model X.prog X.w) X.A (eval b X.env) (fun u s₂=>wpAny (model X.prog X.w) X.A (f v u) Q X.xe s₂) X.xe s₁) X.xe s:=by
 r thn (ha s σ H _ I h) fun v s1 ⟨x,H1,I1,r1,q1⟩=>?_;r thn (hb s1 σ H1 _ I1 q1) fun u s2 ⟨y,H2,I2,r2,q2⟩=>?_;e hf v u s2 x y H2 I2 r1 r2 q2
noncomputable def oK (x:V)(k:Addr→Prop):Prop:=match x with
 | .ref p=>k p
 | _=>False
noncomputable def isInt (x:V)(k:Int→Prop):Prop:=match x with
 | .int p=>k p
 | _=>False
noncomputable def vh (x:V)(k:Bool→Prop):Prop:=match x with
 | .bl p=>k p
 | _=>False
þ lW {p:Addr}{k:Addr→Prop}:oK (.ref p) k=k p:=rfl
þ lK {p:Int}{k:Int→Prop}:isInt (.int p) k=k p:=rfl
þ rX {p:Bool}{k:Bool→Prop}:vh (.bl p) k=k p:=rfl
þ km {x:V}{k:Addr→Prop}:oK x k=∃ p,x=.ref p∧k p:=by
 cases x<;>simp[oK]
þ cV {x:V}{k:Int→Prop}:isInt x k=∃ p,x=.int p∧k p:=by
 cases x<;>simp[isInt]
þ rZ {x:V}{k:Bool→Prop}:vh x k=∃ p,x=.bl p∧k p:=by
 cases x<;>simp[vh]
noncomputable def kY (i:Nat):TE:=fun σ H Q=>match σ[i]? with
 | some (some v)=>Q v H
 | _=>False
þ vk {i:Nat}{σ:St}{H:Hp}{Q:VK}(h:kY i σ H Q):∃ v,σ[i]?=some (some v)∧Q v H:=by
 unfold kY at h
 split at h
 . e⟨_,by assumption,h⟩
 . e h.elim
noncomputable def tC (v:V):TE:=fun _ H Q=>Q v H
þ yb {i:Nat}{x:Str}{pos:Pos}(hN:X.N[i]?=some x)(hv:Vis X.env.scope x)(hd:(x==("__debug__":Str))=false:=by decide)(hcd:(x==("__classdict__":Str))=false:=by decide):PE X (.Name x pos) (kY i):=by
 intro pins s σ H Q I h;o⟨v,e,h⟩:=vk h;o⟨m,hn,hl⟩:=I.loc;o⟨u,r,l⟩:=hl i x v hN e hv;h fin:EP X pins σ Q u s:=⟨v,H,I,r,h⟩
 rcases l with ⟨hk,hm⟩ | ⟨hk,c,hc,hcell⟩
 . e wpAny_Name (wpAny_loadName_local I.ok.kind hk hn hm fin) hd
 . rcases hk with hk | hk
   . e wpAny_Name (wpAny_loadName_cell I.ok.kind hk hc hcell fin) hd
   . e wpAny_Name (wpAny_loadName_free I.ok.kind hk hc hcell fin hcd) hd
þ ag {i j pos}:PE X (.Constant (.int i) j pos) (tC (.int i)):=fun _ _ _ H _ I h=>wpAny_Constant_int ⟨.int i,H,I.tok _,⟨_,rfl⟩,h⟩
þ cx {b j pos}:PE X (.Constant (.bool b) j pos) (tC (.bl b)):=fun _ _ _ H _ I h=>Constant_bool ⟨.bl b,H,I,rfl,h⟩
þ kF {j pos}:PE X (.Constant .none j pos) (tC .non):=fun _ _ _ H _ I h=>Constant_none ⟨.non,H,I,rfl,h⟩
þ aB {x j pos}:PE X (.Constant (.str x) j pos) (tC (.str x)):=fun _ _ _ H _ I h=>Calls.Constant_str ⟨.str x,H,I.tok _,⟨_,rfl⟩,h⟩
noncomputable def Gl (X:Cx) (x:Str):Prop:=X.env.kindOf x=some .globalImplicit
þ io {E:Value→Shared→Prop}{pins:List (Addr×Obj)}{s:Shared}{σ:St}{H:Hp}{x:Str}{u:Value}{pos:Pos}{Q:Value→Shared→Prop}(I:Inv X pins σ H s)(hg:Gl X x)(hm:X.mg x=some u)(h:Q u s)
   (hd:(x==("__debug__":Str))=false:=by decide):wpAny (model X.prog X.w) X.A (eval (.Name x pos) X.env) Q E s :=
 Calls.Name_function_global I.ok.kind hg (Calls.loadGlobal_global (by rw[I.ok.glob];e I.mod.glob.keeps I.bk) hm h) hd
þ ir {E:Value→Shared→Prop}{pins:List (Addr×Obj)}{s:Shared}{σ:St}{H:Hp}{x:Str}{u:Value}{pos:Pos}{Q:Value→Shared→Prop}(I:Inv X pins σ H s)(hg:Gl X x)(hm:X.mg x=none)(hv:bootBuiltins x=some u)(h:Q u s)
   (hn:x≠"__name__":=by decide)(hd:(x==("__debug__":Str))=false:=by decide):wpAny (model X.prog X.w) X.A (eval (.Name x pos) X.env) Q E s:=by
 o⟨mb,h1,h2⟩:=I.mod.blt;e Calls.Name_function_global I.ok.kind hg (Calls.loadGlobal_builtin (by rw[I.ok.glob];e I.mod.glob.keeps I.bk) hm (by rw[I.ok.blt];e h1.keeps I.bk) ((h2 x hn).trans hv) h) hd
þ bf {x:Str}{v:V}{u:Value}{pos:Pos}(hg:Gl X x)(hm:X.mg x=some u)(r:bd v u)(hd:(x==("__debug__":Str))=false:=by decide):PE X (.Name x pos) (tC v) :=
 fun _ _ _ H _ I h=>io I hg hm ⟨v,H,I,r,h⟩ hd
þ cJ {x:Str}{v:V}{u:Value}{pos:Pos}(hg:Gl X x)(hm:X.mg x=none)(hv:bootBuiltins x=some u)(r:bd v u)(hn:x≠"__name__":=by decide)(hd:(x==("__debug__":Str))=false:=by decide):PE X (.Name x pos) (tC v) :=
 fun _ _ _ H _ I h=>ir I hg hm hv ⟨v,H,I,r,h⟩ hn hd
variable {a b:Expr}{ta tb:TE}{pos:Pos}
noncomputable def PC (X:Cx)(op:CmpOp)(a b:Expr)(t:TE):Prop :=
 ∀ (pins:List (Addr×Obj))(s:Shared) (σ:St)(H:Hp)(Q:VK),Inv X pins σ H s→t σ H Q →
   wpAny (model X.prog X.w) X.A (eval a X.env) (fun v s₁=>wpAny (model X.prog X.w) X.A (eval b X.env) (fun u s₂=>wpAny (model X.prog X.w) X.A (compareOp op v u) (EP X pins σ Q) X.xe s₂) X.xe s₁) X.xe s
noncomputable def tB (t:TE):TT:=fun σ H Q=>t σ H fun x H1=>∃ c,x=.bl c∧Q c H1
þ fk {op:CmpOp}{t:TE}(h:PC X op a b t)(h1:behindInMarks op b=false:=by first | e nobehind _ (by decide) (by decide) | rfl):PT X (.Compare a [op] [b] pos) (tB t):=by
 intro pins s σ H Q I hw;r wpAny_isTrue_Compare1 (thn (h pins s σ H _ I hw) fun v s1 h1=>thn h1 fun u s2 h2=>thn h2 fun c s3 ⟨x,H1,I1,r1,q1⟩=>?_) h1;o⟨d,rfl,q⟩:=q1;cases r1;e wpAny_truthy_bool ⟨H1,I1,q⟩
þ bF {e:Expr}{t:TE}(h:PE X e t)(he:∀ whole,isTrue e X.env whole=(do let v ←whole;standAt e.pos;holding [v] (truthy v)):=by intro _;rfl):PT X e (tB t):=by
 intro pins s σ H Q I hw;r isTrue_plain (thn (h s σ H _ I hw) fun v s1 ⟨x,H1,I1,r1,q1⟩=>?_) (he _);o⟨d,rfl,q⟩:=q1;cases r1;e wpAny_truthy_bool ⟨H1,I1,q⟩
variable {tA tB':TT}{cD:List Expr}
noncomputable def xK (t u:TT):TT:=fun σ H Q=>t σ H fun c H1=>if c=true then u σ H1 Q else Q false H1
noncomputable def tOr (t u:TT):TT:=fun σ H Q=>t σ H fun c H1=>if c=true then Q true H1 else u σ H1 Q
noncomputable def xN (t:TT):TT:=fun σ H Q=>t σ H fun c H1=>Q (!c) H1
þ gj (ha:PT X a tA):PW X (.BoolOp .And [a] pos) tA:=by
 intro wh pins s σ H Q I h;r isTrue_and (thn (ha s σ H Q I h) fun c s1 e=>?_)
 cases c with
 | true=>e isTrue_and_nil e
 | false=>e e
þ cM (ha:PT X a tA):PW X (.BoolOp .Or [a] pos) tA:=by
 intro wh pins s σ H Q I h;r isTrue_or (thn (ha s σ H Q I h) fun c s1 e=>?_)
 cases c with
 | false=>e isTrue_or_nil e
 | true=>e e
þ iK (ha:PT X a tA)(hb:PW X (.BoolOp .And (b::cD) pos) tB'):PW X (.BoolOp .And (a::b::cD) pos) (xK tA tB'):=by
 intro wh pins s σ H Q I h;r isTrue_and (thn (ha s σ H _ I h) fun c s1 ⟨H1,I1,q1⟩=>?_)
 cases c with
 | true=>e hb wh pins s1 σ H1 Q I1 q1
 | false=>e⟨H1,I1,q1⟩
þ em (ha:PT X a tA)(hb:PW X (.BoolOp .Or (b::cD) pos) tB'):PW X (.BoolOp .Or (a::b::cD) pos) (tOr tA tB'):=by
 intro wh pins s σ H Q I h;r isTrue_or (thn (ha s σ H _ I h) fun c s1 ⟨H1,I1,q1⟩=>?_)
 cases c with
 | true=>e⟨H1,I1,q1⟩
 | false=>e hb wh pins s1 σ H1 Q I1 q1
þ bW (ha:PT X a tA):PT X (.UnaryOp .Not a pos) (xN tA):=by
 intro pins s σ H Q I h;e isTrue_not (ha s σ H (fun c H1=>Q (!c) H1) I h)
noncomputable def uA (ta tb:TE):TE:=fun σ H Q=>ta σ H fun x H1=>∃ c,x=.bl c∧if c=true then tb σ H1 Q else Q (.bl false) H1
noncomputable def yS (ta tb:TE):TE:=fun σ H Q=>ta σ H fun x H1=>∃ c,x=.bl c∧if c=true then Q (.bl true) H1 else tb σ H1 Q
noncomputable def uh (ta:TE):TE:=fun σ H Q=>ta σ H fun x H1=>∃ c,x=.bl c∧Q (.bl (!c)) H1
þ qj {op}{t:TE}(h:PE X a t):PE X (.BoolOp op [a] pos) t:=fun pins s σ H Q I hw=>BoolOp_one (h s σ H Q I hw)
þ mO (ha:PE X a ta)(hb:PE X (.BoolOp .And (b::cD) pos) tb):PE X (.BoolOp .And (a::b::cD) pos) (uA ta tb):=by
 intro pins s σ H Q I h;r BoolOp_and (thn (ha s σ H _ I h) fun v s1 ⟨x,H1,I1,r1,q1⟩=>?_);o⟨c,rfl,q1⟩:=q1;cases r1;r wpAny_truthy_bool ?_
 cases c with
 | true=>e hb s1 σ H1 Q I1 q1
 | false=>e⟨.bl false,H1,I1,rfl,q1⟩
þ xC (ha:PE X a ta):PE X (.UnaryOp .Not a pos) (uh ta):=by
 intro pins s σ H Q I h;r UnaryOp_ (thn (ha s σ H _ I h) fun v s1 ⟨x,H1,I1,r1,q1⟩=>?_);o⟨c,rfl,q1⟩:=q1;cases r1;e not_of (wpAny_truthy_bool ⟨.bl (!c),H1,I1,rfl,q1⟩)
noncomputable def tIf (t:TT)(ta tb:TE):TE:=fun σ H Q=>t σ H fun c H1=>if c=true then ta σ H1 Q else tb σ H1 Q
þ vY {c:Expr}(hc:PT X c tA)(ha:PE X a ta)(hb:PE X b tb):PE X (.IfExp c a b pos) (tIf tA ta tb):=by
 intro pins s σ H Q I h;r wpAny_IfExp (thn (hc s σ H _ I h) fun d s1 ⟨H1,I1,q1⟩=>?_)
 cases d with
 | true=>e ha s1 σ H1 Q I1 q1
 | false=>e hb s1 σ H1 Q I1 q1
end
noncomputable def SqL (K:PySem.W.Frag)(H:Hp)(a:Addr)(xs:List V):Prop :=
 Rd H a (.lst xs) ∨
   ∃ (o:Obj)(its:Array Value) (n:Nat),K.lookup a=some o∧o.cls=.type "list"∧o.dict=none∧o.data=.seq its n∧its.size≤sizeLine∧Vals xs its.toList
noncomputable def SqT (K:PySem.W.Frag)(H:Hp)(a:Addr)(xs:List V):Prop :=
 Rd H a (.tup xs) ∨
   ∃ (o:Obj)(its:Array Value) (n:Nat),K.lookup a=some o∧o.cls=.type "tuple"∧o.data=.seq its n∧its.size≤sizeLine∧Vals xs its.toList
noncomputable def zz:Value→Option V
 | .none=>some .non
 | .bool b=>some (.bl b)
 | .int i _=>£i
 | .str x _=>¢x
 | .bytes b _=>some (.byt b)
 | .float b _=>some (.flt b)
 | .ref a=>§a
 | .type n=>some (.ty n)
 | _=>none
þ bd.abs {x:V}{u:Value}(r:bd x u):zz u=some x:=by
 cases x with
 | non=>cases r;rfl
 | bl _=>cases r;rfl
 | int _=>o⟨t,rfl⟩:=r;rfl
 | str _=>o⟨t,rfl⟩:=r;rfl
 | byt _=>o⟨t,rfl⟩:=r;rfl
 | flt _=>o⟨t,rfl⟩:=r;rfl
 | ref _=>cases r;rfl
 | ty _=>cases r;rfl
þ bd.inj {x y:V}{u:Value}(r:bd x u)(q:bd y u):x=y:=Option.some.inj (r.abs.symm.trans q.abs)
þ Vals.inj:∀ {xs ys:List V}{us:List Value},Vals xs us→Vals ys us→xs=ys
 | _,_,_,.nil,.nil=>rfl
 | _,_,_,.cons r t,.cons r' t'=>by rw[r.inj r',Vals.inj t t']
section
variable {X:Cx}{pins:List (Addr×Obj)}{σ:St}{H:Hp}{s:Shared}{a:Addr}{xs ys:List V}
þ SqL.of {K:PySem.W.Frag}(h:H a=some (.lst xs)):SqL K H a xs:=.inl (.inl h)
þ SqT.of {K:PySem.W.Frag}(h:H a=some (.tup xs)):SqT K H a xs:=.inl (.inl h)
þ Inv.list (I:Inv X pins σ H s)(h:SqL X.K H a xs):∃ its:List Value,Vals xs its∧PlainL s.heap a its.toArray∧xs.length≤sizeLine:=by
 rcases h with h | ⟨o,its,n,hk,hc,hd,hs,hz,r⟩
 . o⟨z,its,n,r,e⟩:=h.ok I.hok;e⟨its,r,⟨_,n,e,rfl,rfl,rfl⟩,z⟩
 . r⟨its.toList,r,⟨o,n,I.kIn a o hk,hc,hd,by simpa using hs⟩,?_⟩;h e:=r.length;simp only[Ap] at e;m
þ Inv.tuple (I:Inv X pins σ H s)(h:SqT X.K H a xs):∃ its:List Value,Vals xs its∧IsTup s.heap a its.toArray∧xs.length≤sizeLine:=by
 rcases h with h | ⟨o,its,n,hk,hc,hs,hz,r⟩
 . o⟨z,its,r,p⟩:=h.ok I.hok;e⟨its,r,p,z⟩
 . r⟨its.toList,r,⟨o,I.kIn a o hk,hc,n,by simpa using hs⟩,?_⟩;h e:=r.length;simp only[Ap] at e;m
þ Inv.list_inj (I:Inv X pins σ H s)(h:SqL X.K H a xs)(h':SqL X.K H a ys):xs=ys:=by
 o⟨its,r,⟨o,n,e,_,_,d⟩,_⟩:=I.list h;o⟨its',r',⟨o',n',e',_,_,d'⟩,_⟩:=I.list h';rw[e] at e';cases e';rw[d] at d'
 injection d' with d1 _
 h:its=its':=by simpa using congrArg Array.toList d1
 subst this;e r.inj r'
þ Inv.tuple_inj (I:Inv X pins σ H s)(h:SqT X.K H a xs)(h':SqT X.K H a ys):xs=ys:=by
 o⟨its,r,⟨o,e,_,n,d⟩,_⟩:=I.tuple h;o⟨its',r',⟨o',e',_,n',d'⟩,_⟩:=I.tuple h';rw[e] at e';cases e';rw[d] at d'
 injection d' with d1 _
 h:its=its':=by simpa using congrArg Array.toList d1
 subst this;e r.inj r'
end
abbrev Cx.wish (X:Cx)(E:Value→Shared→Prop):Cx:={ X with xe:=E }
abbrev Cx.nox (X:Cx):Cx:=X.wish fun _ _=>False
þ Cx.Ok.wish {X:Cx}(ok:X.Ok)(E:Value→Shared→Prop):(X.wish E).Ok :=
 ⟨ok.mod,ok.kind,ok.glob,ok.blt,ok.above,ok.inj,ok.has,ok.cab,ok.hd,ok.frames,ok.stk,ok.exf,ok.bs,ok.bsz,ok.noex,ok.exfs,ok.funs,ok.frf⟩
þ Cx.Ok.unwish {X:Cx}{E:Value→Shared→Prop}(ok:(X.wish E).Ok):X.Ok :=
 ⟨ok.mod,ok.kind,ok.glob,ok.blt,ok.above,ok.inj,ok.has,ok.cab,ok.hd,ok.frames,ok.stk,ok.exf,ok.bs,ok.bsz,ok.noex,ok.exfs,ok.funs,ok.frf⟩
section
variable {X:Cx}{pins:List (Addr×Obj)}{σ:St}{H:Hp}{s:Shared}{E:Value→Shared→Prop}
þ Inv.wish (I:Inv X pins σ H s)(E:Value→Shared→Prop):Inv (X.wish E) pins σ H s:=⟨I.ok.wish E,I.os,I.bare,I.base,I.loc,I.cell,I.free,I.freeC,I.pin,I.hok,I.len⟩
þ Inv.unwish (I:Inv (X.wish E) pins σ H s):Inv X pins σ H s:=⟨I.ok.unwish,I.os,I.bare,I.base,I.loc,I.cell,I.free,I.freeC,I.pin,I.hok,I.len⟩
þ SP.unwish {D:gu}{f:Flow}{s':Shared}(h:SP (X.wish E) pins D f s'):SP X pins D f s':=by
 cases f with
 | next=>o⟨σ',H',I,q⟩:=h;e⟨σ',H',I.unwish,q⟩
 | brk=>o⟨σ',H',I,q⟩:=h;e⟨σ',H',I.unwish,q⟩
 | cont=>o⟨σ',H',I,q⟩:=h;e⟨σ',H',I.unwish,q⟩
 | ret u=>o⟨v,σ',H',I,r,q⟩:=h;e⟨v,σ',H',I.unwish,r,q⟩
þ PSs.nox {st:List Stmt}{t:TS}(h:PSs X.nox st t):PSs X st t:=fun pins s σ H D I hw =>
 wpAny_mono (h s σ H D (I.wish _) hw) (fun _ _ q=>q.unwish) fun _ _ z=>False.elim z
end
section
variable {X:Cx}{st:Stmt}{cD:List Stmt}{t u:TS}{e:Expr}{te:TE}{pos:Pos}
noncomputable def vC:TS:=fun D σ H=>D.nx σ H
noncomputable def xF (t u:TS):TS:=fun D σ H=>t { D with nx:=u D } σ H
þ ao:PSs X [] vC:=fun _ _ σ H _ I h=>wpAny_execs_nil ⟨σ,H,I,h⟩
þ aN (h1:PS X st t)(h2:PSs X cD u):PSs X (st::cD) (xF t u):=by
 intro pins s σ H D I h;r wpAny_execs_cons (thn (h1 s σ H { D with nx:=u D } I h) fun f s1 q=>?_)
 cases f with
 | next =>
   o⟨σ',H',I',q⟩:=q;e h2 s1 σ' H' D I' q
 | ret v=>e q
 | brk=>e q
 | cont=>e q
þ ah (h1:PS X st t):PSs X [st] t:=by
 intro pins s σ H D I h;r wpAny_execs_cons (thn (h1 s σ H D I h) fun f s1 q=>?_)
 cases f with
 | next=>e wpAny_execs_nil q
 | ret v=>e q
 | brk=>e q
 | cont=>e q
þ Inv.quiet {pins:List (Addr×Obj)}{σ:St}{H:Hp}{s:Shared}(I:Inv X pins σ H s):interactive X.env=false:=by simp[interactive,I.ok.kind]
noncomputable def v6 (te:TE):TS:=fun D σ H=>te σ H fun _ H1=>D.nx σ H1
þ aR (he:PE X e te)(hs:swapsWith e none pos.line X.env=pure false:=by rfl):PS X (.Expr e pos) (v6 te):=by
 intro pins s σ H D I h;e wpAny_Expr_any (thn (he s σ H _ I h) fun v s1 ⟨x,H1,I1,r1,q1⟩=>⟨σ,H1,I1,q1⟩) I.quiet hs
noncomputable def yt (te:TE):TS:=fun D σ H=>te σ H D.rt
þ aq (he:PE X e te):PS X (.Return (some e) pos) (yt te):=by
 intro pins s σ H D I h;e wpAny_Return_some (thn (he s σ H _ I h) fun v s1 ⟨x,H1,I1,r1,q1⟩=>⟨x,σ,H1,I1,r1,q1⟩)
noncomputable def t7 (c:TT)(t u:TS):TS:=fun D σ H=>c σ H fun b H1=>if b=true then t D σ H1 else u D σ H1
þ aC {c:Expr}{a b:List Stmt}{tc:TT}(hc:PT X c tc)(ha:PSs X a t)(hb:PSs X b u):PS X (.If c a b pos) (t7 tc t u):=by
 intro pins s σ H D I h;r wpAny_If (thn (hc s σ H _ I h) fun d s1 ⟨H1,I1,q1⟩=>?_)
 cases d with
 | true=>e ha s1 σ H1 D I1 q1
 | false=>e hb s1 σ H1 D I1 q1
noncomputable def x0:TS:=fun _ _ _=>False
þ cI {sts:List Stmt}:PSs X sts x0:=fun _ _ _ _ _ _ h=>h.elim
end
abbrev TG:=V→St→Hp→(St→Hp→Prop)→Prop
abbrev TGs:=List V→St→Hp→(St→Hp→Prop)→Prop
noncomputable def PG (X:Cx)(target:Expr)(t:TG):Prop :=
 ∀ ⦃pins:List (Addr×Obj)⦄ (s:Shared) (σ:St)(H:Hp) (v:V) (u:Value)(Q:St→Hp→Prop),Inv X pins σ H s→bd v u→t v σ H Q →
   wpAny (model X.prog X.w) X.A (assign target X.env u) (fun _ s'=>∃ σ' H',Inv X pins σ' H' s'∧Q σ' H') X.xe s
noncomputable def PGs (X:Cx)(ts:List Expr)(t:TGs):Prop :=
 ∀ ⦃pins:List (Addr×Obj)⦄ (s:Shared) (σ:St)(H:Hp)(vs:List V)(us:List Value)(Q:St→Hp→Prop),Inv X pins σ H s→Vals vs us→t vs σ H Q →
   wpAny (model X.prog X.w) X.A (assignInOrder ((assignEach ts X.env).map (·.2)) us) (fun _ s'=>∃ σ' H',Inv X pins σ' H' s'∧Q σ' H') X.xe s
abbrev yd:=V→V→V→Hp→(Hp→Prop)→Prop
noncomputable def za (X:Cx)(t:yd):Prop :=
 ∀ (pins:List (Addr×Obj))(s:Shared) (σ:St)(H:Hp) (o i v:V) (ov iv u:Value)(Q:Hp→Prop),Inv X pins σ H s→bd o ov→bd i iv→bd v u→t o i v H Q →
   wpAny (model X.prog X.w) X.A (setItem ov iv u) (fun _ s'=>∃ H',Inv X pins σ H' s'∧Q H') X.xe s
abbrev TIp:=V→V→Hp→VK→Prop
section
variable {X:Cx}{pos:Pos}
noncomputable def bG (i:Nat):TG:=fun v σ H Q=>Q (σ.set i (some v)) H
þ aw {i:Nat}{x:Str}(hN:X.N.Nodup)(hi:X.N[i]?=some x)(hx:Loc X.env.scope x)(hf:X.fn x=true∨X.env.scope.names.lookup x=some .local:=by first | e .inl rfl | e .inr rfl | assumption):PG X (.Name x pos) (bG i):=by
 intro pins s σ H v u Q I r h;e wpAny_assign_Name (ku I hN hi hx r (fun s' I'=>⟨_,H,I',h⟩) hf)
noncomputable def iQ:TGs:=fun vs σ H Q=>vs=[]∧Q σ H
noncomputable def bQ (t:TG)(u:TGs):TGs:=fun vs σ H Q=>∃ v r,vs=v::r∧t v σ H fun σ' H'=>u r σ' H' Q
þ bV:PGs X [] iQ:=by
 intro pins s σ H vs us Q I r h;o⟨e,h⟩:=h;subst e;cases r;e assignInOrder_nil ⟨σ,H,I,h⟩
þ aG {e:Expr}{es:List Expr}{t:TG}{u:TGs}(h1:PG X e t)(h2:PGs X es u)
   (hs:(assignEach (e::es) X.env).map (·.2)=assign e X.env::(assignEach es X.env).map (·.2):=by rfl):PGs X (e::es) (bQ t u):=by
 intro pins s σ H vs us Q I r h;o⟨v,vr,e1,h⟩:=h;subst e1
 cases r with
 | cons r rr =>
   rw[hs];r assignInOrder_cons (thn (h1 s σ H _ _ _ I r h) fun _ s1 ⟨σ1,H1,I1,q1⟩=>?_);e h2 s1 σ1 H1 _ _ Q I1 rr q1
noncomputable def kC (K:PySem.W.Frag) (n:Nat)(t:TGs):TG:=fun v σ H Q=>∃ a xs,v=.ref a∧SqT K H a xs∧xs.length=n∧t xs σ H Q
þ cC {es:List Expr}{k:Nat}{t:TGs}{n:Nat}(hc:X.calm=true)(h:PGs X es t)
   (hn:(assignEach es X.env).length=n:=by rfl)(hst:(assignEach es X.env).findIdx? (·.1)=none:=by rfl):PG X (.Tuple es k pos) (kC X.K n t):=by
 intro pins s σ H v u Q I r hw;o⟨a,xs,e1,hq,hl,hw⟩:=hw;subst e1;cases r;o⟨its,rv,ht,hz⟩:=I.tuple hq;r assign_Tuple_tuple (I.ok.hd hc) ht (by simp[hn,←hl,rv.length]) hst fun h' hx=>?_;h I1:Inv X pins σ H { s with heap:=h' }:=I.kept (t':=s.toks) fun b o e=>hx b o (z6 (Heap.lt_size e)) e;e h _ σ H xs _ Q I1 (by simpa using rv) hw
noncomputable def xW (to ti:TE)(t:yd):TG:=fun v σ H Q=>to σ H fun o H1=>ti σ H1 fun i H2=>t o i v H2 fun H3=>Q σ H3
þ pG {o i:Expr}{to ti:TE}{t:yd}(ho:PE X o to)(hi:PE X i ti)(hs:za X t)
   (ha:∀ v,assign (.Subscript o i pos) X.env v=(do
     let ov ←holding [v] (eval o X.env)
     let iv ←holding [v,ov] (eval i X.env)
     standAt pos
     holding [v,ov,iv] (setItem ov iv v)
     release [v,ov,iv] []):=by intro _;rfl):PG X (.Subscript o i pos) (xW to ti t):=by
 intro pins s σ H v u Q I r h;rw[ha];r wpAny_bind (wpAny_holding (thn (ho s σ H _ I h) fun ov s1 ⟨x,H1,I1,r1,q1⟩=>?_));r wpAny_bind (wpAny_holding (thn (hi s1 σ H1 _ I1 q1) fun iv s2 ⟨y,H2,I2,r2,q2⟩=>?_));r wpAny_bind (wpAny_standAt (wpAny_bind (wpAny_holding (thn (hs pins s2 σ H2 x y v ov iv u _ I2 r1 r2 r q2) fun _ s3 ⟨H3,I3,q3⟩=>?_))));e wpAny_release ⟨σ,H3,I3,q3⟩
noncomputable def sr (te:TE)(g:TG):TS:=fun D σ H=>te σ H fun x H1=>g x σ H1 D.nx
þ mq {tg e:Expr}{te:TE}{g:TG}(he:PE X e te)(hg:PG X tg g)(hs:swapsWithSole [tg] e pos.line X.env=pure false:=by rfl)(hw:swappedStores [tg] e X.env=pure none:=by rfl)
   (h1:(assignEach [tg] X.env).map (·.2)=[assign tg X.env]:=by rfl):PS X (.Assign [tg] e pos) (sr te g):=by
 intro pins s σ H D I h;r wpAny_Assign_stores (thn (he s σ H _ I h) fun v s1 ⟨x,H1,I1,r1,q1⟩=>?_) hs hw;rw[h1];e thn (hg s1 σ H1 x v _ I1 r1 q1) fun _ s2 q=>q
þ aL {i:Nat}{x:Str}{e:Expr}{te:TE}{pos':Pos}(hN:X.N.Nodup)(hi:X.N[i]?=some x)(hx:Loc X.env.scope x)(he:PE X e te)(hs:swapsWith e (some (.Name x pos')) pos.line X.env=pure false:=by rfl)(hf:X.fn x=true∨X.env.scope.names.lookup x=some .local:=by first | e .inl rfl | e .inr rfl | assumption) :
   PS X (.Assign [.Name x pos'] e pos) (sr te (bG i)):=by
 intro pins s σ H D I h;r wpAny_Assign_Name (thn (he s σ H _ I h) fun v s1 ⟨y,H1,I1,r1,q1⟩=>?_) hs;e ku I1 hN hi hx r1 (fun s2 I2=>⟨_,H1,I2,q1⟩) hf
noncomputable def yT (i:Nat)(te:TE)(ti:TIp):TS:=fun D σ H=>∃ x,σ[i]?=some (some x)∧te σ H fun y H1=>ti x y H1 fun z H2=>D.nx (σ.set i (some z)) H2
noncomputable def ipI (f:Int→Int→Int):TIp:=fun x y H Q=>∃ i j,x=.int i∧y=.int j∧Q (.int (f i j)) H
end
section
variable {X:Cx}{pos:Pos}
noncomputable def xY (c:TT)(tb:TS):TS:=fun D σ H=>∃ W:Nat→St→Hp→Prop,(∃ m,W m σ H)∧∀ m σ H,W m σ H →
 c σ H fun b H1=>if b=true then ∃ N:St→Hp→Prop,(∀ σ' H',N σ' H'→∃ m',m' < m∧W m' σ' H')∧tb { D with nx:=N,ct:=N,bk:=D.nx } σ H1 else D.nx σ H1
þ uv {c:Expr}{body:List Stmt}{tc:TT}{tb:TS}(hp:PassesOwn (model X.prog X.w) X.A X.env X.xe)(hc:PT X c tc)(hb:PSs X body tb):PS X (.While c body [] pos) (xY tc tb):=by
 intro pins s σ H D I h;o⟨W,⟨m0,w0⟩,turn⟩:=h;r wpAny_While (codeAny_whileLoop (fun n s'=>∃ σ' H',Inv X pins σ' H' s'∧W n σ' H') ?_ m0 ⟨σ,H,I,w0⟩);rintro n s1 ⟨σ1,H1,I1,w1⟩;r wpAny_passesOwn hp (thn (hc s1 σ1 H1 _ I1 (turn n σ1 H1 w1)) fun b s2 ⟨H2,I2,q2⟩=>?_)
 cases b with
 | true =>
   o⟨N,hN,q2⟩:=q2;rw[if_pos rfl];r wpAny_passesOwn hp (thn (hb s2 σ1 H2 _ I2 q2) fun f s3 q3=>?_)
   cases f with
   | next =>
     o⟨σ3,H3,I3,n3⟩:=q3;o⟨m',hm,w3⟩:=hN σ3 H3 n3;e⟨m',hm,σ3,H3,I3,w3⟩
   | cont =>
     o⟨σ3,H3,I3,n3⟩:=q3;o⟨m',hm,w3⟩:=hN σ3 H3 n3;e⟨m',hm,σ3,H3,I3,w3⟩
   | brk=>e q3
   | ret v=>e q3
 | false =>
   rw[if_neg Bool.false_ne_true];e wpAny_execs_nil ⟨σ1,H2,I2,q2⟩
end
structure It where
 go:Nat→Hp→Prop
 yld:Nat→Hp→V→Hp→Prop
 stop:Nat→Hp→Prop
noncomputable def fw (X:Cx)(pins:List (Addr×Obj))(H:Hp)(b:Addr):Prop :=
 H b=none∧b≠X.env.locals∧b∉X.fs∧(b∈X.ex∨X.s₀.heap.objs.size≤b)∧(∀ x c,X.env.cells.lookup x=some c→c≠b)∧∀ p∈X.pn++pins,p.1≠b
þ Inv.fpOk {X:Cx}{pins:List (Addr×Obj)}{σ:St}{H H':Hp}{s:Shared}{b:Addr}(I:Inv X pins σ H s)(hb:s.heap.objs.size≤b)(hn:H' b=none):fw X pins H' b:=by
 r⟨hn,BG (z9 I.lt hb),I.nofs hb,.inr (AB I.sz hb),fun x c e z=>?_,fun p hp z=>?_⟩
 . o⟨v,q⟩:=I.cell x c e;e absurd (z9 q.lt (by rw[z];e hb)) (A7 _)
 . e absurd (z9 (Heap.lt_size (I.pin p hp).1) (by rw[z];e hb)) (A7 _)
structure nU (P:Program)(w:World)(K:PySem.W.Frag)(tg:Expr)(J:It)(fp:List Addr)(it:Addr)(tn:Nat→Heap→Prop):Prop where
 mem:it∈fp
 obj:∀ i h,tn i h→∀ b∈fp,∃ o,h.get? b=some o∧∀ v,o.data≠.cell v
 keep:∀ i h h',tn i h→(∀ b∈fp,∀ o,h.get? b=some o→h'.get? b=some o)→tn i h'
 item:∀ (X:Cx),X.prog=P→X.w=w→X.K=K→X.calm=true→∀ (i:Nat)(pins:List (Addr×Obj))(s:Shared) (σ:St)(H:Hp)(E:Value→Shared→Prop),Inv X pins σ H s→(∀ b∈fp,fw X pins H b)→tn i s.heap→J.go i H →
   wpAny (model P w) X.A (pyNext (.ref it)) (fun r s1=>∃ u,r=some u ∧
     wpAny (model P w) X.A (letOwnedTupleGo tg (.ref it) u) (fun _ s2=>∃ x H',Inv X pins σ H' s2∧bd x u∧J.yld i H x H'∧tn (i+1) s2.heap∧∀ b∈fp,H' b=none) E s1) E s
 done:∀ (X:Cx),X.prog=P→X.w=w→X.K=K→X.calm=true→∀ (i:Nat)(pins:List (Addr×Obj))(s:Shared) (σ:St)(H:Hp)(E:Value→Shared→Prop),Inv X pins σ H s→(∀ b∈fp,fw X pins H b)→tn i s.heap→J.stop i H →
   wpAny (model P w) X.A (pyNext (.ref it)) (fun r s1=>r=none∧Inv X pins σ H s1) E s
 self:∀ (A:Around) (i:Nat)(s:Shared)(Q:Value→Shared→Prop)(E:Value→Shared→Prop),tn i s.heap→Q (.ref it) s→wpAny (model P w) A (pyIter (.ref it)) Q E s
abbrev TI:=St→Hp→(It→Hp→Prop)→Prop
noncomputable def PIE (X:Cx)(pins:List (Addr×Obj)) (σ:St)(tg:Expr)(R:It→Hp→Prop) (itv:Value)(s2:Shared):Prop :=
 ∃ (it:Addr)(fp:List Addr)(tn:Nat→Heap→Prop)(J:It)(H':Hp),itv=.ref it∧Inv X pins σ H' s2∧nU X.prog X.w X.K tg J fp it tn∧tn 0 s2.heap∧(∀ b∈fp,fw X pins H' b)∧R J H'
noncomputable def PI (X:Cx)(tg iter:Expr)(wi:TI):Prop :=
 ∀ ⦃pins:List (Addr×Obj)⦄ (s:Shared) (σ:St)(H:Hp)(R:It→Hp→Prop),Inv X pins σ H s→wi σ H R →
   wpAny (model X.prog X.w) X.A (eval iter X.env) (fun v s1=>wpAny (model X.prog X.w) X.A (pyIter v) (PIE X pins σ tg R) X.xe s1) X.xe s
þ nZ {M:Model}{A:Around}{E:Value→Shared→Prop}{s:Shared}{tg:Expr}{it:Addr}{u:Value}{o:Obj}{n:String}{vs:Array Value}{Q:Unit→Shared→Prop}(ho:s.heap.get? it=some o)(hc:o.cls=.type n)(hd:o.data=.fields vs)
   (hn:["enumerate", "zip", "dict_itemiterator", "dict_reverseitemiterator", "odict_iterator", "itertools.zip_longest", "itertools.pairwise"].contains n=false)(hQ:Q () s):wpAny M A (letOwnedTupleGo tg (.ref it) u) Q E s:=by
 unfold letOwnedTupleGo
 cases tg<;>first
   | e wpAny_pure hQ
   | (cases u<;>first
       | e wpAny_pure hQ
       | (r wpAny_bind (wpAny_load ho ?_)
          rw[hc,hd];show wpAny M A (if(["enumerate", "zip", "dict_itemiterator", "dict_reverseitemiterator", "odict_iterator", "itertools.zip_longest", "itertools.pairwise"].contains n&&vs[0]?==some (rawInt _))=true then _ else _) Q E s;rw[if_neg (by intro h;rw[hn,Bool.false_and] at h;cases h)]
          e wpAny_pure hQ))
noncomputable def Itl (K:PySem.W.Frag)(a:Addr):It :=
 ⟨fun i H=>∃ xs x,SqL K H a xs∧xs[i]?=some x,fun i H x H'=>H'=H∧∀ xs,SqL K H a xs→xs[i]?=some x,fun i H=>∃ xs,SqL K H a xs∧xs.length≤i⟩
noncomputable def Itt (K:PySem.W.Frag)(a:Addr):It :=
 ⟨fun i H=>∃ xs x,SqT K H a xs∧xs[i]?=some x,fun i H x H'=>H'=H∧∀ xs,SqT K H a xs→xs[i]?=some x,fun i H=>∃ xs,SqT K H a xs∧xs.length≤i⟩
noncomputable def Itr (lo:Int) (n:Nat):It:=⟨fun i _=>i < n,fun i H x H'=>H'=H∧x=.int (lo+i),fun i _=>n≤i⟩
þ tf {P:Program}{w:World}{K:PySem.W.Frag}{tg:Expr}(a it:Addr):nU P w K tg (Itl K a) [it] it (fun i h=>h.IsListIter it a i) where
 mem:=by simp
 obj:=fun i h st b hb=>by
   h e:b=it:=by simpa using hb
   subst e;o⟨o,e,c,d⟩:=st;e⟨o,e,fun v z=>by rw[d] at z;cases z⟩
 keep:=fun i h h' st k=>st.at fun o e=>k it (by simp) o e
 item:=by
   intro X hP hw hK hc i pins s σ H E I hf st hg;subst hP hw hK;o⟨xs,x,hq,hx⟩:=hg;o⟨its,rv,p,hz⟩:=I.list hq;o⟨u,hu,ru⟩:=rv.get hx;o⟨f0,f1,f2,f3,f4,f5⟩:=hf it (by simp);r wpAny_pyNext_list_item st p.isList (x:=u) (by simpa using hu) fun h' st' sb=>?_;h I1:Inv X pins σ H { s with heap:=h' }:=I.turned (t':=s.toks) (fun b o hb e=>(sb.2 b hb).trans e) f0 f1 f3 f4 f5;o⟨o,e,c,d⟩:=id st';e⟨u,rfl,nZ (s:={ s with heap:=h' }) e c d (by decide) ⟨x,H,I1,ru,⟨rfl,fun ys hy=>by rw[I.list_inj hy hq];e hx⟩,st',fun b hb=>(hf b hb).1⟩⟩
 done:=by
   intro X hP hw hK hc i pins s σ H E I hf st hg;subst hP hw hK;o⟨xs,hq,hx⟩:=hg;o⟨its,rv,p,hz⟩:=I.list hq;o⟨f0,f1,f2,f3,f4,f5⟩:=hf it (by simp);h hl:=rv.length;e wpAny_pyNext_list_end (I.ok.hd hc) st p.isList (by simp;m) fun h' eb=>⟨rfl,I.turned (t':=s.toks) (fun b o hb e=>eb b o hb e) f0 f1 f3 f4 f5⟩
 self:=fun _ _ _ _ _ st h=>wpAny_pyIter_listiter st h
þ qu {P:Program}{w:World}{K:PySem.W.Frag}{tg:Expr}(a it:Addr):nU P w K tg (Itt K a) [it] it (fun i h=>h.IsTupleIter it a i) where
 mem:=by simp
 obj:=fun i h st b hb=>by
   h e:b=it:=by simpa using hb
   subst e;o⟨o,e,c,d⟩:=st;e⟨o,e,fun v z=>by rw[d] at z;cases z⟩
 keep:=fun i h h' st k=>st.at fun o e=>k it (by simp) o e
 item:=by
   intro X hP hw hK hc i pins s σ H E I hf st hg;subst hP hw hK;o⟨xs,x,hq,hx⟩:=hg;o⟨its,rv,p,hz⟩:=I.tuple hq;o⟨u,hu,ru⟩:=rv.get hx;o⟨f0,f1,f2,f3,f4,f5⟩:=hf it (by simp);r wpAny_pyNext_tuple_item st (show s.heap.IsTuple a its.toArray from p) (x:=u) (by simpa using hu) fun h' st' sb=>?_;h I1:Inv X pins σ H { s with heap:=h' }:=I.turned (t':=s.toks) (fun b o hb e=>(sb.2 b hb).trans e) f0 f1 f3 f4 f5;o⟨o,e,c,d⟩:=id st';e⟨u,rfl,nZ (s:={ s with heap:=h' }) e c d (by decide) ⟨x,H,I1,ru,⟨rfl,fun ys hy=>by rw[I.tuple_inj hy hq];e hx⟩,st',fun b hb=>(hf b hb).1⟩⟩
 done:=by
   intro X hP hw hK hc i pins s σ H E I hf st hg;subst hP hw hK;o⟨xs,hq,hx⟩:=hg;o⟨its,rv,p,hz⟩:=I.tuple hq;o⟨f0,f1,f2,f3,f4,f5⟩:=hf it (by simp);h hl:=rv.length;e wpAny_pyNext_tuple_end (I.ok.hd hc) st (show s.heap.IsTuple a its.toArray from p) (by simp;m) fun h' eb=>⟨rfl,I.turned (t':=s.toks) (fun b o hb e=>eb b o hb e) f0 f1 f3 f4 f5⟩
 self:=fun _ _ _ _ _ st h=>wpAny_pyIter_tupleiter st h
þ qI {P:Program}{w:World}{K:PySem.W.Frag}{tg:Expr}(it:Addr) (lo:Int) (n:Nat):nU P w K tg (Itr lo n) [it] it (fun i h=>IsRangeIter h it (lo+(i:Nat)*1) ((n:Int) - (i:Nat)) 1) where
 mem:=by simp
 obj:=fun i h st b hb=>by
   h e:b=it:=by simpa using hb
   subst e
   e⟨_,st,fun v z=>by
     h z':Data.fields _=Data.cell v:=z
     cases z'⟩
 keep:=fun i h h' st k=>k it (by simp) _ st
 item:=by
   intro X hP hw hK hc i pins s σ H E I hf st hg;subst hP hw hK;o⟨f0,f1,f2,f3,f4,f5⟩:=hf it (by simp);h W:=Walks.range (prog:=X.prog) (w:=X.w) (I.ok.hd hc) it lo 1 n;r W.item i s _ _ hg st fun v h' tk hv st' kk=>?_;o⟨t,rfl⟩:=hv;h I1:Inv X pins σ H { s with heap:=h',toks:=tk }:=I.turned (fun b o hb e=>kk b o (by simpa using hb) e) f0 f1 f3 f4 f5;r⟨_,rfl,nZ (s:={ s with heap:=h',toks:=tk }) (n:="range_iterator") st' rfl rfl (by decide) ⟨.int (lo+i),H,I1,⟨t,?_⟩,⟨rfl,rfl⟩,st',fun b hb=>(hf b hb).1⟩⟩;rw[Int.mul_one]
 done:=by
   intro X hP hw hK hc i pins s σ H E I hf st hg;subst hP hw hK;o⟨f0,f1,f2,f3,f4,f5⟩:=hf it (by simp);e wpAny_pyNext_range_end (I.ok.hd hc) st (by h:n≤i:=hg;m) fun h' eb=>⟨rfl,I.turned (t':=s.toks) (fun b o hb e=>eb b o hb e) f0 f1 f3 f4 f5⟩
 self:=fun _ _ _ _ _ st h=>wpAny_pyIter_rangeiter st h
section
variable {X:Cx}{tg:Expr}
noncomputable def vi (K:PySem.W.Frag)(tl:TE):TI:=fun σ H R=>tl σ H fun x H1=>∃ a,x=.ref a∧(∃ xs,SqL K H1 a xs)∧R (Itl K a) H1
noncomputable def xP (K:PySem.W.Frag)(tl:TE):TI:=fun σ H R=>tl σ H fun x H1=>∃ a,x=.ref a∧(∃ xs,SqT K H1 a xs)∧R (Itt K a) H1
þ ba {l:Expr}{tl:TE}(hl:PE X l tl):PI X tg l (vi X.K tl):=by
 intro pins s σ H R I h;r thn (hl s σ H _ I h) fun v s1 ⟨x,H1,I1,r1,q1⟩=>?_;o⟨a,e,⟨xs,hq⟩,q⟩:=q1;subst e;cases r1;o⟨its,rv,p,hz⟩:=I1.list hq;r wpAny_pyIter_list p.isList ?_;r⟨s1.heap.objs.size,[s1.heap.objs.size],_,_,H1,rfl,I1.kept (t':=s1.toks) fun b o e=>Heap.get?_push_of_some _ e,tf a _,⟨_,Heap.get?_push_size _ rfl,rfl,rfl⟩,fun b hb=>?_,q⟩
 h e:b=s1.heap.objs.size:=by simpa using hb
 subst e;e I1.fpOk (zN _) (I1.hok.fresh (zN _))
þ yo {l:Expr}{tl:TE}(hl:PE X l tl):PI X tg l (xP X.K tl):=by
 intro pins s σ H R I h;r thn (hl s σ H _ I h) fun v s1 ⟨x,H1,I1,r1,q1⟩=>?_;o⟨a,e,⟨xs,hq⟩,q⟩:=q1;subst e;cases r1;o⟨its,rv,p,hz⟩:=I1.tuple hq;r wpAny_pyIter_tuple (show s1.heap.IsTuple a its.toArray from p) ?_;r⟨s1.heap.objs.size,[s1.heap.objs.size],_,_,H1,rfl,I1.kept (t':=s1.toks) fun b o e=>Heap.get?_push_of_some _ e,qu a _,⟨_,Heap.get?_push_size _ rfl,rfl,rfl⟩,fun b hb=>?_,q⟩
 h e:b=s1.heap.objs.size:=by simpa using hb
 subst e;e I1.fpOk (zN _) (I1.hok.fresh (zN _))
þ uH {pins:List (Addr×Obj)}{σ:St}{H:Hp}{s:Shared}{R:It→Hp→Prop}{E:Value→Shared→Prop}{lo hi:Int}{t u v:Tok}{tk:Nat}(I:Inv X pins σ H s)(h1:-(2 ^ 62)≤lo)(h2:lo < 2 ^ 62)(h3:-(2 ^ 62)≤hi)(h4:hi < 2 ^ 62)
   (q:R (Itr lo (hi - lo).toNat) H):wpAny (model X.prog X.w) X.A (pyIter (.ref s.heap.objs.size)) (PIE X pins σ tg R) E { s with heap:=s.heap.push { cls:=.type "range",data:=.fields #[.int lo t,.int hi u,.int 1 v] },toks:=tk }:=by
 r wpAny_pyIter_range (IsRange.new ..) (small_one h1 h2 h3 h4) ?_;h I1:Inv X pins σ H { s with heap:=s.heap.push { cls:=.type "range",data:=.fields #[.int lo t,.int hi u,.int 1 v] },toks:=tk }:=I.kept fun b o e=>Heap.get?_push_of_some _ e
 r⟨(s.heap.push { cls:=.type "range",data:=.fields #[.int lo t,.int hi u,.int 1 v] }).objs.size,[(s.heap.push { cls:=.type "range",data:=.fields #[.int lo t,.int hi u,.int 1 v] }).objs.size],_,_,H,rfl,
   I1.kept (t':=tk) fun b o e=>Heap.get?_push_of_some _ e,qI _ lo (hi - lo).toNat,?_,fun b hb=>?_,q⟩
 . h e1:lo+((0:Nat):Int)*1=lo:=by simp
   h e2:(((hi - lo).toNat:Nat):Int) - ((0:Nat):Int)=Builtin.Range.rangeSize lo hi 1:=by rw[rangeSize_one];split<;>m
   show IsRangeIter _ _ (lo+((0:Nat):Int)*1) ((((hi - lo).toNat:Nat):Int) - ((0:Nat):Int)) 1;rw[e1,e2];e Heap.get?_push_size _ rfl
 . h e:b=(s.heap.push { cls:=.type "range",data:=.fields #[.int lo t,.int hi u,.int 1 v] }).objs.size:=by simpa using hb
   subst e;e I1.fpOk (zN _) (I1.hok.fresh (zN _))
noncomputable def uY (ta:TA):TI:=fun σ H R=>ta σ H fun vs H1=>∃ j:Int,vs=[.int j]∧-(2 ^ 62)≤j∧j < 2 ^ 62∧R (Itr 0 j.toNat) H1
noncomputable def xl (ta:TA):TI:=fun σ H R=>ta σ H fun vs H1=>∃ i j:Int,vs=[.int i,.int j]∧(-(2 ^ 62)≤i∧i < 2 ^ 62∧-(2 ^ 62)≤j∧j < 2 ^ 62)∧R (Itr i (j - i).toNat) H1
þ ck {a:Expr}{ta:TA}{p pos:Pos}(hg:Gl X "range")(hm:X.mg "range"=none)(ha:PA X [a] ta)(hs:starEach [a] X.env=[(false,eval a X.env)]:=by rfl):PI X tg (.Call (.Name "range" p) [a] [] pos) (uY ta):=by
 intro pins s σ H R I h;r Call_ (ir I hg hm boot_range (A6 (thn (ha pos s σ H _ I h) fun us s1 ⟨vs,H1,I1,r1,q1⟩=>?_) hs rfl));o⟨j,e,q1,q2,q⟩:=q1;subst e
 cases r1 with
 | cons r rr =>
   cases rr;o⟨t,rfl⟩:=r;e call_range_1 (uH I1 (by m) (by m) q1 q2 (by simpa using q))
noncomputable def zt (wi:TI)(g:TG)(tb:TS):TS:=fun D σ H=>wi σ H fun J H1=>∃ W:Nat→Nat→St→Hp→Prop,(∃ m,W 0 m σ H1)∧∀ i m σ H,W i m σ H →
 (J.stop i H∧D.nx σ H)∨(J.go i H∧∃ N:St→Hp→Prop,(∀ σ' H',N σ' H'→∃ m',m' < m∧W (i+1) m' σ' H')∧∀ x H',J.yld i H x H'→g x σ H' fun σ2 H2=>tb { D with nx:=N,ct:=N,bk:=D.nx } σ2 H2)
noncomputable def kQ (fp:List Addr)(h:Heap):List (Addr×Obj):=fp.filterMap fun b=>(h.get? b).map fun o=>(b,o)
þ dD {fp:List Addr}{h:Heap}{b:Addr}{o:Obj}(hb:b∈fp)(e:h.get? b=some o):(b,o)∈kQ fp h:=List.mem_filterMap.mpr ⟨b,hb,by rw[e];rfl⟩
þ tu {fp:List Addr}{h:Heap}{p:Addr×Obj}(hp:p∈kQ fp h):p.1∈fp∧h.get? p.1=some p.2:=by
 o⟨b,hb,e⟩:=List.mem_filterMap.mp hp
 cases q:h.get? b with
 | none=>rw[q] at e;cases e
 | some o =>
   rw[q] at e;h e':(b,o)=p:=Option.some.inj e;subst e';e⟨hb,q⟩
þ Inv.pinned {pins:List (Addr×Obj)}{σ:St}{H:Hp}{s:Shared}{fp:List Addr}(I:Inv X pins σ H s)(hf:∀ b∈fp,fw X pins H b)(ho:∀ b∈fp,∃ o,s.heap.get? b=some o∧∀ v,o.data≠.cell v):Inv X (pins++kQ fp s.heap) σ H s :=
 I.pins_of fun p hp=>(List.mem_append.mp hp).elim (fun z=>I.pin p (Ae _ z)) fun z=>by
   o⟨hb,e⟩:=tu z;o⟨f0,f1,f2,_⟩:=hf p.1 hb;o⟨o,e',d⟩:=ho p.1 hb;rw[e] at e';cases e';e⟨e,f0,f1,f2,d⟩
þ Inv.unpinned {pins pl:List (Addr×Obj)}{σ:St}{H:Hp}{s:Shared}(I:Inv X (pins++pl) σ H s):Inv X pins σ H s:=I.pins_of fun p hp=>I.pin p (Ae _ (AR _ hp))
þ bC {iter:Expr}{body:List Stmt}{wi:TI}{g:TG}{tb:TS}{pos:Pos}(hp:PassesOwn (model X.prog X.w) X.A X.env X.xe)(hc:X.calm=true)(hi:PI X tg iter wi)(hg:PG X tg g)(hb:PSs X body tb)
   (hs:∀ x,foldedSetIterable iter X.env x=pure x:=by intro _;rfl):PS X (.For tg iter body [] pos) (zt wi g tb):=by
 intro pins s σ H D I h;r wpAny_For (thn (hi s σ H _ I h) fun v s1 h1=>thn h1 fun itv s2 h2=>?_) hs;o⟨it,fp,tn,J,H2,e,I2,T,st2,f2,W,⟨m0,w0⟩,turn⟩:=h2;subst e;h stat:∀ {H':Hp},(∀ b∈fp,H' b=none)→∀ b∈fp,fw X pins H' b:=fun hn b hb=>⟨hn b hb,(f2 b hb).2⟩;r codeAny_forLoop_any (fun n s'=>∃ i σ' H',Inv X pins σ' H' s'∧tn i s'.heap∧(∀ b∈fp,H' b=none)∧W i n σ' H') ?_ m0 ⟨0,σ,H2,I2,st2,fun b hb=>(f2 b hb).1,w0⟩;rintro n s3 ⟨i,σ3,H3,I3,st3,fr3,w3⟩
 rcases turn i n σ3 H3 w3 with ⟨stop,qn⟩ | ⟨go,N,hN,step⟩
 . r wpAny_passesOwn hp (thn (T.done X rfl rfl rfl hc i pins s3 σ3 H3 X.xe I3 (stat fr3) st3 stop) fun r s4 ⟨hr,I4⟩=>?_);subst hr;e wpAny_execs_nil ⟨σ3,H3,I4,qn⟩
 . r wpAny_passesOwn hp (thn (T.item X rfl rfl rfl hc i pins s3 σ3 H3 X.xe I3 (stat fr3) st3 go) fun r s4 ⟨u,hr,h4⟩=>?_);subst hr;r wpAny_passesOwn hp (thn h4 fun _ s5 ⟨x,H5,I5,r5,y5,st5,fr5⟩=>?_);h I5':=I5.pinned (stat fr5) (T.obj _ _ st5);r wpAny_passesOwn hp (thn (hg s5 σ3 H5 x u _ I5' r5 (step x H5 y5)) fun _ s6 ⟨σ6,H6,I6,q6⟩=>?_);r wpAny_passesOwn hp (thn (hb s6 σ6 H6 _ I6 q6) fun f s7 q7=>?_)
   h again:∀ {σ7:St}{H7:Hp},Inv X (pins++kQ fp s5.heap) σ7 H7 s7→N σ7 H7→∃ m,m < n∧∃ i σ' H',Inv X pins σ' H' s7∧tn i s7.heap∧(∀ b∈fp,H' b=none)∧W i m σ' H':=fun {σ7 H7} I7 n7=>by
     o⟨m',hm,w7⟩:=hN σ7 H7 n7;r⟨m',hm,i+1,σ7,H7,I7.unpinned,T.keep _ _ _ st5 fun b hb o e=>(I7.pin (b,o) (Ae _ (Ae _ (dD hb e)))).1,fun b hb=>?_,w7⟩;o⟨o,e,d⟩:=T.obj _ _ st5 b hb;e(I7.pin (b,o) (Ae _ (Ae _ (dD hb e)))).2.1
   cases f with
   | next=>o⟨σ7,H7,I7,n7⟩:=q7;e again I7 n7
   | cont=>o⟨σ7,H7,I7,n7⟩:=q7;e again I7 n7
   | brk=>o⟨σ7,H7,I7,q7⟩:=q7;e⟨σ7,H7,I7.unpinned,q7⟩
   | ret v=>o⟨x7,σ7,H7,I7,r7,q7⟩:=q7;e⟨x7,σ7,H7,I7.unpinned,r7,q7⟩
end
abbrev R2:=V→V→Hp→VK→Prop
noncomputable def OpR (X:Cx)(f:Value→Value→Sem Value)(r:R2):Prop :=
 ∀ (pins:List (Addr×Obj))(s:Shared) (σ:St)(H:Hp) (x y:V) (v u:Value)(Q:VK),Inv X pins σ H s→bd x v→bd y u→r x y H Q →
   wpAny (model X.prog X.w) X.A (f v u) (EP X pins σ Q) X.xe s
noncomputable def UnR (X:Cx)(f:Value→Sem Value)(r:V→Hp→VK→Prop):Prop :=
 ∀ (pins:List (Addr×Obj))(s:Shared) (σ:St)(H:Hp) (x:V) (v:Value)(Q:VK),Inv X pins σ H s→bd x v→r x H Q →
   wpAny (model X.prog X.w) X.A (f v) (EP X pins σ Q) X.xe s
noncomputable def cv (X:Cx) (f:Value)(r:List V→Hp→VK→Prop):Prop :=
 ∀ (pins:List (Addr×Obj))(s:Shared) (σ:St)(H:Hp)(xs:List V)(us:List Value)(Q:VK),Inv X pins σ H s→Vals xs us→r xs H Q →
   wpAny (model X.prog X.w) X.A (call f us) (EP X pins σ Q) X.xe s
noncomputable def tOp (r:R2)(ta tb:TE):TE:=fun σ H Q=>ta σ H fun x H1=>tb σ H1 fun y H2=>r x y H2 Q
noncomputable def tUn (r:V→Hp→VK→Prop)(ta:TE):TE:=fun σ H Q=>ta σ H fun x H1=>r x H1 Q
noncomputable def rI (C:Int→Int→Prop)(g:Int→Int→V):R2:=fun x y H Q=>isInt x fun i=>isInt y fun j=>C i j∧Q (g i j) H
noncomputable def rI0 (g:Int→Int→V):R2:=fun x y H Q=>isInt x fun i=>isInt y fun j=>Q (g i j) H
noncomputable def rU (g:Int→V):V→Hp→VK→Prop:=fun x H Q=>∃ i,x=.int i∧Q (g i) H
section
variable {X:Cx}{a b c:Expr}{ta tb tc:TE}{pos:Pos}
þ xA (ha:PE X a ta)(hb:PE X b tb){pins:List (Addr×Obj)}{s:Shared}{σ:St}{H:Hp}{R:V→V→Hp→Prop}(I:Inv X pins σ H s)
   (h:ta σ H fun x H1=>tb σ H1 fun y H2=>R x y H2){Q:Value→Shared→Prop}{f:Value→Value→Sem Value}
   (hf:∀ v u s2 x y H2,Inv X pins σ H2 s2→bd x v→bd y u→R x y H2→wpAny (model X.prog X.w) X.A (f v u) Q X.xe s2) :
   wpAny (model X.prog X.w) X.A (eval a X.env) (fun v s₁=>wpAny (model X.prog X.w) X.A (eval b X.env) (fun u s₂=>wpAny (model X.prog X.w) X.A (f v u) Q X.xe s₂) X.xe s₁) X.xe s:=by
 r thn (ha s σ H _ I h) fun v s1 ⟨x,H1,I1,r1,q1⟩=>?_;r thn (hb s1 σ H1 _ I1 q1) fun u s2 ⟨y,H2,I2,r2,q2⟩=>?_;e hf v u s2 x y H2 I2 r1 r2 q2
þ aI {op:Operator}{r:R2}(ho:OpR X (binaryOp op) r)(ha:PE X a ta)(hb:PE X b tb):PE X (.BinOp a op b pos) (tOp r ta tb):=by
 intro pins s σ H Q I h;e wpAny_BinOp (xA ha hb I h fun v u s2 x y H2 I2 rx ry q=>ho pins s2 σ H2 x y v u Q I2 rx ry q)
þ eW {op:UnaryOp}{r:V→Hp→VK→Prop}(ho:UnR X (unaryOp op) r)(ha:PE X a ta):PE X (.UnaryOp op a pos) (tUn r ta):=by
 intro pins s σ H Q I h;e UnaryOp_ (thn (ha s σ H _ I h) fun v s1 ⟨x,H1,I1,r1,q1⟩=>ho pins s1 σ H1 x v Q I1 r1 q1)
þ opI {f:Value→Value→Sem Value}{C:Int→Int→Prop}{g:Int→Int→Int}
   (rule:∀ (i j:Int)(t u:Tok)(s:Shared)(Q:Value→Shared→Prop)(E:Value→Shared→Prop),C i j→Q (.int (g i j) s.toks) { s with toks:=s.toks+1 }→wpAny (model X.prog X.w) X.A (f (.int i t) (.int j u)) Q E s) :
   OpR X f (rI C fun i j=>.int (g i j)):=by
 intro pins s σ H x y v u Q I rx ry h;rw[rI,cV] at h;o⟨i,rfl,h⟩:=h;rw[cV] at h;o⟨j,rfl,hc,q⟩:=h;o⟨t,rfl⟩:=rx;o⟨t',rfl⟩:=ry;e rule i j t t' s _ _ hc ⟨.int (g i j),H,I.tok _,⟨_,rfl⟩,q⟩
þ yU {f:Value→Value→Sem Value}{g:Int→Int→Int}
   (rule:∀ (i j:Int)(t u:Tok)(s:Shared)(Q:Value→Shared→Prop)(E:Value→Shared→Prop),Q (.int (g i j) s.toks) { s with toks:=s.toks+1 }→wpAny (model X.prog X.w) X.A (f (.int i t) (.int j u)) Q E s) :
   OpR X f (rI0 fun i j=>.int (g i j)):=by
 intro pins s σ H x y v u Q I rx ry h;rw[rI0,cV] at h;o⟨i,rfl,h⟩:=h;rw[cV] at h;o⟨j,rfl,q⟩:=h;o⟨t,rfl⟩:=rx;o⟨t',rfl⟩:=ry;e rule i j t t' s _ _ ⟨.int (g i j),H,I.tok _,⟨_,rfl⟩,q⟩
þ wH {f:Value→Value→Sem Value}{g:Int→Int→Bool}
   (rule:∀ (i j:Int)(t u:Tok)(s:Shared)(Q:Value→Shared→Prop)(E:Value→Shared→Prop),Q (.bool (g i j)) s→wpAny (model X.prog X.w) X.A (f (.int i t) (.int j u)) Q E s) :
   OpR X f (rI0 fun i j=>.bl (g i j)):=by
 intro pins s σ H x y v u Q I rx ry h;rw[rI0,cV] at h;o⟨i,rfl,h⟩:=h;rw[cV] at h;o⟨j,rfl,q⟩:=h;o⟨t,rfl⟩:=rx;o⟨t',rfl⟩:=ry;e rule i j t t' s _ _ ⟨.bl (g i j),H,I,rfl,q⟩
noncomputable def zv (i j:Int):Prop:=0 < j∧j < 1073741824
noncomputable def zF (i j:Int):Prop:=0≤j∧j≤1000000∧i.natAbs < 2 ^ 64
noncomputable def vT (i j:Int):Prop:=(-(2 ^ 64) < i∧i < 2 ^ 64)∨(-(2 ^ 64) < j∧j < 2 ^ 64)
þ vT.ok {i j:Int}(h:vT i j):IntMulOk i j:=by
 rcases h with ⟨h1,h2⟩ | ⟨h1,h2⟩
 . e .of_left (intBits_le_64 h1 h2)
 . e .of_right (intBits_le_64 h1 h2)
þ cp:OpR X (binaryOp .Add) (rI0 fun i j=>.int (i+j)):=yU fun _ _ _ _ _ _ _ q=>add_int q
þ mV:OpR X (binaryOp .Sub) (rI0 fun i j=>.int (i - j)):=yU fun _ _ _ _ _ _ _ q=>sub_int q
þ fN:OpR X (binaryOp .Mult) (rI vT fun i j=>.int (i*j)):=opI fun _ _ _ _ _ _ _ hc q=>mul_int q hc.ok
þ br:OpR X (binaryOp .Mod) (rI (fun _ j=>0 < j) fun i j=>.int (i % j)):=opI fun i j _ _ _ _ _ hc q=>by
 h h1:(0:Int) < j:=hc;e mod_int' (by m) (by rw[Int.fmod_eq_emod_of_nonneg i (by m)];e q)
þ ug:OpR X (binaryOp .Pow) (rI zF fun i j=>.int (i ^ j.toNat)):=opI fun _ _ _ _ _ _ _ hc q=>pow_int_small hc.1 hc.2.1 hc.2.2 q
þ unI {f:Value→Sem Value}{g:Int→Int}
   (rule:∀ (i:Int)(t:Tok)(s:Shared)(Q:Value→Shared→Prop)(E:Value→Shared→Prop),Q (.int (g i) s.toks) { s with toks:=s.toks+1 }→wpAny (model X.prog X.w) X.A (f (.int i t)) Q E s) :
   UnR X f (rU fun i=>.int (g i)):=by
 intro pins s σ H x v Q I rx h;o⟨i,rfl,q⟩:=h;o⟨t,rfl⟩:=rx;e rule i t s _ _ ⟨.int (g i),H,I.tok _,⟨_,rfl⟩,q⟩
þ dC:UnR X (unaryOp .USub) (rU fun i=>.int (-i)):=unI fun _ _ _ _ _ q=>neg_int q
end
noncomputable def y9:V→V→Bool
 | .non,.non=>true | .non,.int _=>true | .int _,.non=>true | .non,.bl _=>true | .bl _,.non=>true | .non,.str _=>true | .str _,.non=>true
 | .int _,.int _=>true | .bl _,.bl _=>true | .str _,.str _=>true | .byt _,.byt _=>true
 | .int _,.str _=>true | .str _,.int _=>true | .bl _,.str _=>true | .str _,.bl _=>true
 | _,_=>false
noncomputable def rEq:R2:=fun x y H Q=>y9 x y=true∧Q (.bl (decide (x=y))) H
noncomputable def rNe:R2:=fun x y H Q=>y9 x y=true∧Q (.bl (!decide (x=y))) H
þ rA {i j:Int}:decide (V.int i=V.int j)=(i==j):=by
 rw[Bool.eq_iff_iff];simp
þ uD {i j:Bool}:decide (V.bl i=V.bl j)=(i==j):=by
 rw[Bool.eq_iff_iff];simp
þ rV {i j:Str}:decide (V.str i=V.str j)=(i==j):=by
 rw[Bool.eq_iff_iff];simp
þ rY {i j:Array UInt8}:decide (V.byt i=V.byt j)=(i.toList==j.toList):=by
 rw[Bool.eq_iff_iff];cases i;cases j;simp
section
variable {X:Cx}{a b c:Expr}{ta tb tc:TE}{pos:Pos}
þ bi {pins:List (Addr×Obj)}{σ:St}{H:Hp}{s:Shared}{Q:VK}{k k':Bool}(I:Inv X pins σ H s)(q:Q (.bl k) H)(e:k=k'):EP X pins σ Q (.bool k') s:=by
 subst e;e⟨.bl k,H,I,rfl,q⟩
þ bO:OpR X (compareOp .Eq) rEq:=by
 intro pins s σ H x y v u Q I rx ry h;o⟨hs,q⟩:=h
 cases x with
 | non =>
   cases rx
   cases y with
   | non=>cases ry;e PySem.EqNone.eq_none_none (bi I q (by simp))
   | bl j=>cases ry;e PySem.EqNone.eq_none_bool (bi I q (by simp))
   | int j=>o⟨t',rfl⟩:=ry;e PySem.EqNone.eq_none_int (bi I q (by simp))
   | str j=>o⟨t',rfl⟩:=ry;e PySem.EqNone.eq_none_str (bi I q (by simp))
   | _=>e absurd (show false=true from hs) Bool.false_ne_true
 | bl i =>
   cases rx
   cases y with
   | non=>cases ry;e PySem.EqNone.eq_bool_none (bi I q (by simp))
   | bl j=>cases ry;e eq_bool (bi I q uD)
   | str j=>o⟨t',rfl⟩:=ry;e PySem.EqMixed.eq_bool_str (bi I q (by simp))
   | _=>e absurd (show false=true from hs) Bool.false_ne_true
 | int i =>
   o⟨t,rfl⟩:=rx
   cases y with
   | non=>cases ry;e PySem.EqNone.eq_int_none (bi I q (by simp))
   | int j=>o⟨t',rfl⟩:=ry;e eq_int (bi I q rA)
   | str j=>o⟨t',rfl⟩:=ry;e PySem.EqMixed.eq_int_str (bi I q (by simp))
   | _=>e absurd (show false=true from hs) Bool.false_ne_true
 | str i =>
   o⟨t,rfl⟩:=rx
   cases y with
   | non=>cases ry;e PySem.EqNone.eq_str_none (bi I q (by simp))
   | bl j=>cases ry;e PySem.EqMixed.eq_str_bool (bi I q (by simp))
   | int j=>o⟨t',rfl⟩:=ry;e PySem.EqMixed.eq_str_int (bi I q (by simp))
   | str j=>o⟨t',rfl⟩:=ry;e eq_str (bi I q rV)
   | _=>e absurd (show false=true from hs) Bool.false_ne_true
 | byt i =>
   o⟨t,rfl⟩:=rx
   cases y with
   | byt j=>o⟨t',rfl⟩:=ry;e PySem.W.eq_bytes (bi I q rY)
   | _=>e absurd (show false=true from hs) Bool.false_ne_true
 | _=>cases y<;>e absurd (show false=true from hs) Bool.false_ne_true
þ i6:OpR X (compareOp .NotEq) rNe:=by
 intro pins s σ H x y v u Q I rx ry h;o⟨hs,q⟩:=h
 cases x with
 | non =>
   cases rx
   cases y with
   | non=>cases ry;e PySem.EqNone.ne_none_none (bi I q (by simp))
   | bl j=>cases ry;e PySem.EqNone.ne_none_bool (bi I q (by simp))
   | int j=>o⟨t',rfl⟩:=ry;e PySem.EqNone.ne_none_int (bi I q (by simp))
   | str j=>o⟨t',rfl⟩:=ry;e PySem.EqNone.ne_none_str (bi I q (by simp))
   | _=>e absurd (show false=true from hs) Bool.false_ne_true
 | bl i =>
   cases rx
   cases y with
   | non=>cases ry;e PySem.EqNone.ne_bool_none (bi I q (by simp))
   | bl j=>cases ry;e ne_bool (bi I q (congrArg not uD))
   | str j=>o⟨t',rfl⟩:=ry;e PySem.EqMixed.ne_bool_str (bi I q (by simp))
   | _=>e absurd (show false=true from hs) Bool.false_ne_true
 | int i =>
   o⟨t,rfl⟩:=rx
   cases y with
   | non=>cases ry;e PySem.EqNone.ne_int_none (bi I q (by simp))
   | int j=>o⟨t',rfl⟩:=ry;e ne_int (bi I q (congrArg not rA))
   | str j=>o⟨t',rfl⟩:=ry;e PySem.EqMixed.ne_int_str (bi I q (by simp))
   | _=>e absurd (show false=true from hs) Bool.false_ne_true
 | str i =>
   o⟨t,rfl⟩:=rx
   cases y with
   | non=>cases ry;e PySem.EqNone.ne_str_none (bi I q (by simp))
   | bl j=>cases ry;e PySem.EqMixed.ne_str_bool (bi I q (by simp))
   | int j=>o⟨t',rfl⟩:=ry;e PySem.EqMixed.ne_str_int (bi I q (by simp))
   | str j=>o⟨t',rfl⟩:=ry;e ne_str (bi I q (congrArg not rV))
   | _=>e absurd (show false=true from hs) Bool.false_ne_true
 | byt i =>
   o⟨t,rfl⟩:=rx
   cases y with
   | byt j=>o⟨t',rfl⟩:=ry;e PySem.W.ne_bytes (bi I q (congrArg not rY))
   | _=>e absurd (show false=true from hs) Bool.false_ne_true
 | _=>cases y<;>e absurd (show false=true from hs) Bool.false_ne_true
þ cX:OpR X (compareOp .Lt) (rI0 fun i j=>.bl (decide (i < j))):=wH fun _ _ _ _ _ _ _ q=>lt_int q
þ rh:OpR X (compareOp .LtE) (rI0 fun i j=>.bl (decide (i≤j))):=wH fun _ _ _ _ _ _ _ q=>le_int q
þ fJ:OpR X (compareOp .Gt) (rI0 fun i j=>.bl (decide (j < i))):=wH fun _ _ _ _ _ _ _ q=>gt_int q
þ xw:OpR X (compareOp .GtE) (rI0 fun i j=>.bl (decide (j≤i))):=wH fun _ _ _ _ _ _ _ q=>ge_int q
þ tH:OpR X (compareOp .In) (fun x y H Q=>∃ i j,x=.str i∧y=.str j∧Q (.bl (!(Builtin.Str.occurrences j i 0 j.length 1).isEmpty)) H):=by
 intro pins s σ H x y v u Q I rx ry h;o⟨i,j,rfl,rfl,q⟩:=h;o⟨t,rfl⟩:=rx;o⟨t',rfl⟩:=ry;e in_str (bi I q rfl)
þ uw:OpR X (compareOp .Is) (fun x y H Q=>y=.non∧Q (.bl (decide (x=.non))) H):=by
 intro pins s σ H x y v u Q I rx ry h;o⟨rfl,q⟩:=h;cases ry;r is_none_gen (bi I q ?_)
 cases x<;>first
   | (cases rx;rfl)
   | (o⟨t,rfl⟩:=rx;rfl)
þ ax (b:Expr){op:CmpOp}(h:op≠.In:=by decide)(h2:op≠.NotIn:=by decide):behindInMarks op b=false:=by
 h e1:(op==CmpOp.In)=false:=by cases op<;>first | rfl | e absurd rfl h
 h e2:(op==CmpOp.NotIn)=false:=by cases op<;>first | rfl | e absurd rfl h2
 cases b<;>simp[behindInMarks,e1,e2]
þ jB {op:CmpOp}{r:R2}(ho:OpR X (compareOp op) r)(ha:PE X a ta)(hb:PE X b tb)(hm:behindInMarks op b=false):PE X (.Compare a [op] [b] pos) (tOp r ta tb):=by
 intro pins s σ H Q I h;e wpAny_Compare1 (xA ha hb I h fun v u s2 x y H2 I2 rx ry q=>ho pins s2 σ H2 x y v u Q I2 rx ry q) hm
noncomputable def nX (t:TE):TT:=fun σ H Q=>t σ H fun x H'=>vh x fun k=>Q k H'
þ ap {op:CmpOp}{r:R2}(ho:OpR X (compareOp op) r)(ha:PE X a ta)(hb:PE X b tb)(hm:behindInMarks op b=false):PT X (.Compare a [op] [b] pos) (nX (tOp r ta tb)):=by
 intro pins s σ H Q I h
 r wpAny_isTrue_Compare1 (thn (ha s σ H _ I h) fun v s1 ⟨x,H1,I1,r1,q1⟩=>thn (hb s1 σ H1 _ I1 q1) fun u s2 ⟨y,H2,I2,r2,q2⟩ =>
   thn (ho pins s2 σ H2 x y v u _ I2 r1 r2 q2) fun c s3 ⟨z,H3,I3,r3,q3⟩=>?_) hm
 h q3:vh z fun k=>Q k H3:=q3;rw[rZ] at q3;o⟨k,e,q3⟩:=q3;subst e;cases r3;e wpAny_truthy_bool ⟨H3,I3,q3⟩
þ iW:(sizeLine:Nat) < 2 ^ 63:=by rw[sizeLine_eq];decide
þ fq:OpR X (binaryOp .Add) (fun x y H Q=>∃ i j,x=.str i∧y=.str j∧i.length+j.length≤sizeLine∧Q (.str (i++j)) H):=by
 intro pins s σ H x y v u Q I rx ry h;o⟨i,j,rfl,rfl,hz,q⟩:=h;o⟨t,rfl⟩:=rx;o⟨t',rfl⟩:=ry;e add_str (fun t' tk=>⟨.str (i++j),H,I.tok _,⟨_,rfl⟩,q⟩) hz
þ eA {x:V}{us:List Value}(r:Vals [x] us):∃ u,us=[u]∧bd x u:=by
 cases r with
 | cons r1 r2=>cases r2;e⟨_,rfl,r1⟩
þ lA {x y:V}{us:List Value}(r:Vals [x,y] us):∃ u w',us=[u,w']∧bd x u∧bd y w':=by
 cases r with
 | cons r1 r2 =>
   cases r2 with
   | cons r3 r4=>cases r4;e⟨_,_,rfl,r1,r3⟩
þ lU (hc:X.calm=true):cv X (.builtin "max") (fun xs H Q=>∃ i j,xs=[.int i,.int j]∧Q (.int (if j > i then j else i)) H):=by
 intro pins s σ H xs us Q I r h;o⟨i,j,rfl,q⟩:=h;o⟨u,w',rfl,⟨t,rfl⟩,⟨t',rfl⟩⟩:=lA r;r max_two_ints (I.ok.hd hc) fun h' tk k=>⟨_,H,I.kept k,?_,q⟩;by_cases hj:j > i
 . rw[if_pos hj,if_pos hj];e⟨_,rfl⟩
 . rw[if_neg hj,if_neg hj];e⟨_,rfl⟩
þ l8 (hc:X.calm=true):cv X (.builtin "min") (fun xs H Q=>∃ i j,xs=[.int i,.int j]∧Q (.int (if j < i then j else i)) H):=by
 intro pins s σ H xs us Q I r h;o⟨i,j,rfl,q⟩:=h;o⟨u,w',rfl,⟨t,rfl⟩,⟨t',rfl⟩⟩:=lA r;r min_two_ints (I.ok.hd hc) fun h' tk k=>⟨_,H,I.kept k,?_,q⟩;by_cases hj:j < i
 . rw[if_pos hj,if_pos hj];e⟨_,rfl⟩
 . rw[if_neg hj,if_neg hj];e⟨_,rfl⟩
end
structure qT (h:Heap)(x dx C:Addr)(mA:Str→Option Value):Prop where
 obj:h.get? x=some (A4 C dx)
 ns:h.Ns1 dx mA
 ne:dx≠x
þ sx {h:Heap}{dx:Addr}{mA:Str→Option Value}(n:h.Ns1 dx mA):∃ od,h.get? dx=some od∧∀ name,BZ name od=some (mA name):=by
 o⟨o,es,ep,ho,hd,hk,_,hm⟩:=n;r⟨o,ho,fun name=>?_⟩;h e:=hm name;unfold nsFind findBy at e;rw[←Array.find?_toList] at e;unfold BZ;rw[hd];dsimp only
 split
 . rename_i y q;rw[q] at e;e congrArg some e
 . rename_i q;rw[q] at e
   h a:es.toList.any (·.refKey)=false:=by
     rw[List.any_eq_false];intro y hy;o⟨z,t,hkey⟩:=hk y (Array.mem_toList_iff.mp hy);simp[DictEntry.refKey,hkey]
   h a':¬es.toList.any (·.refKey)=true:=by rw[a];e Bool.false_ne_true
   rw[if_neg a'];e congrArg some e
þ qT.look {h:Heap}{x dx C:Addr}{mA:Str→Option Value}(I:qT h x dx C mA):∃ od,PySem.W.InstAt h x (A4 C dx) C (some od)∧∀ name,BZ name od=some (mA name) :=
 let ⟨od,ho,hl⟩:=sx I.ns
 ⟨od,⟨I.obj,rfl,rfl,ho⟩,hl⟩
section
variable {prog:Program}{w:World}{A:Around}{E:Value→Shared→Prop}{s:Shared}{K:PySem.W.Frag}{x dx C f:Addr}{mA:Str→Option Value}{name:Str}{v:Value}
þ wG {expr:Bool}{Q:Value→Shared→Prop}(X:K.In s.heap)(I:qT s.heap x dx C mA)(hg:BN K C name=true)(hh:B8 K C=true)
   (ha:AO K (.ref C) name=some none)(hv:mA name=some v)(hv':PySem.W.handedIn v=true)(h:Q v { s with toks:=s.toks+1 }) :
   wpAny (model prog w) A (getAttr (.ref x) name expr) Q E s:=by
 o⟨od,J,hl⟩:=I.look;e PySem.W.get_value X J (BV hg).1 (PySem.W.findObj_own hh ha rfl (by rw[hl,hv])) hv' h
þ ub {pl:Sem Bool}{Q:Value×List Value→Shared→Prop}(X:K.In s.heap)(I:qT s.heap x dx C mA)(hg:BN K C name=true)
   (hf:AO K (.ref C) name=some (§f))(ht:Ct K (.ref f)=true)(hv:mA name=none)(h:Q (.ref f,[.ref x]) s) :
   wpAny (model prog w) A (getMethod (.ref x) name pl) Q E s:=by
 o⟨od,J,hl⟩:=I.look;e PySem.W.method_fn X J (BV hg).1 (BV hg).2 hf (beq_iff_eq.mp ht) (by show(BZ name od).map (·.isSome)=some false;rw[hl,hv];rfl) h
þ xc {ns:List Str}{Q:Unit→Shared→Prop}(X:K.In s.heap)(I:qT s.heap x dx C mA)
   (hs:AO K (.ref C) "__setattr__"=some (some (.builtin "object.__setattr__")))(hp:PySem.W.plainOver K C=true)(ht:Ck K C name=some none)(hh:B8 K C=true)
   (hw:PySem.Within mA ns)(hsz:ns.length≤sizeLine)
   (h:∀ h',qT h' x dx C (fun y=>if y=name then some v else mA y)→Heap.SameBut dx s.heap h'→Q () { s with heap:=h',toks:=s.toks+2 }) :
   wpAny (model prog w) A (setAttr (.ref x) name v) Q E s:=by
 o⟨od,J,hl⟩:=I.look;r PySem.W.set_plain X J hs (PySem.W.osa_open (s:={ s with toks:=s.toks+1 }) (r:=none) X J hp ht fun b=>?_);o⟨cd,hc,hd'⟩:=PySem.W.any_some hh;h hx:s.heap.get? x=some ⟨.ref C,some dx,.plain,#[]⟩:=I.obj;r wpAny_bind (wpAny_pure (wpAny_bind (wpAny_bind (wpAny_loadPart hx (wpAny_bind (PySem.W.Looks.here (s:={ s with toks:=s.toks+1 }) (PySem.W.looks_clsIn X hc) ?_))))));rw[hd'];r wpAny_pure (a:=some dx) (wpAny_bind (wpAny_pure (wpAny_bind ?_)));r wpAny_nsSet1 (s:={ s with toks:=s.toks+1 }) I.ns fun h' hn2 hs2=>?_;o⟨oD,esD,epD,hoD,hdD,hcD⟩:=hn2.count (PySem.Within.cons name v hw);r wpAny_bind (wpAny_lookBehind hoD (by rw[hdD];e pastItsLine_dict (AB hcD (by rw[Av];m))) ?_);e wpAny_pure (h _ ⟨(hs2.2 _ (Ne.symm I.ne)).trans I.obj,hn2,I.ne⟩ hs2)
þ uX {R:Result→Shared→Prop}{vs:List Value}{kw:List (Str×Value)}(X:K.In s.heap)(hm:BQ K C=true)
   (hi:AO K (.ref C) "__init__"=some (§f))(hf:PySem.W.typeIn K (.ref f)=some (.type "function"))
   (h:codeAny (model prog w) (A.under (.builtin "type.__call__" ⟨.ref C::vs,kw⟩)) (.call (.ref f) ⟨.ref (s.heap.objs.size+1)::vs,kw⟩) (PySem.W.InitBack (s.heap.objs.size+1) R)
     { s with heap:=(s.heap.push AN).push (A4 C s.heap.objs.size) }) :
   codeAny (model prog w) A (.call (.ref C) ⟨vs,kw⟩) R s:=by
 o⟨hh,g,d,t,os⟩:=s;e PySem.W.make_core (PySem.W.makes_of X hm) (PySem.W.looks_findIn X hi) (fun self=>PySem.W.bind_fn X self hf) (.inl rfl) h
end
noncomputable def cQ (f:Str) (v:V):List (Str×V)→List (Str×V)
 | []=>[(f,v)]
 | (g,x)::r=>if g=f then(g,v)::r else(g,x)::cQ f v r
þ ji (f g:Str) (v:V):∀ fs:List (Str×V),(cQ f v fs).lookup g=if g=f then some v else fs.lookup g
 | []=>by
   show Af g [(f,v)]=_;by_cases h:g=f
   . h hb:(g==f)=true:=beq_iff_eq.mpr h;simp only[Af,hb,if_pos h]
   . h hb:(g==f)=false:=beq_eq_false_iff_ne.mpr h;simp only[Af,hb,if_neg h]
 | (k,x)::r=>by
   h ih:=ji f g v r;rw[show cQ f v ((k,x)::r)=(if k=f then(k,v)::r else(k,x)::cQ f v r) from rfl];by_cases hk:k=f
   . rw[if_pos hk];by_cases h:g=k
     . h hb:(g==k)=true:=beq_iff_eq.mpr h;simp only[Af,hb,if_pos (h.trans hk)]
     . h hb:(g==k)=false:=beq_eq_false_iff_ne.mpr h;simp only[Af,hb,if_neg (fun e:g=f=>h (e.trans hk.symm))]
   . rw[if_neg hk];by_cases h:g=k
     . h hb:(g==k)=true:=beq_iff_eq.mpr h;simp only[Af,hb,if_neg (fun e:g=f=>hk (h.symm.trans e))]
     . h hb:(g==k)=false:=beq_eq_false_iff_ne.mpr h;simp only[Af,hb];e ih
þ iw (f:Str) (v:V):∀ fs:List (Str×V),f∈(cQ f v fs).map (·.1)∧∀ g,g∈fs.map (·.1)→g∈(cQ f v fs).map (·.1)
 | []=>⟨by simp[cQ],fun g h=>by simp at h⟩
 | (k,x)::r=>by
   o⟨i1,i2⟩:=iw f v r;rw[show cQ f v ((k,x)::r)=(if k=f then(k,v)::r else(k,x)::cQ f v r) from rfl];by_cases hk:k=f
   . rw[if_pos hk];subst hk;e⟨by simp,fun g h=>by simpa using h⟩
   . rw[if_neg hk];r⟨?_,fun g h=>?_⟩
     . rw[z8];e zX _ i1
     . rw[z8] at h ⊢
       rcases List.mem_cons.mp h with e | e
       . e List.mem_cons.mpr (.inl e)
       . e zX _ (i2 g e)
þ jh (f:Str) (v:V):∀ fs:List (Str×V),(cQ f v fs).length≤fs.length+1
 | []=>by simp[cQ]
 | (k,x)::r=>by
   h ih:=jh f v r;rw[show cQ f v ((k,x)::r)=(if k=f then(k,v)::r else(k,x)::cQ f v r) from rfl];by_cases hk:k=f
   . rw[if_pos hk,Av,Av];m
   . rw[if_neg hk,Av,Av];m
þ gw.some_of {v:V}{o:Option Value}(r:gw (some v) o):∃ u,o=some u∧bd v u:=by
 cases o with
 | none=>e(show False from r).elim
 | some u=>e⟨u,rfl,r⟩
þ gw.none_of {o:Option Value}(r:gw none o):o=none:=by
 cases o with
 | none=>rfl
 | some u=>e(show False from r).elim
þ tS {v:V}{u:Value}(r:bd v u):PySem.W.handedIn u=true:=by
 cases v with
 | non=>cases (show u=Value.none from r);rfl
 | bl b=>cases (show u=Value.bool b from r);rfl
 | int i=>o⟨t,e⟩:=(show ∃ t,u=Value.int i t from r);cases e;rfl
 | str x=>o⟨t,e⟩:=(show ∃ t,u=Value.str x t from r);cases e;rfl
 | byt b=>o⟨t,e⟩:=(show ∃ t,u=Value.bytes b t from r);cases e;rfl
 | flt b=>o⟨t,e⟩:=(show ∃ t,u=Value.float b t from r);cases e;rfl
 | ref a=>cases (show u=Value.ref a from r);rfl
 | ty n=>cases (show u=Value.type n from r);rfl
section
variable {P:Program}{w:World}{H H':Hp}{h h':Heap}{a C dx:Addr}{fs fs':List (Str×V)}
þ jx (hok:HOk P w H h)(e:H a=some (.ins C dx fs)):∃ mA,qT h a dx C mA∧(∀ f,gw (fs.lookup f) (mA f))∧PySem.Within mA (fs.map (·.1))∧fs.length≤1000∧H dx=some (.own a):=by
 o⟨d,z,ne,ob,mA,n,r,q⟩:=(show bR P w H h a (.ins C dx fs) from hok a _ e);e⟨mA,⟨ob,n,ne⟩,r,q,z,d⟩
end
structure Cls (K:PySem.W.Frag)(C:Addr):Prop where
 pg:BN K C Str.empty=true
 hd:B8 K C=true
 po:PySem.W.plainOver K C=true
 sa:AO K (.ref C) "__setattr__"=some (some (.builtin "object.__setattr__"))
þ Cls.get {K:PySem.W.Frag}{C:Addr}(c:Cls K C) (f:Str):BN K C f=true:=c.pg
noncomputable def NoAttr (K:PySem.W.Frag)(C:Addr) (f:Str):Prop:=AO K (.ref C) f=some none
þ NoAttr.taker {K:PySem.W.Frag}{C:Addr}{f:Str}(n:NoAttr K C f):Ck K C f=some none:=by
 unfold Ck;rw[show AO K (.ref C) f=some none from n];rfl
structure Meth (K:PySem.W.Frag)(C:Addr) (m:Str)(f:Addr):Prop where
 at_:AO K (.ref C) m=some (§f)
 fn:Ct K (.ref f)=true
 kp:A8 K (.ref f)=true
section
variable {X:Cx}{pins:List (Addr×Obj)}{σ:St}{H:Hp}{s:Shared}{a C dx:Addr}{fs:List (Str×V)}{f:Str}{v:V}{A:Around}{E:Value→Shared→Prop}
þ pX {b:Bool}{Q:Value→Shared→Prop}(I:Inv X pins σ H s)(e:H a=some (.ins C dx fs))(c:Cls X.K C)(n:NoAttr X.K C f)(l:fs.lookup f=some v)
   (h:∀ u s',Inv X pins σ H s'→bd v u→Q u s'):wpAny (model X.prog X.w) A (getAttr (.ref a) f b) Q E s:=by
 o⟨mA,O,r,_,_,_⟩:=jx I.hok e;o⟨u,hu,ru⟩:=gw.some_of (v:=v) (o:=mA f) (by rw[←l];e r f);e wG I.kIn O (c.get f) c.hd n hu (tS ru) (h u _ (I.tok _) ru)
þ gO {m:Str}{g:Addr}{pl:Sem Bool}{Q:Value×List Value→Shared→Prop}(I:Inv X pins σ H s)(e:H a=some (.ins C dx fs))(c:Cls X.K C)(k:Meth X.K C m g)(l:fs.lookup m=none)
   (h:Q (.ref g,[.ref a]) s):wpAny (model X.prog X.w) A (getMethod (.ref a) m pl) Q E s:=by
 o⟨mA,O,r,_,_,_⟩:=jx I.hok e;h hn:mA m=none:=gw.none_of (by rw[←l];e r m);e ub I.kIn O (c.get m) k.at_ k.fn hn h
þ pH {y:V}{u:Value}{Q:Unit→Shared→Prop}(I:Inv X pins σ H s)(e:H a=some (.ins C dx fs))(c:Cls X.K C)(n:NoAttr X.K C f)(hl:fs.length < 1000)(ry:bd y u)
   (h:∀ s',Inv X pins σ (upd H a (.ins C dx (cQ f y fs))) s'→Q () s'):wpAny (model X.prog X.w) A (setAttr (.ref a) f u) Q E s:=by
 o⟨mA,O,r,wi,_,ho⟩:=jx I.hok e
 h hz:(fs.map (·.1)).length≤sizeLine:=by rw[be,sizeLine_eq];m
 r xc I.kIn O c.sa c.po n.taker c.hd wi hz fun h' O' sb=>h _ ?_
 h hd:∃ o,h'.get? dx=some o:=let ⟨o,_,_,e',_⟩:=O'.ns;⟨o,e'⟩
 r I.write (x:=a) (e:=dx) (by rw[e];e True.intro) (.inr ho) (fun b q hb z=>(sb.2 b hb).trans z) hd ?_;r⟨by rw[ai O.ne];e ho,?_,O.ne,O'.obj,_,O'.ns,fun g=>?_,fun g hg=>?_⟩
 . have:=jh f y fs;m
 . show gw ((cQ f y fs).lookup g) (if g=f then some u else mA g);rw[ji];by_cases q:g=f
   . rw[if_pos q,if_pos q];e ry
   . rw[if_neg q,if_neg q];e r g
 . by_cases q:g=f
   . rw[q];e(iw f y fs).1
   . r(iw f y fs).2 g (wi g fun z=>hg ?_);show(if g=f then some u else mA g)=none;rw[if_neg q];e z
þ Inv.made (I:Inv X pins σ H s):Inv X pins σ (upd (upd H s.heap.objs.size (.own (s.heap.objs.size+1))) (s.heap.objs.size+1) (.ins C s.heap.objs.size []))
   { s with heap:=(s.heap.push AN).push (A4 C s.heap.objs.size) }:=by
 h e1:(s.heap.push AN).get? s.heap.objs.size=some AN:=Heap.get?_push_size s.heap rfl
 h e2:((s.heap.push AN).push (A4 C s.heap.objs.size)).get? (s.heap.objs.size+1)=some (A4 C s.heap.objs.size):=by
   have:=Heap.get?_push_size (s.heap.push AN) (o:=A4 C s.heap.objs.size) rfl
   rwa [Heap.size_push] at this
 h e3:(s.heap.push AN).Ns s.heap.objs.size (fun _=>none):=⟨AN,#[],_,e1,rfl,(fun e he=>absurd he (by simp)),fun _=>rfl⟩;h I1:=I.laid (a:=s.heap.objs.size) (o:=.own (s.heap.objs.size+1)) (h':=s.heap.push AN) (t':=s.toks) (fun b u q=>Heap.get?_push_of_some _ q) (zN _) ⟨_,e1⟩;r I1.laid (a:=s.heap.objs.size+1) (o:=.ins C s.heap.objs.size []) (t':=s.toks) (fun b u q=>Heap.get?_push_of_some _ q) (Cu (Heap.size_push _ _)) ?_;h ne:s.heap.objs.size≠s.heap.objs.size+1:=z6 (Bj _);r⟨by rw[ai ne,ac],AA _,ne,e2,fun _=>none,(Heap.Ns1.of_empty e3).at fun o q=>Heap.get?_push_of_some _ q,fun _=>True.intro,fun y hy=>absurd rfl hy⟩
þ w8 {prog:Program}{w:World}{env:Env}{e:Expr}{f:Str}{pos:Pos}{s:Shared}{Q:Value→Shared→Prop}(hb:attributeBase e f env (eval e env)=eval e env)
   (h:wpAny (model prog w) A (eval e env) (fun o s₁=>wpAny (model prog w) A (getAttr o f true) Q E s₁) E s):wpAny (model prog w) A (eval (.Attribute e f pos) env) Q E s :=
 Attribute_any_ h (by rw[arm_eval_Attribute,hb])
end
noncomputable def wY (K:PySem.W.Frag)(ta:TE) (f:Str):TE:=fun σ H Q=>ta σ H fun x H1=>∃ a C dx fs v,x=.ref a∧H1 a=some (.ins C dx fs)∧Cls K C∧NoAttr K C f∧fs.lookup f=some v∧Q v H1
noncomputable def yn (K:PySem.W.Frag)(ta tv:TE) (f:Str):TS:=fun D σ H=>tv σ H fun y H1=>ta σ H1 fun x H2=>∃ a C dx fs,x=.ref a∧H2 a=some (.ins C dx fs)∧Cls K C∧NoAttr K C f∧fs.length < 1000 ∧
 D.nx σ (upd H2 a (.ins C dx (cQ f y fs)))
section
variable {X:Cx}{o e value:Expr}{f:Str}{pos pos' tpos:Pos}{ta tv:TE}
þ bD (he:PE X e ta)(hb:attributeBase e f X.env (eval e X.env)=eval e X.env):PE X (.Attribute e f pos) (wY X.K ta f):=by
 intro pins s σ H Q I h;r w8 hb (thn (he s σ H _ I h) fun u s1 ⟨x,H1,I1,rx,a,C,dx,fs,v,ex,ea,c,n,l,q⟩=>?_);subst ex;obtain rfl:u=Value.ref a:=rx;e pX I1 ea c n l fun u' s2 I2 ru=>⟨v,H1,I2,ru,q⟩
þ eI (ha:PE X o ta)(hv:PE X value tv)(hs:swapsWith value (some (.Attribute o f pos')) pos.line X.env=pure false):PS X (.Assign [.Attribute o f pos'] value pos) (yn X.K ta tv f):=by
 intro pins s σ H D I h;r plainObj_wpAny_Assign_Attribute (thn (hv s σ H _ I h) fun u s1 ⟨y,H1,I1,ry,q⟩=>thn (ha s1 σ H1 _ I1 q) fun ov s2 ⟨x,H2,I2,rx,a,C,dx,fs,ex,ea,c,n,l,q2⟩=>?_) hs;subst ex;obtain rfl:ov=Value.ref a:=rx;e pH I2 ea c n l ry fun s3 I3=>⟨σ,_,I3,q2⟩
þ xy {pl:Sem Bool}{m:Str}{apos:Pos}{args:List Expr}{pins:List (Addr×Obj)}{s:Shared}{σ:St}{H:Hp}{Q:Value→Shared→Prop}{te:TE}(he:PE X e te)(I:Inv X pins σ H s)
   (h:te σ H fun x H1=>∃ a C dx fs g,x=.ref a∧H1 a=some (.ins C dx fs)∧Cls X.K C∧Meth X.K C m g∧fs.lookup m=none ∧
     ∀ s1,Inv X pins σ H1 s1→wpAny (model X.prog X.w) X.A (callWith pos (.ref g) [.ref a] (backTo pos (starEach args X.env)) (backToKw pos (keywordEach [] X.env))) Q X.xe s1)
   (ht:eval (.Call (.Attribute e m apos) args [] pos) X.env=(do
     let ov ←eval e X.env
     standAt apos.atName
     let (f,first) ←holding [ov] (getMethod ov m pl)
     callWith pos f first (backTo pos (starEach args X.env)) (backToKw pos (keywordEach [] X.env)))) :
   wpAny (model X.prog X.w) X.A (eval (.Call (.Attribute e m apos) args [] pos) X.env) Q X.xe s:=by
 r BL (pl:=pl) (thn (he s σ H _ I h) fun u s1 ⟨x,H1,I1,rx,a,C,dx,fs,g,ex,ea,c,k,l,q⟩=>?_) ht;subst ex;obtain rfl:u=Value.ref a:=rx;e gO I1 ea c k l (q s1 I1)
end
section
variable {X:Cx}{pins:List (Addr×Obj)}{σ:St}{H:Hp}{s:Shared}{A:Around}{E:Value→Shared→Prop}{Q:Value→Shared→Prop}{c:Value}{b:Bool}
inductive cz (K:PySem.W.Frag)(H:Hp):V→Value→Prop where
 | non:cz K H .non (.type "NoneType")
 | bl (x:Bool):cz K H (.bl x) (.type "bool")
 | int (i:Int):cz K H (.int i) (.type "int")
 | str (x:Str):cz K H (.str x) (.type "str")
 | flt (x:UInt64):cz K H (.flt x) (.type "float")
 | lst {a:Addr}{xs:List V}(e:H a=some (.lst xs)):cz K H (.ref a) (.type "list")
 | frz {a:Addr}{o:Obj}{xs:List V}(e:H a=some (.frz o (.lst xs))):cz K H (.ref a) (.type "list")
 | tup {a:Addr}{xs:List V}(e:H a=some (.tup xs)):cz K H (.ref a) (.type "tuple")
 | dK {a:Addr}{kvs:List (Key×V)}(e:H a=some (.dK kvs)):cz K H (.ref a) (.type "dict")
 | dT {a:Addr}{kvs:List (List Key×V)}(e:H a=some (.dT kvs)):cz K H (.ref a) (.type "dict")
 | ins {a C dx:Addr}{fs:List (Str×V)}(e:H a=some (.ins C dx fs))(cl:Cls K C)(ha:AO K (.ref C) "__class__"=some (some (.builtin "object.__class__")))
     (hn:PySem.W.specialIn K (.builtin "object.__class__") "__get__"=some (some (.builtin "getset_descriptor.__get__")))(htk:PySem.W.takesIn K (.builtin "object.__class__")=some true)
     (hm:PySem.W.mroIn K C (.type "object")=some true):cz K H (.ref a) (.ref C)
þ lx {x:V}{u t:Value}(I:Inv X pins σ H s)(rx:bd x u)(ty:cz X.K H x t)(e:Ab X.K t c=some b)(h:∀ tk,Q (.bool b) { s with toks:=tk }) :
   wpAny (model X.prog X.w) A (call (.builtin "isinstance") [u,c]) Q E s:=by
 cases ty with
 | non=>cases (show u=Value.none from rx);e AJ PySem.W.kitx_none I.kIn True.intro e (fun z=>nomatch z) h
 | bl y=>cases (show u=Value.bool y from rx);e AJ PySem.W.kitx_bool I.kIn True.intro e (fun z=>nomatch z) h
 | int i=>o⟨t,q⟩:=(show ∃ t,u=Value.int i t from rx);cases q;e AJ PySem.W.kitx_int I.kIn True.intro e (fun z=>nomatch z) h
 | str y=>o⟨t,q⟩:=(show ∃ t,u=Value.str y t from rx);cases q;e AJ PySem.W.kitx_str I.kIn True.intro e (fun z=>nomatch z) h
 | flt y=>o⟨t,q⟩:=(show ∃ t,u=Value.float y t from rx);cases q;e AJ PySem.W.kitx_float I.kIn True.intro e (fun z=>nomatch z) h
 | @lst a xs ea =>
   cases (show u=Value.ref a from rx);o⟨_,_,n,_,h1⟩:=(show bR X.prog X.w H s.heap a (.lst xs) from I.hok a _ ea);e AJ PySem.W.kitx_list I.kIn ⟨_,h1,rfl⟩ e (fun z=>nomatch z) h
 | @frz a ob xs ea =>
   cases (show u=Value.ref a from rx);o⟨_,_,_,n,_,h1⟩:=(show bR X.prog X.w H s.heap a (.frz ob (.lst xs)) from I.hok a _ ea);e AJ PySem.W.kitx_list I.kIn ⟨_,h1,rfl⟩ e (fun z=>nomatch z) h
 | @tup a xs ea =>
   cases (show u=Value.ref a from rx);o⟨_,_,_,p⟩:=(show bR X.prog X.w H s.heap a (.tup xs) from I.hok a _ ea);o⟨o,h1,h2,_⟩:=p;e AJ PySem.W.kitx_tuple I.kIn ⟨o,h1,h2⟩ e (fun z=>nomatch z) h
 | @dK a kvs ea =>
   cases (show u=Value.ref a from rx);o⟨_,_,vs,_,p⟩:=(show bR X.prog X.w H s.heap a (.dK kvs) from I.hok a _ ea);o⟨o,es,ep,h1,h2,_⟩:=p;e AJ PySem.W.kitx_dict I.kIn ⟨o,h1,h2.1⟩ e (fun z=>nomatch z) h
 | @dT a kvs ea =>
   cases (show u=Value.ref a from rx);o⟨_,_,xs,_,o,es,ep,h1,h2,_⟩:=(show bR X.prog X.w H s.heap a (.dT kvs) from I.hok a _ ea);e AJ PySem.W.kitx_dict I.kIn ⟨o,h1,h2.1⟩ e (fun z=>nomatch z) h
 | @ins a C dx fs ea cl ha hn htk hm =>
   cases (show u=Value.ref a from rx);o⟨mA,O,_⟩:=jx I.hok ea;o⟨od,J,_⟩:=O.look;e AJ (PySem.W.kitx_own (cl.get _) cl.hd ha hn htk hm) I.kIn J e (fun z=>nomatch z) h
end
structure dc (k:Nat)(A:Around):Prop where
 hd:A.handled=none
 dp:A.depth+3*k+5 < recursionLimit
 un:A.units+16*k+200 < cLine
þ dc.mono {j k:Nat}{A:Around}(r:dc k A)(h:j≤k):dc j A:=⟨r.hd,by have:=r.dp;m,by have:=r.un;m⟩
þ dc.deeper {k:Nat}{A:Around}(r:dc (k+1) A)(env:Env):dc k (A.deeper env) :=
 ⟨r.hd,by have:=r.dp;show A.depth+1+3*k+5 < _;m,by have:=r.un;show A.units+3+16*k+200 < _;m⟩
þ q8 {A:Around}{C:Addr}{us:List Value}{kw:List (Str×Value)}:(A.under (.builtin "type.__call__" ⟨.ref C::us,kw⟩)).depth=A.depth+1:=by
 first | rfl | simp[Around.under,Code.weight,Code.isCreation,Code.isGuard,Code.isCaller,Code.frames,Code.isFrame,guardIds]
þ qJ {A:Around}{C:Addr}{us:List Value}{kw:List (Str×Value)}:(A.under (.builtin "type.__call__" ⟨.ref C::us,kw⟩)).units=A.units+1:=by
 first | rfl | simp[Around.under,Code.cUnits,Code.frames,Code.isFrame]
þ dc.make {k:Nat}{A:Around}(r:dc (k+1) A)(C:Addr)(us:List Value)(kw:List (Str×Value)):dc k (A.under (.builtin "type.__call__" ⟨.ref C::us,kw⟩)) :=
 ⟨r.hd,by have:=r.dp;rw[q8];m,by have:=r.un;rw[qJ];m⟩
þ dc.depth {k:Nat}{A:Around}(r:dc k A):A.depth < recursionLimit:=by have:=r.dp;m
þ dc.units {k:Nat}{A:Around}(r:dc k A):A.units+64 < cLine:=by have:=r.un;m
def tw:TA:=fun _ H Q=>Q [] H
noncomputable def fU (ta:TE)(tr:TA):TA:=fun σ H Q=>ta σ H fun x H1=>tr σ H1 fun xs H2=>Q (x::xs) H2
section
variable {X:Cx}{e:Expr}{es:List Expr}{te:TE}{t:TA}{pos:Pos}
þ ae:PA X [] tw:=fun _ _ _ _ H Q I h=>Calls.spliced_nil ⟨[],H,I,.nil,h⟩
þ aa (ha:PE X e te)(hr:PA X es t)(hs:starEach (e::es) X.env=(false,eval e X.env)::starEach es X.env:=by rfl):PA X (e::es) (fU te t):=by
 intro pins pos s σ H Q I h;rw[hs];show wpAny _ _ (spliced ((false,eval e X.env)::backTo pos (starEach es X.env))) _ _ s;r Calls.spliced_cons (thn (ha s σ H _ I h) fun u s1 ⟨x,H1,I1,r1,q1⟩=>?_);e thn (hr pos s1 σ H1 _ I1 q1) fun us s2 ⟨xs,H2,I2,r2,q2⟩=>⟨x::xs,H2,I2,.cons r1 r2,q2⟩
noncomputable def uO (t:TA):TE:=fun σ H Q=>t σ H fun xs H1=>xs.length≤sizeLine∧∀ p,H1 p=none→Q (.ref p) (upd H1 p (.tup xs))
noncomputable def yy (t:TA):TE:=fun σ H Q=>t σ H fun xs H1=>xs.length≤sizeLine∧∀ p,H1 p=none→Q (.ref p) (upd H1 p (.lst xs))
þ bS {x1}(h:PA X es t):PE X (.Tuple es x1 pos) (uO t):=by
 intro pins s σ H Q I hq;r wpAny_Tuple_spliced (thn (h pos s σ H _ I hq) fun us s1 ⟨xs,H1,I1,r,z,q⟩=>⟨by rw[←r.length];e z,?_⟩);h hf:H1 s1.heap.objs.size=none:=I1.hok.fresh (zN _);r⟨.ref s1.heap.objs.size,upd H1 s1.heap.objs.size (.tup xs),I1.laid (t':=s1.toks) (fun b u e=>Heap.get?_push_of_some _ e) (zN _) ?_,rfl,q _ hf⟩;e⟨z,us,r,⟨_,Heap.get?_push_size _ rfl,rfl,_,rfl⟩⟩
þ bq (h:PA X es t):PE X (.List es pos) (yy t):=by
 intro pins s σ H Q I hq;r wpAny_List_spliced (thn (h pos s σ H _ I hq) fun us s1 ⟨xs,H1,I1,r,z,q⟩=>⟨by rw[←r.length];e z,?_⟩);h hf:H1 s1.heap.objs.size=none:=I1.hok.fresh (zN _);r⟨.ref s1.heap.objs.size,upd H1 s1.heap.objs.size (.lst xs),I1.laid (t':=s1.toks) (fun b u e=>Heap.get?_push_of_some _ e) (zN _) ?_,rfl,q _ hf⟩;e⟨z,us,0,r,Heap.get?_push_size _ rfl⟩
end
abbrev Sp:=List V→Hp→VK→XK→Prop
abbrev CXT:=List Env→Hp→Shared→XK→Value→Shared→Prop
structure qy (P:Program)(w:World)(K:PySem.W.Frag)(mg:Str→Option Value)(base:Heap)(A:Around)(outer:List Env)(s:Shared)(H:Hp):Prop where
 frames:A.frames=some outer
 mod:Mod K mg base
 bs:∀ b o,base.get? b=some o→s.heap.get? b=some o∧H b=none
 bsz:base.objs.size≤s.heap.objs.size
 funs:s.heap.FunFrames base outer
 frf:∀ b∈frs outer,H b=none
 hok:HOk P w H s.heap
 bare:AllBare s.gens
noncomputable def CE (outer:List Env)(P:Program)(w:World)(H:Hp)(s:Shared)(Q:VK) (u:Value)(s':Shared):Prop :=
 ∃ v H',s'.os=s.os∧AllBare s'.gens∧Un (frs outer) [] H H' s.heap s'.heap∧HOk P w H' s'.heap∧bd v u∧Q v H'
noncomputable def CR (CX:CXT)(outer:List Env)(P:Program)(w:World)(H:Hp)(s:Shared)(Q:VK)(E:XK)(r:Result)(s':Shared):Prop :=
 match r with
 | .ok (.ret u)=>CE outer P w H s Q u s'
 | .ok _=>False
 | .error e=>CX outer H s E e s'
structure aW (P:Program)(w:World)(K:PySem.W.Frag)(mg:Str→Option Value)(base:Heap)(CX:CXT) (k:Nat)(f:Addr)(fd:FuncData)(ps:List Str)(sp:Sp):Prop where
 len:∀ vs H Q E,sp vs H Q E→vs.length=ps.length
 run:∀ (A:Around)(outer:List Env)(s:Shared)(H:Hp)(args:Args)(us:List Value)(vs:List V)(Q:VK)(E:XK),dc k A→qy P w K mg base A outer s H→BindsTo s fd args (ps.zip us)→Vals vs us→sp vs H Q E →
   codeAny (model P w) A (.call (.ref f) args) (CR CX outer P w H s Q E) s
þ qy.make {P:Program}{w:World}{K:PySem.W.Frag}{mg:Str→Option Value}{base:Heap}{A:Around}{outer:List Env}{s:Shared}{H:Hp}(e:qy P w K mg base A outer s H)(C:Addr)(us:List Value)(kw:List (Str×Value)) :
 qy P w K mg base (A.under (.builtin "type.__call__" ⟨.ref C::us,kw⟩)) outer s H:=⟨by first | e e.frames | (simpa [Around.under,Code.envs,Code.isFrame,pushEnvs] using e.frames),e.mod,e.bs,e.bsz,e.funs,e.frf,e.hok,e.bare⟩
section
variable {X:Cx}{pins:List (Addr×Obj)}{σ:St}{H:Hp}{s s':Shared}
þ Inv.env0 (I:Inv X pins σ H s):qy X.prog X.w X.K X.mg X.base X.A X.stack s H :=
 ⟨I.ok.frames,I.ok.mod,I.bs,AB I.ok.bsz I.sz,I.stack,I.stkFree,I.hok,I.bare⟩
þ Inv.after {Q:VK}{u:Value}(I:Inv X pins σ H s)(h:CE X.stack X.prog X.w H s Q u s'):EP X pins σ Q u s':=by
 o⟨v,H',os,bare,un,hok,r,q⟩:=h;o⟨hh,g,d,t,os'⟩:=s';obtain rfl:os'=s.os:=os;e⟨v,H',I.call (h':=hh) (g':=g) (d':=d) (t':=t) (ch:=[]) un hok bare (fun b z=>absurd z (by simp)),r,q⟩
end
noncomputable def rS (sp:Sp)(dvs:List V)(E:XK)(t:TA):TE:=fun σ H Q=>t σ H fun vs H1=>sp (vs++dvs) H1 Q E
noncomputable def l7 (C:Addr) (m:Str)(sp:Sp)(dvs:List V)(E:XK)(ta:TE)(t:TA):TE:=fun σ H Q=>ta σ H fun x H1=>∃ a dx fs,x=.ref a∧H1 a=some (.ins C dx fs)∧fs.lookup m=none ∧
 t σ H1 fun vs H2=>sp (x::(vs++dvs)) H2 Q E
noncomputable def uc (C:Addr)(sp:Sp)(dvs:List V)(E:XK)(t:TA):TE:=fun σ H Q=>t σ H fun vs H1=>∀ x dx,H1 x=none→H1 dx=none→dx≠x →
 sp (.ref x::(vs++dvs)) (upd (upd H1 dx (.own x)) x (.ins C dx [])) (fun v H2=>v=.non∧Q (.ref x) H2) E
noncomputable def eC (K:PySem.W.Frag)(fd:FuncData)(ps:List Str)(ds:List Value):Prop :=
 ∀ (s:Shared)(us:List Value),K.In s.heap→(us++ds).length=ps.length→BindsTo s fd ⟨us,[]⟩ (ps.zip (us++ds))
þ eC.all {K:PySem.W.Frag}{fd:FuncData}{ps:List Str}(h:∀ us:List Value,us.length=ps.length→bindArgs fd ⟨us,[]⟩=pure (ps.zip us)):eC K fd ps []:=fun s us _ hl=>by
 rw[AK] at hl ⊢;e .of_eq (h us hl)
noncomputable def dA (CX:CXT)(X:Cx)(E:XK):Prop:=∀ (pins:List (Addr×Obj)) (σ:St)(H:Hp)(s:Shared) (e:Value)(s':Shared),Inv X pins σ H s→CX X.stack H s E e s'→X.xe e s'
section
variable {X:Cx}{CX:CXT}{k:Nat}{f C:Addr}{fd:FuncData}{ps:List Str}{sp:Sp}{dvs:List V}{ds:List Value}{E:XK}{x m:Str}{p pos apos:Pos}{e o:Expr}{es:List Expr}{ta:TE}{t:TA}
þ qF {pins:List (Addr×Obj)}{σ:St}{H:Hp}{s:Shared}{Q:VK}{us:List Value}{vs:List V}(F:aW X.prog X.w X.K X.mg X.base CX k f fd ps sp)(hr:dc k X.A)(hb:eC X.K fd ps ds)(hd:Vals dvs ds)(hx:dA CX X E)
   (I:Inv X pins σ H s)(r:Vals vs us)(h:sp (vs++dvs) H Q E):wpAny (model X.prog X.w) X.A (call (.ref f) us) (EP X pins σ Q) X.xe s:=by
 h r2:Vals (vs++dvs) (us++ds):=r.append hd
 h hl:(us++ds).length=ps.length:=by rw[←r2.length];e F.len _ _ _ _ h
 r wpAny_call (codeAny_mono (F.run X.A X.stack s H ⟨us,[]⟩ (us++ds) (vs++dvs) Q E hr I.env0 (hb s us I.kIn hl) r2 h) fun r s' hq=>?_)
 cases r with
 | error e=>e hx pins σ H s e s' I hq
 | ok fl =>
   cases fl with
   | ret u=>e I.after hq
   | next=>e False.elim hq
   | brk=>e False.elim hq
   | cont=>e False.elim hq
þ wx (F:aW X.prog X.w X.K X.mg X.base CX k f fd ps sp)(hr:dc k X.A)(hg:Gl X x)(hm:X.mg x=§f)(hk:A8 X.K (.ref f)=true)(hb:eC X.K fd ps ds)(hd:Vals dvs ds)(hx:dA CX X E)
   (ha:PA X (e::es) t)(hdb:(x==("__debug__":Str))=false:=by decide)(he:starEach (e::es) X.env=(false,eval e X.env)::starEach es X.env:=by rfl)(hpl:(backTo pos (starEach es X.env)).any (·.1)=false:=by rfl) :
   PE X (.Call (.Name x p) (e::es) [] pos) (rS sp dvs E t):=by
 intro pins s σ H Q I h;r wpAny_Call_Name_kw (io I hg hm ?_ hdb);r B1 (h₀:=X.base) I.ok.mod.kin hk (thn (ha pos s σ H _ I h) fun us s1 ⟨vs,H1,I1,r,q⟩=>⟨I1.kIn,?_⟩) he hpl;e qF F hr hb hd hx I1 r q
þ ii {pl:Sem Bool}(he:PE X o ta)(c:Cls X.K C)(hm:Meth X.K C m f)(F:aW X.prog X.w X.K X.mg X.base CX k f fd ps sp)(hr:dc k X.A)(hb:eC X.K fd ps ds)(hd:Vals dvs ds)(hx:dA CX X E)(ha:PA X (e::es) t)
   (hst:starEach (e::es) X.env=(false,eval e X.env)::starEach es X.env:=by rfl)(hpl:(backTo pos (starEach es X.env)).any (·.1)=false:=by rfl)
   (ht:eval (.Call (.Attribute o m apos) (e::es) [] pos) X.env=(do
     let ov ←eval o X.env
     standAt apos.atName
     let (f,first) ←holding [ov] (getMethod ov m pl)
     callWith pos f first (backTo pos (starEach (e::es) X.env)) (backToKw pos (keywordEach [] X.env))):=by rfl) :
   PE X (.Call (.Attribute o m apos) (e::es) [] pos) (l7 C m sp dvs E ta t):=by
 intro pins s σ H Q I h;r BL (pl:=pl) (thn (he s σ H _ I h) fun u s1 ⟨x,H1,I1,rx,a,dx,fs,ex,ea,l,q⟩=>?_) ht;subst ex;obtain rfl:u=Value.ref a:=rx;r gO I1 ea c hm l ?_;r B1 (first:=[.ref a]) (h₀:=X.base) I.ok.mod.kin hm.kp (thn (ha pos s1 σ H1 _ I1 q) fun us s2 ⟨vs,H2,I2,r,q2⟩=>⟨I2.kIn,?_⟩) hst hpl;e qF (us:=.ref a::us) (vs:=.ref a::vs) F hr hb hd hx I2 (.cons rfl r) q2
þ vP {pl:Sem Bool}(he:PE X o ta)(c:Cls X.K C)(hm:Meth X.K C m f)(F:aW X.prog X.w X.K X.mg X.base CX k f fd ps sp)(hr:dc k X.A)(hb:eC X.K fd ps ds)(hd:Vals dvs ds)(hx:dA CX X E)
   (ht:eval (.Call (.Attribute o m apos) [] [] pos) X.env=(do
     let ov ←eval o X.env
     standAt apos.atName
     let (f,first) ←holding [ov] (getMethod ov m pl)
     callWith pos f first (backTo pos (starEach [] X.env)) (backToKw pos (keywordEach [] X.env))):=by rfl) :
   PE X (.Call (.Attribute o m apos) [] [] pos) (l7 C m sp dvs E ta tw):=by
 intro pins s σ H Q I h;r BL (pl:=pl) (thn (he s σ H _ I h) fun u s1 ⟨x,H1,I1,rx,a,dx,fs,ex,ea,l,q⟩=>?_) ht;subst ex;obtain rfl:u=Value.ref a:=rx;r gO I1 ea c hm l ?_;e PySem.W.callWith_K0 (first:=[.ref a]) I1.kIn hm.kp (qF (us:=[.ref a]) (vs:=[.ref a]) F hr hb hd hx I1 (.cons rfl .nil) q)
structure Mk (K:PySem.W.Frag)(C f:Addr):Prop where
 makes:BQ K C=true
 init:AO K (.ref C) "__init__"=some (§f)
 fn:Ct K (.ref f)=true
 kp:A8 K (.ref C)=true
þ uq {pins:List (Addr×Obj)}{σ:St}{H:Hp}{s:Shared}{Q:VK}{us:List Value}{vs:List V}(M:Mk X.K C f)(F:aW X.prog X.w X.K X.mg X.base CX k f fd ps sp)(hr:dc (k+1) X.A)(hb:eC X.K fd ps ds)(hd:Vals dvs ds)
   (hx:dA CX X E)(I:Inv X pins σ H s)(r:Vals vs us)
   (h:∀ x dx,H x=none→H dx=none→dx≠x→sp (.ref x::(vs++dvs)) (upd (upd H dx (.own x)) x (.ins C dx [])) (fun v H2=>v=.non∧Q (.ref x) H2) E) :
   wpAny (model X.prog X.w) X.A (call (.ref C) us) (EP X pins σ Q) X.xe s:=by
 h hq:=h (s.heap.objs.size+1) s.heap.objs.size (I.hok.fresh (Cp _)) (I.hok.fresh (zN _)) (z6 (Bj _));h I2:=Inv.made (C:=C) I;h r2:Vals (V.ref (s.heap.objs.size+1)::(vs++dvs)) (Value.ref (s.heap.objs.size+1)::(us++ds)):=.cons rfl (r.append hd)
 h hl:(Value.ref (s.heap.objs.size+1)::us++ds).length=ps.length:=by
   h e:=r2.length;rw[F.len _ _ _ _ hq] at e;e e.symm
 r wpAny_call (uX (f:=f) I.kIn M.makes M.init (beq_iff_eq.mp M.fn) (codeAny_mono (F.run _ X.stack _ _ ⟨Value.ref (s.heap.objs.size+1)::us,[]⟩ (Value.ref (s.heap.objs.size+1)::(us++ds)) _ _ E (hr.make C us [])
   (I2.env0.make C us []) (hb _ (Value.ref (s.heap.objs.size+1)::us) I2.kIn hl) r2 hq) fun r s' hq'=>?_))
 cases r with
 | error e=>e hx pins σ _ _ e s' I2 hq'
 | ok fl =>
   cases fl with
   | ret u =>
     o⟨v,H',I3,rv,ev,q3⟩:=I2.after hq';subst ev;e⟨rv,⟨V.ref (s.heap.objs.size+1),H',I3,rfl,q3⟩⟩
   | next=>e False.elim hq'
   | brk=>e False.elim hq'
   | cont=>e False.elim hq'
þ mR (M:Mk X.K C f)(F:aW X.prog X.w X.K X.mg X.base CX k f fd ps sp)(hr:dc (k+1) X.A)(hg:Gl X x)(hm:X.mg x=§C)(hb:eC X.K fd ps ds)(hd:Vals dvs ds)(hx:dA CX X E)
   (ha:PA X (e::es) t)(hdb:(x==("__debug__":Str))=false:=by decide)(he:starEach (e::es) X.env=(false,eval e X.env)::starEach es X.env:=by rfl)(hpl:(backTo pos (starEach es X.env)).any (·.1)=false:=by rfl) :
   PE X (.Call (.Name x p) (e::es) [] pos) (uc C sp dvs E t):=by
 intro pins s σ H Q I h;r wpAny_Call_Name_kw (io I hg hm ?_ hdb);r B1 (h₀:=X.base) I.ok.mod.kin M.kp (thn (ha pos s σ H _ I h) fun us s1 ⟨vs,H1,I1,r,q⟩=>⟨I1.kIn,?_⟩) he hpl;e uq M F hr hb hd hx I1 r q
end
section
variable {X:Cx}{CX:CXT}{k:Nat}{f C:Addr}{fd:FuncData}{ps ks:List Str}{sp:Sp}{E:XK}{x m:Str}{p pos apos kpos:Pos}{e o:Expr}{es:List Expr}{kws:List Keyword}{te ta:TE}{t tk:TA}{nm:Option Str}
variable {g:List Value→List Value→List Value}{gV:List V→List V→List V}
end
structure ay (N P:List Str)(sc:Scope):Prop where
 kind:sc.kind=.function
 co:sc.isCoroutine=false
 gen:sc.isGenerator=false
 nd:N.Nodup
 pre:N.take P.length=P
 par:∀ x∈P,sc.names.lookup x=some .local∨sc.names.lookup x=some .cell
 nofree:∀ y∈sc.names,y.2≠.free
þ lZ {kindOf:Str→Option NameKind}{x:Str}:∀ {binds:List (Str×Value)}{m:Str→Option Value},(∀ v,(x,v)∉binds)→bindL kindOf binds m x=m x
 | [],_,_=>rfl
 | (n,v)::r,m,h=>by
   unfold bindL;rw[lZ fun w hw=>h w (zX _ hw)]
   split
   . h:x≠n:=by rintro rfl;e h v zV
     simp[this]
   . rfl
þ lM {kindOf:Str→Option NameKind}{x:Str}:∀ {binds:List (Str×Value)}{m:Str→Option Value},(∀ v,(x,v)∉binds)→bindC kindOf binds m x=m x
 | [],_,_=>rfl
 | (n,v)::r,m,h=>by
   unfold bindC;rw[lM fun w hw=>h w (zX _ hw)]
   split
   . rfl
   . h:x≠n:=by rintro rfl;e h v zV
     simp[this]
þ lB {kindOf:Str→Option NameKind}{x:Str}{v:Value}:∀ {P:List Str}{vs:List Value}{i:Nat}{m:Str→Option Value},P.Nodup→P[i]?=some x→vs[i]?=some v→kindOf x=some .local →
   bindL kindOf (P.zip vs) m x=some v
 | [],_,_,_,_,h,_,_=>by simp at h
 | _::_,[],_,_,_,_,h,_=>by simp at h
 | p::P,w::vs,0,m,nd,h1,h2,hk=>by
   simp at h1 h2;subst h1;subst h2;show bindL kindOf ((p,w)::P.zip vs) m p=_;unfold bindL;rw[lZ fun v hv=>(List.nodup_cons.mp nd).1 (Cn hv).1,if_pos hk];simp
 | p::P,w::vs,i+1,m,nd,h1,h2,hk=>by
   show bindL kindOf ((p,w)::P.zip vs) m x=_;unfold bindL;e lB (i:=i) (List.nodup_cons.mp nd).2 (by simpa using h1) (by simpa using h2) hk
þ lF {kindOf:Str→Option NameKind}{x:Str}{v:Value}:∀ {P:List Str}{vs:List Value}{i:Nat}{m:Str→Option Value},P.Nodup→P[i]?=some x→vs[i]?=some v→kindOf x≠some .local →
   bindC kindOf (P.zip vs) m x=some v
 | [],_,_,_,_,h,_,_=>by simp at h
 | _::_,[],_,_,_,_,h,_=>by simp at h
 | p::P,w::vs,0,m,nd,h1,h2,hk=>by
   simp at h1 h2;subst h1;subst h2;show bindC kindOf ((p,w)::P.zip vs) m p=_;unfold bindC;rw[lM fun v hv=>(List.nodup_cons.mp nd).1 (Cn hv).1,if_neg hk];simp
 | p::P,w::vs,i+1,m,nd,h1,h2,hk=>by
   show bindC kindOf ((p,w)::P.zip vs) m x=_;unfold bindC;e lF (i:=i) (List.nodup_cons.mp nd).2 (by simpa using h1) (by simpa using h2) hk
noncomputable def start (N:List Str)(vs:List V):St:=vs.map some++zY (N.length - vs.length) none
noncomputable def fK (CX:CXT)(P:Program)(w:World)(K:PySem.W.Frag)(mg:Str→Option Value)(base:Heap)(N:List Str) (qual:Str)(scope:Scope)(f:Addr) (cd:Value)(A:Around)(outer:List Env)(s:Shared)(H:Hp)(E:XK):Cx where
 prog:=P
 w:=w
 K:=K
 mg:=mg
 base:=base
 A:=A.deeper (envOfC qual scope s.heap.objs.size f cd)
 N:=N
 s₀:=s
 H₀:=H
 env:=envOfC qual scope s.heap.objs.size f cd
 outer:=outer
 stack:=envOfC qual scope s.heap.objs.size f cd::outer
 ex:=[]
 calm:=true
 fn:=fun _=>true
 pn:=[]
 xe:=fun e s'=>wpAny (model P w) (A.deeper (envOfC qual scope s.heap.objs.size f cd)) (leaving (envOfC qual scope s.heap.objs.size f cd) e) (fun _ s''=>CX outer H s E e s'') (fun e' s''=>CX outer H s E e' s'') s'
þ nQ {sc:Scope}{n:Nat}{x:Str}(h:sc.names.lookup x=some .cell):∃ c,(cellsFrom n sc.names []).lookup x=some c:=by
 h q:=PySem.W.cellsFrom_some sc.names n [] (.inl h);e Option.isSome_iff_exists.mp q
þ tP {CX:CXT}{P:Program}{w:World}{K:PySem.W.Frag}{mg:Str→Option Value}{base:Heap}{N ps:List Str}{qual:Str}{scope:Scope}{f:Addr}{cd:Value}{A:Around}{outer:List Env}{s s1:Shared}{H:Hp}{E:XK}{us:List Value}{vs:List V}
   (S:ay N ps scope)(hd:A.handled=none)(e0:qy P w K mg base A outer s H)(hl:vs.length=ps.length)(r:Vals vs us)
   (x:InCallC s s.heap.objs.size (bindL (envOfC qual scope s.heap.objs.size f cd).kindOf (ps.zip us) fun _=>none) (cellsFrom (s.heap.objs.size+1) scope.names []) (bindC (envOfC qual scope s.heap.objs.size f cd).kindOf (ps.zip us) fun _=>none) s1) :
   Inv (fK CX P w K mg base N qual scope f cd A outer s H E) [] (start N vs) H s1:=by
 h hpl:ps.length≤N.length:=by have:=congrArg B9 S.pre;rw[Aa] at this;m
 o⟨h1,tk,rfl,hk⟩:=x.done;h noA:∀ b:Addr,b∉(fK CX P w K mg base N qual scope f cd A outer s H E).ex:=fun b z=>absurd (show b∈([]:List Addr) from z) (by simp)
 r⟨⟨e0.mod,S.kind,rfl,rfl,zN _,fun y z c h1 h2=>?_,fun y hy=>?_,fun y c _ h=>?_,fun _=>hd,Around.frames_deeper e0.frames,.inr ⟨rfl,rfl⟩,fun b z=>absurd z (noA b),e0.bs,e0.bsz,fun b _ _=>noA b,fun b z=>absurd z (noA b),e0.funs,e0.frf⟩,
   rfl,e0.bare,Un.kept hk,⟨_,x.toInCall.ns,fun i y v h1 h2 h3=>?_⟩,fun y c h=>⟨_,x.cell y c h⟩,e0.hok.fresh (zN _),fun y c h=>?_,fun p hp=>absurd (show p∈([]:List (Addr×Obj)) from hp) (by simp),e0.hok.kept hk,?_⟩
 . e name_of_addr x.apart (AX h1) (AX h2)
 . h hy:scope.names.lookup y=some .cell∨scope.names.lookup y=some .free:=hy
   rcases hy with hy | hy
   . e nQ hy
   . e absurd rfl (S.nofree _ (AX hy))
 . e Ci (x.above y c (AX h))
 . h hi:i < vs.length:=by
     unfold start at h2;by_cases hi:i < vs.length
     . e hi
     . rw[zP (by simpa using hi)] at h2;rw[List.getElem?_replicate] at h2
       split at h2<;>cases h2
   h ha:vs[i]?=some v:=by
     unfold start at h2;rw[zU (by simpa using hi),zK] at h2
     cases e:vs[i]? with
     | none=>rw[e] at h2;cases h2
     | some a=>rw[e] at h2;cases h2;rfl
   o⟨u,hu,rv⟩:=r.get ha
   h hp:ps[i]?=some y:=by
     rw[←S.pre,List.getElem?_take_of_lt (by m)];e h1
   h ndP:ps.Nodup:=by rw[←S.pre];e S.nd.sublist (Br _ _)
   r⟨u,rv,?_⟩
   rcases S.par y (zO hp) with k | k
   . e .inl ⟨k,lB ndP hp hu k⟩
   . o⟨c,e⟩:=nQ (n:=s.heap.objs.size+1) k;r .inr ⟨.inl k,c,e,?_⟩;h q:=x.cell y c e;rw[lF ndP hp hu (by show scope.names.lookup y≠_;rw[k];decide)] at q;e q
 . e e0.hok.fresh (Ci (x.above y c (AX h)))
 . unfold start;show _=N.length;rw[zL,be,List.length_replicate];m
þ xq {CX:CXT}{P:Program}{w:World}{K:PySem.W.Frag}{mg:Str→Option Value}{base:Heap}{k:Nat}{f:Addr}{name qual:Str}{params:Arguments}{body:List Stmt}{scope:Scope}{dV kV doc pm cdv ct oc:Value}{an od:Option Addr}
   {osl:Array (Option Value)}{N ps:List Str}{sp:Sp}(lk:K.lookup f=some ⟨oc,od,.func (Bo name qual params body scope dV kV doc pm an cdv ct),osl⟩)(hcd:Cq K cdv qual=true)(S:ay N ps scope)
   (len:∀ vs H Q E,sp vs H Q E→vs.length=ps.length)
   (hbody:∀ (A:Around)(outer:List Env)(s:Shared)(H:Hp)(vs:List V)(Q:VK)(E:XK),dc k (A.deeper (envOfC qual scope s.heap.objs.size f cdv))→sp vs H Q E →
     ∃ t,PSs (fK CX P w K mg base N qual scope f cdv A outer s H E) body t∧t { nx:=fun _ H'=>Q .non H',rt:=Q } (start N vs) H) :
   aW P w K mg base CX (k+1) f (Bo name qual params body scope dV kV doc pm an cdv ct) ps sp:=by
 r⟨len,fun A outer s H args us vs Q E hr e0 hb r hsp=>?_⟩;h hl:=len _ _ _ _ hsp;h KX:K.In s.heap:=e0.mod.kin.keeps fun b o e=>(e0.bs b o e).1;h lim:s.heap.NoLimit:=e0.mod.nolimit.keeps fun b o e=>(e0.bs b o e).1
 h hkind:∀ y∈ps.zip us,scope.names.lookup y.1=some .local∨(scope.names.lookup y.1=some .cell∧((cellsFrom (s.heap.objs.size+1) scope.names []).lookup y.1).isSome=true):=fun⟨n,v⟩ hy=>by
   rcases S.par n (Cn hy).1 with q | q
   . e .inl q
   . e .inr ⟨q,PySem.W.cellsFrom_some _ _ _ (.inl q)⟩
 r codeAny_call_function hr.depth (KX _ _ lk) rfl S.co S.gen rfl (PySem.W.codeRec_of KX hcd) (hb _ _ _ _ ?_);r wpAny_newFunctionEnv_cells S.kind hkind fun env he s1 x=>?_;subst he;r⟨lim.keeps x.toInCall.keep,codeAny_func ?_⟩;o⟨t,ht,hq⟩:=hbody A outer s H vs Q E (hr.deeper _) hsp;h I:Inv (fK CX P w K mg base N qual scope f cdv A outer s H E) [] (start N vs) H s1:=tP S hr.hd e0 hl r x;r wpAny_mono (ht s1 (start N vs) H _ I hq) (fun fl s' hs=>?_) fun e s' hs=>hs
 h fin:∀ {σ':St}{H':Hp}{v:V}{u:Value},Inv (fK CX P w K mg base N qual scope f cdv A outer s H E) [] σ' H' s'→bd v u→Q v H'→CE outer P w H s Q u s' :=
   fun {σ' H' v u} J rv q=>⟨v,H',J.os,J.bare,J.base,J.hok,rv,q⟩
 cases fl with
 | ret u =>
   o⟨v,σ',H',J,rv,q⟩:=hs;e fin J rv q
 | next =>
   o⟨σ',H',J,q⟩:=hs;e fin (v:=V.non) (u:=Value.none) J rfl q
 | brk =>
   o⟨_,_,_,q⟩:=hs;e False.elim q
 | cont =>
   o⟨_,_,_,q⟩:=hs;e False.elim q
section
variable {X:Cx}{x:Str}{p pos:Pos}{e:Expr}{es:List Expr}{t:TA}{id T:String}{r:List V→Hp→VK→Prop}
noncomputable def tCB (r:List V→Hp→VK→Prop)(t:TA):TE:=fun σ H Q=>t σ H fun vs H1=>r vs H1 Q
þ al (hc:cv X (.builtin id) r)(hg:Gl X x)(hm:X.mg x=none)(hv:bootBuiltins x=some (.builtin id))(ha:PA X (e::es) t)(hn:x≠"__name__":=by decide)(hdb:(x==("__debug__":Str))=false:=by decide)
   (he:starEach (e::es) X.env=(false,eval e X.env)::starEach es X.env:=by rfl)(hpl:(backTo pos (starEach es X.env)).any (·.1)=false:=by rfl):PE X (.Call (.Name x p) (e::es) [] pos) (tCB r t):=by
 intro pins s σ H Q I h;r wpAny_Call_Name_kw (ir I hg hm hv ?_ hn hdb);e PyProof.Rows.callWith_builtin1 (thn (ha pos s σ H _ I h) fun us s1 ⟨vs,H1,I1,r1,q1⟩=>hc pins s1 σ H1 vs us Q I1 r1 q1) he hpl
þ cw (hc:cv X (.type T) r)(hg:Gl X x)(hm:X.mg x=none)(hv:bootBuiltins x=some (.type T))(ha:PA X (e::es) t)(hn:x≠"__name__":=by decide)(hdb:(x==("__debug__":Str))=false:=by decide)
   (he:starEach (e::es) X.env=(false,eval e X.env)::starEach es X.env:=by rfl)(hpl:(backTo pos (starEach es X.env)).any (·.1)=false:=by rfl):PE X (.Call (.Name x p) (e::es) [] pos) (tCB r t):=by
 intro pins s σ H Q I h;r wpAny_Call_Name_kw (ir I hg hm hv ?_ hn hdb);e A6 (thn (ha pos s σ H _ I h) fun us s1 ⟨vs,H1,I1,r1,q1⟩=>hc pins s1 σ H1 vs us Q I1 r1 q1) he hpl
end
end L2
namespace HT
open PySem PyProof.Rows
section
open PySem.SeqAt
open PySem.AutoSeq1 (wpAny_loadPart')
open PySem.MeetsSeq PySem.MeetsSeq2 PySem.MeetsSeq3
end
section
variable {prog:Program}{w:World}{A:Around}{E:Value→Shared→Prop}{s:Shared}
noncomputable def sIx (n d:Nat):Option Int→Nat
 | none=>d
 | some v=>if v < 0 then(v+(n:Int)).toNat else min v.toNat n
þ sIx_none (n d:Nat):sIx n d none=d:=rfl
þ sIx_nat (n d k:Nat):sIx n d (some (k:Int))=min k n:=by
 show(if(k:Int) < 0 then((k:Int)+(n:Int)).toNat else min (k:Int).toNat n)=min k n;rw[if_neg (by m),An]
end
end HT
namespace L2
open PySem PySem.Spec PyProof.Rows
abbrev TO:=St→Hp→(Option Int→Hp→Prop)→Prop
noncomputable def PO (X:Cx)(e:Option Expr)(t:TO):Prop :=
 ∀ ⦃pins:List (Addr×Obj)⦄ (s:Shared) (σ:St)(H:Hp)(Q:Option Int→Hp→Prop),Inv X pins σ H s→t σ H Q →
   wpAny (model X.prog X.w) X.A (evalPart e X.env) (fun u s'=>∃ o H',Inv X pins σ H' s'∧IsPart u o∧Q o H') X.xe s
noncomputable def mh:TO:=fun _ H Q=>Q none H
noncomputable def vR (t:TE):TO:=fun σ H Q=>t σ H fun x H1=>∃ i,x=.int i∧Q (some i) H1
section
variable {X:Cx}{e:Expr}{te:TE}{lo hi:Option Expr}{tl th:TO}{pos p2:Pos}
þ ig:PO X none mh:=by
 intro pins s σ H Q I h;rw[evalPart_none];e wpAny_pure ⟨none,H,I,.none,h⟩
þ fF (h:PE X e te):PO X (some e) (vR te):=by
 intro pins s σ H Q I hw;rw[evalPart_some];r thn (h s σ H _ I hw) fun u s1 ⟨x,H1,I1,r1,q1⟩=>?_;o⟨i,rfl,q⟩:=q1;o⟨t,rfl⟩:=r1;e⟨some i,H1,I1,.int i t,q⟩
noncomputable def SlR (X:Cx)(r:V→Option Int→Option Int→Hp→VK→Prop):Prop :=
 ∀ (pins:List (Addr×Obj))(s:Shared) (σ:St)(H:Hp) (x:V) (v vl vu:Value)(lo hi:Option Int)(sl:Addr)(Q:VK),Inv X pins σ H s→bd x v→s.heap.IsSliceOf sl vl vu .none→IsPart vl lo→IsPart vu hi→r x lo hi H Q →
   ∃ T id,typeLookup (.type T) "__getitem__"=pure (some (.builtin id))∧s.TypeIs v T∧wpAny (model X.prog X.w) X.A (getItem v (.ref sl)) (EP X pins σ Q) X.xe s
noncomputable def tSl (r:V→Option Int→Option Int→Hp→VK→Prop)(te:TE)(tl th:TO):TE:=fun σ H Q=>te σ H fun x H1=>tl σ H1 fun l H2=>th σ H2 fun u H3=>r x l u H3 Q
þ eJ {r:V→Option Int→Option Int→Hp→VK→Prop}(hr:SlR X r)(he:PE X e te)(hl:PO X lo tl)(hu:PO X hi th):PE X (.Subscript e (.Slice lo hi none p2) pos) (tSl r te tl th):=by
 intro pins s σ H Q I h;r Subscript_ (thn (he s σ H _ I h) fun v s1 ⟨x,H1,I1,r1,q1⟩=>?_);r wpAny_Slice (thn (hl s1 σ H1 _ I1 q1) fun vl s2 ⟨l,H2,I2,pl,q2⟩=>thn (hu s2 σ H2 _ I2 q2) fun vu s3 ⟨u,H3,I3,pu,q3⟩=>?_);rw[evalPart_none];r wpAny_pure ?_;h I4:Inv X pins σ H3 { s3 with heap:=s3.heap.push { cls:=.type "slice",data:=.fields #[vl,vu,.none] } }:=I3.kept (t':=s3.toks) fun b ob q=>Heap.get?_push_of_some _ q;o⟨T,id,hT,ht,hg⟩:=hr pins { s3 with heap:=s3.heap.push { cls:=.type "slice",data:=.fields #[vl,vu,.none] } } σ H3 x v vl vu l u s3.heap.objs.size Q I4 r1 (Heap.IsSliceOf.new ..) pl pu q3;show wpAny (model X.prog X.w) X.A (subscriptTail e (.Slice lo hi none p2) v (.ref s3.heap.objs.size)) (EP X pins σ Q) X.xe { s3 with heap:=s3.heap.push { cls:=.type "slice",data:=.fields #[vl,vu,.none] } };e tail_any (ops:=[.ref s3.heap.objs.size,v]) ht hT hg (by with_unfolding_all rfl)
noncomputable def iA (xs:List V)(lo hi:Option Int):List V:=(xs.drop (HT.sIx xs.length 0 lo)).take (HT.sIx xs.length xs.length hi - HT.sIx xs.length 0 lo)
þ oa (xs:List V)(lo hi:Option Int):(iA xs lo hi).length≤xs.length:=by
 unfold iA;rw[Aa,AU];m
end
noncomputable def ixN (n:Nat) (i:Int):Option Nat:=if 0≤i then(if i < n then some i.toNat else none) else if -(n:Int)≤i then some (i+n).toNat else none
noncomputable def atI {α:Type}(xs:List α) (i:Int):Option α:=(ixN xs.length i).bind fun j=>xs[j]?
þ rD {n:Nat}{i:Int}{j:Nat}(h:ixN n i=some j):seqIndex? i n=some j∧j < n∧-(n:Int)≤i∧i < n:=by
 unfold ixN at h;by_cases h0:0≤i
 . rw[if_pos h0] at h;by_cases h1:i < n
   . rw[if_pos h1] at h;h e:i.toNat=j:=Option.some.inj h;e⟨by rw[seqIndex_of h0 h1,e],by m,by m,h1⟩
   . rw[if_neg h1] at h;cases h
 . rw[if_neg h0] at h;by_cases h1:-(n:Int)≤i
   . rw[if_pos h1] at h;h e:(i+n).toNat=j:=Option.some.inj h;e⟨by rw[seqIndex_neg (by m) h1,e],by m,h1,by m⟩
   . rw[if_neg h1] at h;cases h
þ nF {α:Type}{xs:List α}{i:Int}{v:α}(h:atI xs i=some v):∃ j,seqIndex? i xs.length=some j∧xs[j]?=some v∧j < xs.length∧-(xs.length:Int)≤i∧i < xs.length:=by
 unfold atI at h
 cases e:ixN xs.length i with
 | none=>rw[e] at h;cases h
 | some j =>
   rw[e] at h;o⟨h1,h2,h3,h4⟩:=rD e;e⟨j,h1,h,h2,h3,h4⟩
þ bU {α:Type}{xs:List α}{j:Nat}{v:α}(h:xs[j]?=some v):atI xs (j:Int)=some v:=by
 h hj:j < xs.length:=(List.getElem?_eq_some_iff.mp h).1
 h e:ixN xs.length (j:Int)=some j:=by
   unfold ixN;rw[if_pos (by m),if_pos (by m)];simp
 unfold atI;rw[e];e h
þ eM {α:Type}(xs:List α)(v:α):atI (xs++[v]) (-1)=some v:=by
 h hl:(xs++[v]).length=xs.length+1:=by simp
 h e:ixN (xs++[v]).length (-1)=some xs.length:=by
   unfold ixN;rw[hl,if_neg (by decide),if_pos (by m)]
   congr 1
   m
 unfold atI;rw[e];show(xs++[v])[xs.length]?=some v;simp
noncomputable def wv (b:Expr):Prop:=∀ o i,subscripted b false o i=operate [o,i] (getItem o i)
noncomputable def IxR (X:Cx)(r:R2):Prop :=
 ∀ (value slice:Expr)(pins:List (Addr×Obj))(s:Shared) (σ:St)(H:Hp) (x y:V) (v u:Value)(Q:VK),Inv X pins σ H s→bd x v→bd y u→r x y H Q →
   subscripted slice false v u=operate [v,u] (getItem v u)→wpAny (model X.prog X.w) X.A (subscriptTail value slice v u) (EP X pins σ Q) X.xe s
noncomputable def MtR (X:Cx)(id:String)(r:V→List V→Hp→VK→Prop):Prop :=
 ∀ (pins:List (Addr×Obj))(s:Shared) (σ:St)(H:Hp) (x:V)(xs:List V) (v:Value)(us:List Value)(Q:VK),Inv X pins σ H s→bd x v→Vals xs us→r x xs H Q →
   wpAny (model X.prog X.w) X.A (call (.builtin id) (v::us)) (EP X pins σ Q) X.xe s
section
variable {X:Cx}{a b:Expr}{ta tb:TE}{pos:Pos}
þ IxR.or {r r':R2}(h:IxR X r)(h':IxR X r'):IxR X (fun x y H Q=>r x y H Q∨r' x y H Q):=by
 intro value slice pins s σ H x y v u Q I rx ry q hs
 rcases q with q | q
 . e h value slice pins s σ H x y v u Q I rx ry q hs
 . e h' value slice pins s σ H x y v u Q I rx ry q hs
þ am {r:R2}(hr:IxR X r)(ha:PE X a ta)(hb:PE X b tb)(hs:wv b):PE X (.Subscript a b pos) (tOp r ta tb):=by
 intro pins s σ H Q I h;e Subscript_ (xA ha hb I h fun v u s2 x y H2 I2 rx ry q=>hr a b pins s2 σ H2 x y v u Q I2 rx ry q (hs _ _))
noncomputable def gP (K:PySem.W.Frag):R2:=fun x y H Q=>oK x fun p=>∃ xs,isInt y fun i=>∃ v,SqL K H p xs∧atI xs i=some v∧Q v H
noncomputable def pE (K:PySem.W.Frag):R2:=fun x y H Q=>oK x fun p=>∃ xs,isInt y fun i=>∃ v,SqT K H p xs∧atI xs i=some v∧Q v H
noncomputable def wJ:R2:=fun x y H Q=>∃ z i c,x=.str z∧y=.int i∧z.length≤sizeLine∧atI z.cps.toList i=some c∧Q (.str ⟨#[c]⟩) H
þ ak:IxR X (gP X.K):=by
 intro value slice pins s σ H x y v u Q I rx ry h hs;rw[gP,km] at h;o⟨p,rfl,xs,h⟩:=h;rw[cV] at h;o⟨i,rfl,z,hq,he,q⟩:=h;cases rx;o⟨t,rfl⟩:=ry;o⟨its,r,pl,hz⟩:=I.list hq;o⟨j,h1,h2,h3,h4,h5⟩:=nF he;o⟨w,ew,rw'⟩:=r.get h2;h hl:=r.length;h hn:=iW;h fin:EP X pins σ Q w s:=⟨z,H,I,rw',q⟩;by_cases h0:0≤i
 . h hj:i.toNat=j:=by
     rw[seqIndex_of h0 h5] at h1;e Option.some.inj h1
   e item_listR pl.isList h0 (by m) (by rw[hj];simpa using ew) fin hs
 . h hj:(i+(its.toArray.size:Int)).toNat=j:=by
     rw[seqIndex_neg (by m) h4] at h1;rw[zW,←hl];e Option.some.inj h1
   e subscriptTail_builtinR (x:=w) pl.isList.typeIs slot_list_getitem.lookup
     (wpAny_getItem_list_neg (Q:=fun r s'=>r=w∧EP X pins σ Q r s') pl.isList (by m) (by rw[zW]<;>m) (by m) (by rw[hj];simpa using ew) ⟨rfl,fin⟩) hs
þ aK:IxR X (pE X.K):=by
 intro value slice pins s σ H x y v u Q I rx ry h hs;rw[pE,km] at h;o⟨p,rfl,xs,h⟩:=h;rw[cV] at h;o⟨i,rfl,z,hq,he,q⟩:=h;cases rx;o⟨t,rfl⟩:=ry;o⟨its,r,pl,hz⟩:=I.tuple hq;o⟨j,h1,h2,h3,h4,h5⟩:=nF he;o⟨w,ew,rw'⟩:=r.get h2;h hl:=r.length;h hn:=iW;h fin:EP X pins σ Q w s:=⟨z,H,I,rw',q⟩
 e subscriptTail_builtinR (x:=w) pl.typeIs slot_tuple_getitem.lookup
   (getItem_tuple (j:=j) (Q:=fun r s'=>r=w∧EP X pins σ Q r s') pl (by m) (by m) (by rw[zW,←hl];e h1) (by simpa using ew) ⟨rfl,fin⟩) hs
þ mn:IxR X wJ:=by
 intro value slice pins s σ H x y v u Q I rx ry h hs;o⟨z,i,c,rfl,rfl,hz,he,q⟩:=h;o⟨t,rfl⟩:=rx;o⟨t',rfl⟩:=ry;o⟨j,h1,h2,h3,h4,h5⟩:=nF he
 h hl:z.cps.toList.length=z.length:=by simp[Str.length]
 rw[hl] at h1 h4 h5;h hn:=iW
 e tail_any (typeIs_str s z t) slot_str_getitem.lookup (getItem_str (c:=c) (by
   h e1:decide (i < -(2 ^ 63:Int))=false:=decide_eq_false (by m);h e2:decide (i≥2 ^ 63)=false:=decide_eq_false (by m)
   rw[e1,e2,Bool.or_false]) (by rw[h1];simpa using h2) ⟨.str ⟨#[c]⟩,H,I.tok _,⟨_,rfl⟩,q⟩) hs
noncomputable def rIx (K:PySem.W.Frag):R2:=fun x y H Q=>gP K x y H Q∨pE K x y H Q∨wJ x y H Q
þ tW:IxR X (rIx X.K):=ak.or (aK.or mn)
þ pR (its:List Value) (n j:Nat) (u:Value):Obj.mapSeq (·.setIfInBounds j u) { cls:=.type "list",data:=.seq its.toArray n }={ cls:=.type "list",data:=.seq (its.set j u).toArray n }:=by
 simp[Obj.mapSeq]
þ Inv.lst {pins:List (Addr×Obj)}{σ:St}{H:Hp}{s:Shared}{p:Addr}{xs:List V}(I:Inv X pins σ H s)(h:H p=some (.lst xs)) :
   ∃ (its:List Value) (n:Nat),Vals xs its∧s.heap.get? p=some { cls:=.type "list",data:=.seq its.toArray n }∧xs.length≤sizeLine:=by
 o⟨z,its,n,r,e⟩:=I.hok p _ h;e⟨its,n,r,e,z⟩
þ Inv.lstUpd {pins:List (Addr×Obj)}{σ:St}{H:Hp}{s:Shared}{p:Addr}{xs ys:List V}{its its':List Value}{n n':Nat}{f:Obj→Obj}(I:Inv X pins σ H s)(h:H p=some (.lst xs))
   (ho:s.heap.get? p=some { cls:=.type "list",data:=.seq its.toArray n })(hf:f { cls:=.type "list",data:=.seq its.toArray n }={ cls:=.type "list",data:=.seq its'.toArray n' })(r:Vals ys its')(hz:ys.length≤sizeLine) (t:Nat) :
   Inv X pins σ (upd H p (.lst ys)) { s with heap:=s.heap.update p f,toks:=t }:=by
 h e:(s.heap.update p f).get? p=some { cls:=.type "list",data:=.seq its'.toArray n' }:=by
   rw[Heap.get?_update_self f ho (by rw[hf]<;>rfl),hf]
 r I.write (x:=p) (e:=p) (by rw[h];trivial) (.inl rfl) (fun b u hb q=>(Heap.get?_update_other _ _ (Ne.symm hb)).trans q) ⟨_,e⟩ ?_;e⟨hz,its',n',r,e⟩
noncomputable def uP:V→V→V→Hp→(Hp→Prop)→Prop:=fun o i v H Q=>∃ p xs k j,o=.ref p∧i=.int k∧H p=some (.lst xs)∧ixN xs.length k=some j∧Q (upd H p (.lst (xs.set j v)))
þ jU:za X uP:=by
 intro pins s σ H o i v ov iv u Q I ro ri rv h;o⟨p,xs,k,j,rfl,rfl,hp,hj,q⟩:=h;cases ro;o⟨t,rfl⟩:=ri;o⟨its,n,r,ho,hz⟩:=I.lst hp;o⟨h1,h2,h3,h4⟩:=rD hj;h hl:=r.length;h hn:=iW
 h I':Inv X pins σ (upd H p (.lst (xs.set j v))) { s with heap:=s.heap.update p (Obj.mapSeq (·.setIfInBounds j u)) } :=
   I.lstUpd hp ho (pR its n j u) (r.set rv j) (by rw[Co];e hz) s.toks
 by_cases h0:0≤k
 . h hk:k.toNat=j:=by
     rw[seqIndex_of h0 h4] at h1;e Option.some.inj h1
   e PySem.W.ki_setAt ho h0 (by m) (by rw[zW,←hl];e h4) (by rw[hk];e⟨_,I',q⟩)
 . h hk:(k+(its.toArray.size:Int)).toNat=j:=by
     rw[seqIndex_neg (by m) h3] at h1;rw[zW,←hl];e Option.some.inj h1
   e PySem.W.ki_setBack ho (by m) (by rw[zW,←hl];e h3) (by m) (by rw[hk];e⟨_,I',q⟩)
þ mj (lo hi:Option Int) (n:Nat):(sliceBounds lo hi none n).1=((HT.sIx n 0 lo:Nat):Int)∧(sliceBounds lo hi none n).2.1=((HT.sIx n n hi:Nat):Int)∧(sliceBounds lo hi none n).2.2=1:=by
 r⟨?_,?_,rfl⟩
 . cases lo with
   | none=>simp[sliceBounds,HT.sIx]
   | some i =>
     simp only[sliceBounds,HT.sIx,Cf,show(1:Int) > 0 by decide,if_true];by_cases h:i < 0
     . simp only[h,if_true]<;>m
     . simp only[h,if_false]<;>m
 . cases hi with
   | none=>simp[sliceBounds,HT.sIx]
   | some i =>
     simp only[sliceBounds,HT.sIx,Cf,show(1:Int) > 0 by decide,if_true];by_cases h:i < 0
     . simp only[h,if_true]<;>m
     . simp only[h,if_false]<;>m
þ kX (its:List Value)(lo hi:Option Int):slicePick its.toArray lo hi none=((its.drop (HT.sIx its.length 0 lo)).take (HT.sIx its.length its.length hi - HT.sIx its.length 0 lo)).toArray:=by
 o⟨h1,h2,h3⟩:=mj lo hi its.toArray.size;unfold slicePick;rw[h1,h2,h3];simp only[sliceRange_one,pick_run,zW]<;>rfl
noncomputable def xH (K:PySem.W.Frag):V→Option Int→Option Int→Hp→VK→Prop:=fun x lo hi H Q=>∃ a xs,x=.ref a∧SqL K H a xs∧∀ p,H p=none→Q (.ref p) (upd H p (.lst (iA xs lo hi)))
þ il:SlR X (xH X.K):=by
 intro pins s σ H x v vl vu lo hi sl Q I rx hs pl pu h;o⟨a,xs,rfl,hx,q⟩:=h;cases rx;o⟨its,r,ht,hz⟩:=I.list hx;h hlen:=r.length;r⟨"list",_,slot_list_getitem.lookup,ht.isList.typeIs,?_⟩;r wpAny_getItem_list_slice ht.isList hs pl pu .none (by simp) ?_ (by rw[zW]<;>m);rw[kX,←hlen];r⟨.ref s.heap.objs.size,_,I.laid (t':=s.toks) (o:=.lst (iA xs lo hi)) (fun b ob q=>Heap.get?_push_of_some _ q) (zN _) ?_,rfl,q _ (I.hok.fresh (zN _))⟩;e⟨AB (oa xs lo hi) hz,_,0,(r.drop (HT.sIx xs.length 0 lo)).take (HT.sIx xs.length xs.length hi - HT.sIx xs.length 0 lo),Heap.get?_push_size _ rfl⟩
noncomputable def dN:V→Bool
 | .non=>true
 | .bl _=>true
 | .int _=>true
 | .str _=>true
 | _=>false
noncomputable def eqV:V→V→Bool
 | .non,.non=>true
 | .bl a,.bl b=>a==b
 | .bl a,.int b=>(if a then 1 else 0)==b
 | .int a,.bl b=>a==(if b then 1 else 0)
 | .int a,.int b=>a==b
 | .str a,.str b=>a==b
 | _,_=>false
þ vz {A:Around}{s:Shared}{y x:V}{u v:Value}(ry:bd y u)(rx:bd x v)(fy:dN y=true)(fx:dN x=true):SeqAt.EqAt A s u v (eqV y x):=by
 cases y with
 | non =>
   cases ry
   cases x with
   | non=>cases rx;e SeqAt.EqAt.same _
   | bl b=>cases rx;e SeqAt.EqAt.none_bool b
   | int b=>o⟨t,rfl⟩:=rx;e SeqAt.EqAt.none_int b t
   | str b=>o⟨t,rfl⟩:=rx;e SeqAt.EqAt.none_str b t
   | _=>e absurd (show false=true from fx) Bool.false_ne_true
 | bl a =>
   cases ry
   cases x with
   | non=>cases rx;e SeqAt.EqAt.bool_none a
   | bl b=>cases rx;e SeqAt.EqAt.bool_bool a b
   | int b=>o⟨t,rfl⟩:=rx;e SeqAt.EqAt.bool_int a b t
   | str b=>o⟨t,rfl⟩:=rx;e SeqAt.EqAt.bool_str a b t
   | _=>e absurd (show false=true from fx) Bool.false_ne_true
 | int a =>
   o⟨t',rfl⟩:=ry
   cases x with
   | non=>cases rx;e SeqAt.EqAt.int_none a t'
   | bl b=>cases rx;e SeqAt.EqAt.int_bool a t' b
   | int b=>o⟨t,rfl⟩:=rx;e SeqAt.EqAt.int_int a t' b t
   | str b=>o⟨t,rfl⟩:=rx;e SeqAt.EqAt.int_str a t' b t
   | _=>e absurd (show false=true from fx) Bool.false_ne_true
 | str a =>
   o⟨t',rfl⟩:=ry
   cases x with
   | non=>cases rx;e SeqAt.EqAt.str_none a t'
   | bl b=>cases rx;e SeqAt.EqAt.str_bool a t' b
   | int b=>o⟨t,rfl⟩:=rx;e SeqAt.EqAt.str_int a t' b t
   | str b=>o⟨t,rfl⟩:=rx;e SeqAt.EqAt.str_str a t' b t
   | _=>e absurd (show false=true from fx) Bool.false_ne_true
 | _=>e absurd (show false=true from fy) Bool.false_ne_true
noncomputable def eqU (x:V) (u:Value):Bool:=match u with
 | .none=>eqV .non x
 | .bool b=>eqV (.bl b) x
 | .int i _=>eqV (.int i) x
 | .str z _=>eqV (.str z) x
 | _=>false
þ vQ {x y:V}{u:Value}(r:bd y u)(f:dN y=true):eqU x u=eqV y x:=by
 cases y with
 | non=>cases r;rfl
 | bl b=>cases r;rfl
 | int i=>o⟨t,rfl⟩:=r;rfl
 | str z=>o⟨t,rfl⟩:=r;rfl
 | _=>e absurd (show false=true from f) Bool.false_ne_true
þ gW {x:V}:∀ {xs:List V}{us:List Value},Vals xs us→xs.all dN=true→us.any (eqU x)=xs.any fun y=>eqV y x
 | _,_,.nil,_=>rfl
 | y::xs,u::us,.cons r t,f=>by
   rw[Ce,Bool.and_eq_true] at f;rw[Bg,Bg,vQ r f.1,gW t f.2]
þ f8 {A:Around}{s:Shared}{x:V}{v:Value}(rx:bd x v)(fx:dN x=true):∀ {xs:List V}{us:List Value},Vals xs us→xs.all dN=true→∀ u∈us,SeqAt.EqAt A s u v (eqU x u)
 | _,_,.nil,_=>fun u hu=>by cases hu
 | y::xs,u::us,.cons r t,f=>fun u' hu=>by
   rw[Ce,Bool.and_eq_true] at f
   rcases List.mem_cons.mp hu with rfl | hu
   . rw[vQ r f.1];e vz r rx f.1 fx
   . e f8 rx fx t f.2 u' hu
noncomputable def inV (x:V)(xs:List V):Bool:=xs.any fun y=>eqV y x
noncomputable def rIn (K:PySem.W.Frag)(neg:Bool):R2:=fun x y H Q=>∃ p xs,y=.ref p∧(SqL K H p xs∨SqT K H p xs)∧dN x=true∧xs.all dN=true∧Q (.bl (if neg then !inV x xs else inV x xs)) H
þ lw:OpR X (compareOp .In) (rIn X.K false):=by
 intro pins s σ H x y v u Q I rx ry h;o⟨p,xs,rfl,hq,fx,fs,q⟩:=h;cases ry
 rcases hq with hq | hq
 . o⟨its,r,pl,hz⟩:=I.list hq;r SeqAt.in_listAt (eqU x) pl.isList (fun w hw=>f8 rx fx r fs w (by simpa using hw)) ⟨.bl _,H,I,rfl,?_⟩;rw[show its.toArray.any (eqU x)=its.any (eqU x) by simp,gW r fs];e q
 . o⟨its,r,pl,hz⟩:=I.tuple hq;r SeqAt.in_tupleAt (eqU x) pl (fun w hw=>f8 rx fx r fs w (by simpa using hw)) ⟨.bl _,H,I,rfl,?_⟩;rw[show its.toArray.any (eqU x)=its.any (eqU x) by simp,gW r fs];e q
þ cG:OpR X (compareOp .NotIn) (rIn X.K true):=by
 intro pins s σ H x y v u Q I rx ry h;o⟨p,xs,rfl,hq,fx,fs,q⟩:=h;cases ry
 rcases hq with hq | hq
 . o⟨its,r,pl,hz⟩:=I.list hq;r SeqAt.notIn_listAt (eqU x) pl.isList (fun w hw=>f8 rx fx r fs w (by simpa using hw)) ⟨.bl _,H,I,rfl,?_⟩;rw[show its.toArray.any (eqU x)=its.any (eqU x) by simp,gW r fs];e q
 . o⟨its,r,pl,hz⟩:=I.tuple hq;r SeqAt.notIn_tupleAt (eqU x) pl (fun w hw=>f8 rx fx r fs w (by simpa using hw)) ⟨.bl _,H,I,rfl,?_⟩;rw[show its.toArray.any (eqU x)=its.any (eqU x) by simp,gW r fs];e q
þ nD:OpR X (compareOp .NotIn) (fun x y H Q=>∃ i j,x=.str i∧y=.str j∧Q (.bl (!(!(Builtin.Str.occurrences j i 0 j.length 1).isEmpty))) H):=by
 intro pins s σ H x y v u Q I rx ry h;o⟨i,j,rfl,rfl,q⟩:=h;o⟨t,rfl⟩:=rx;o⟨t',rfl⟩:=ry;e notIn_str ⟨.bl _,H,I,rfl,q⟩
þ av:cv X (.builtin "len") (fun xs H Q=>∃ p ys,xs=[.ref p]∧(SqL X.K H p ys∨SqT X.K H p ys)∧Q (.int ys.length) H):=by
 intro pins s σ H xs us Q I r h;o⟨p,ys,rfl,hq,q⟩:=h;o⟨u,rfl,rx⟩:=eA r;cases rx;h hn:=iW
 rcases hq with hq | hq
 . o⟨its,r',pl,hz⟩:=I.list hq;h hlen:=r'.length;e Calls.call_len_list pl.isList (by simp only[zW]<;>m) ⟨.int ys.length,H,I.tok _,⟨s.toks+1,by rw[zW,hlen]⟩,q⟩
 . o⟨its,r',pl,hz⟩:=I.tuple hq;h hlen:=r'.length;e len_tuple pl (by simp only[zW]<;>m) ⟨.int ys.length,H,I.tok _,⟨s.toks+1,by rw[zW,hlen]⟩,q⟩
þ dS:cv X (.builtin "len") (fun xs H Q=>∃ z,xs=[.str z]∧z.length≤sizeLine∧Q (.int z.length) H):=by
 intro pins s σ H xs us Q I r h;o⟨z,rfl,hz,q⟩:=h;o⟨u,rfl,t,rfl⟩:=eA r;h hn:=iW;e len_str (by m) ⟨.int z.length,H,I.tok _,⟨_,rfl⟩,q⟩
þ dY:cv X (.type "list") (fun xs H Q=>∃ p ys,xs=[.ref p]∧(SqL X.K H p ys∨SqT X.K H p ys)∧∀ l,H l=none→Q (.ref l) (upd H l (.lst ys))):=by
 intro pins s σ H xs us Q I r h;o⟨p,ys,rfl,hq,q⟩:=h;o⟨u,rfl,rx⟩:=eA r;cases rx
 h fin:∀ (its:List Value),Vals ys its→ys.length≤sizeLine→∀ (h':Heap) (c':Nat),(∀ b o',s.heap.get? b=some o'→h'.get? b=some o') →
     h'.get? s.heap.objs.size=some { cls:=.type "list",dict:=none,data:=.seq its.toArray c',slots:=#[] }→EP X pins σ Q (.ref s.heap.objs.size) { s with heap:=h' }:=fun its r' hz h' c' kp e =>
   ⟨.ref s.heap.objs.size,_,I.laid (t':=s.toks) kp (zN _) (show bR X.prog X.w _ h' _ (.lst ys) from⟨hz,its,c',r',e⟩),rfl,q _ (I.hok.fresh (zN _))⟩
 rcases hq with hq | hq
 . o⟨its,r',pl,hz⟩:=I.list hq;h hlen:=r'.length;o⟨o,ho,hc,n,hd⟩:=pl.isList;e call_list_seq p (.inl rfl) ho hc hd (fun h' c' kp e=>fin its r' hz h' c' kp e) (by simp only[zW]<;>m)
 . o⟨its,r',pl,hz⟩:=I.tuple hq;h hlen:=r'.length;o⟨o,ho,hc,n,hd⟩:=pl;e call_list_seq p (.inr rfl) ho hc hd (fun h' c' kp e=>fin its r' hz h' c' kp e) (by simp only[zW]<;>m)
þ gx:cv X (.type "tuple") (fun xs H Q=>∃ p ys,xs=[.ref p]∧((SqL X.K H p ys∧∀ l,H l=none→Q (.ref l) (upd H l (.tup ys)))∨(SqT X.K H p ys∧Q (.ref p) H))):=by
 intro pins s σ H xs us Q I r h;o⟨p,ys,rfl,h⟩:=h;o⟨u,rfl,rx⟩:=eA r;cases rx
 rcases h with ⟨hq,q⟩ | ⟨hq,q⟩
 . o⟨its,r',pl,hz⟩:=I.list hq;h hlen:=r'.length;r call_tuple_list pl.isList (fun h' kp=>?_) (by simp only[zW]<;>m);h I1:Inv X pins σ H { s with heap:=h' }:=I.kept (t':=s.toks) kp
   h I2:Inv X pins σ (upd H h'.objs.size (.tup ys)) { s with heap:=h'.push { cls:=.type "tuple",data:=.seq its.toArray } } :=
     I1.laid (t':=s.toks) (fun b o e=>Heap.get?_push_of_some _ e) (zN _) (show bR X.prog X.w _ _ _ (.tup ys) from⟨hz,its,r',IsTup.new _ _⟩)
   e⟨.ref h'.objs.size,_,I2,rfl,q _ (I1.hok.fresh (zN _))⟩
 . o⟨its,r',pl,hz⟩:=I.tuple hq;e call_tuple_same pl ⟨.ref p,H,I,rfl,q⟩
noncomputable def tyV (K:PySem.W.Frag)(T:String) (x:V)(H:Hp):Prop:=match x with
 | .str _=>T="str"
 | .int _=>T="int"
 | .ref p=>(T="list"∧∃ xs,SqL K H p xs)∨(T="tuple"∧∃ o,K.lookup p=some o∧o.cls=.type "tuple"∧o.dict=none) ∨
     (T="dict"∧((∃ kvs,H p=some (.dK kvs))∨∃ kvs,H p=some (.dT kvs)))∨(T="set"∧∃ S n,H p=some (.set S n))
 | _=>False
þ vH {pins:List (Addr×Obj)}{σ:St}{H:Hp}{s:Shared}{T:String}{x:V}{v:Value}(I:Inv X pins σ H s)(r:bd x v)(ty:tyV X.K T x H) :
   s.TypeIs v T∧∀ a,v=.ref a→∃ ob,s.heap.get? a=some ob∧ob.dict=none:=by
 cases x with
 | str z =>
   o⟨t,rfl⟩:=r;cases (show T="str" from ty);e⟨typeIs_str s z t,fun _ e=>nomatch e⟩
 | int i =>
   o⟨t,rfl⟩:=r;cases (show T="int" from ty);e⟨typeIs_int s i t,fun _ e=>nomatch e⟩
 | ref p =>
   cases r
   rcases ty with ⟨rfl,xs,hq⟩ | ⟨rfl,o,hk,hc,hd⟩ | ⟨rfl,hk⟩ | ⟨rfl,S,n,hk⟩
   . o⟨its,_,pl,_⟩:=I.list hq;r⟨pl.isList.typeIs,fun a e=>?_⟩;cases e;o⟨o,n,e,c,hd,_⟩:=pl;e⟨o,e,hd⟩
   . r⟨⟨o,I.kIn p o hk,hc⟩,fun a e=>?_⟩;cases e;e⟨o,I.kIn _ o hk,hd⟩
   . h z:∃ o,s.heap.get? p=some o∧o.ExactDict:=by
       rcases hk with ⟨kvs,hk⟩ | ⟨kvs,hk⟩
       . o⟨_,_,_,_,o,_,_,e,ex,_⟩:=I.hok p _ hk;e⟨o,e,ex⟩
       . o⟨_,_,_,_,o,_,_,e,ex,_⟩:=I.hok p _ hk;e⟨o,e,ex⟩
     o⟨o,e,ex⟩:=z;r⟨⟨o,e,ex.1⟩,fun a e2=>?_⟩;cases e2;e⟨o,e,ex.2.1⟩
   . o⟨o,_,_,_,e,ex,_⟩:=I.hok p _ hk;r⟨⟨o,e,ex.1⟩,fun a e2=>?_⟩;cases e2;e⟨o,e,ex.2.1⟩
 | _=>e False.elim ty
noncomputable def yz (K:PySem.W.Frag)(T:String)(r:V→List V→Hp→VK→Prop)(to:TE):TE:=fun σ H Q=>to σ H fun x H1=>tyV K T x H1∧r x [] H1 Q
noncomputable def tBM (K:PySem.W.Frag)(T:String)(r:V→List V→Hp→VK→Prop)(to:TE)(t:TA):TE:=fun σ H Q=>to σ H fun x H1=>tyV K T x H1∧t σ H1 fun xs H2=>r x xs H2 Q
variable {o e:Expr}{es:List Expr}{to:TE}{t:TA}{name:Str}{apos cpos:Pos}{T id:String}{r:V→List V→Hp→VK→Prop}
þ yj (pa:PlainAttrs T)(slot:Slot T name id)(hty:typeOf (.builtin id)=pure (.type "method_descriptor"))(hm:MtR X id r)(ho:PE X o to)
   (hbase:attributeBase o name X.env (eval o X.env)=eval o X.env:=by rfl)(hline:(apos.endLine==cpos.line)=true:=by rfl):PE X (.Call (.Attribute o name apos) [] [] cpos) (yz X.K T r to):=by
 intro pins s σ H Q I h;r wpAny_Call_method0_late hbase hline (thn (ho s σ H _ I h) fun v s1 ⟨x,H1,I1,r1,ty,q1⟩=>?_);o⟨h1,h2⟩:=vH I1 r1 ty;e⟨T,id,pa,slot,hty,h1,h2,Calls.callWith_builtin rfl (PySem.evalArgs_none (hm pins s1 σ H1 x [] v [] Q I1 r1 .nil q1))⟩
þ eK (pa:PlainAttrs T)(slot:Slot T name id)(hty:typeOf (.builtin id)=pure (.type "method_descriptor"))(hm:MtR X id r)(ho:PE X o to)(ha:PA X (e::es) t)
   (hbase:attributeBase o name X.env (eval o X.env)=eval o X.env:=by rfl)
   (hfew:((backTo cpos (starEach (e::es) X.env)).all (fun x=>!x.1)&&(backToKw cpos (keywordEach [] X.env)).all (fun x=>x.1.isSome)
     && decide ((e::es).length+([]:List Keyword).length+(if([]:List Keyword).isEmpty then 0 else 1) < 30))=true:=by rfl)
   (hline:(apos.endLine==cpos.line)=true:=by rfl)(hs:starEach (e::es) X.env=(false,eval e X.env)::starEach es X.env:=by rfl)(hplain:(backTo cpos (starEach es X.env)).any (·.1)=false:=by rfl) :
   PE X (.Call (.Attribute o name apos) (e::es) [] cpos) (tBM X.K T r to t):=by
 intro pins s σ H Q I h;r wpAny_Call_method_late hbase hfew hline rfl (thn (ho s σ H _ I h) fun v s1 ⟨x,H1,I1,r1,ty,q1⟩=>?_);o⟨h1,h2⟩:=vH I1 r1 ty;r⟨T,id,pa,slot,hty,h1,h2,?_⟩;h hA:=ha cpos s1 σ H1 _ I1 q1;rw[hs] at hA ⊢;r Calls.callWith_builtin (by show(false||(backTo cpos (starEach es X.env)).any (·.1))=false;rw[hplain]<;>rfl) (Calls.evalArgs_plain ?_);e thn hA fun us s2 ⟨vs,H2,I2,r2,q2⟩=>hm pins s2 σ H2 x vs v us Q I2 r1 r2 q2
end
noncomputable def MtM (X:Cx)(id:String)(r:V→List V→Hp→VK→Prop):Prop :=
 ∀ (pins:List (Addr×Obj))(s:Shared) (σ:St)(H:Hp) (x:V)(xs:List V) (v:Value)(us:List Value)(Q:VK),Inv X pins σ H s→bd x v→Vals xs us→r x xs H Q →
   wpAny (model X.prog X.w) X.A (call (.builtin id) (v::us)) (EP X pins σ Q) X.xe s
þ Vals.one:∀ {x:V}{us:List Value},Vals [x] us→∃ u,us=[u]∧bd x u
 | _,_,.cons r .nil=>⟨_,rfl,r⟩
þ Vals.two:∀ {x y:V}{us:List Value},Vals [x,y] us→∃ u v,us=[u,v]∧bd x u∧bd y v
 | _,_,_,.cons r (.cons q .nil)=>⟨_,_,rfl,r,q⟩
þ Vals.zero:∀ {us:List Value},Vals [] us→us=[]
 | _,.nil=>rfl
þ Vals.dropLast {xs:List V}{us:List Value}(h:Vals xs us):Vals xs.dropLast us.dropLast:=by
 induction h with
 | nil=>e .nil
 | cons r t ih =>
   cases t with
   | nil=>e .nil
   | cons q t'=>e .cons r ih
þ Vals.eraseIdx:∀ {xs:List V}{us:List Value} (i:Nat),Vals xs us→Vals (xs.eraseIdx i) (us.eraseIdx i)
 | _,_,_,.nil=>.nil
 | _,_,0,.cons _ t=>t
 | _,_,i+1,.cons r t=>.cons r (Vals.eraseIdx i t)
þ Vals.rep {xs:List V}{us:List Value}(h:Vals xs us):∀ k:Nat,Vals (zY k xs).flatten (zY k us).flatten
 | 0=>.nil
 | k+1=>by
   rw[Bh,Bh,BH,BH];e Vals.append h (Vals.rep h k)
þ qK {α:Type}(l:List α):l.eraseIdx (l.length - 1)=l.dropLast:=by
 induction l with
 | nil=>rfl
 | cons a r ih =>
   cases r with
   | nil=>rfl
   | cons b r =>
     h e:(a::b::r).length - 1=((b::r).length - 1)+1:=by
       h h1:(a::b::r).length=r.length+2:=rfl;h h2:(b::r).length=r.length+1:=rfl;m
     rw[e,List.eraseIdx_cons_succ,ih]
     all_goals rfl
þ lG {α:Type}:∀ (l:List α) (i:Nat),(l.eraseIdx i).length≤l.length
 | [],_=>zN _
 | _::_,0=>Cp _
 | _::r,i+1=>Nat.succ_le_succ (lG r i)
þ lT (its:List Value):∀ (k:Nat)(acc:List Value),
   Cz (fun x1 x2=>x1++x2) acc.toArray (zY k its.toArray)=(acc++(zY k its).flatten).toArray
 | 0,acc=>by simp
 | k+1,acc=>by
   h e:acc.toArray++its.toArray=(acc++its).toArray:=by simp
   h e2:(acc++its)++(zY k its).flatten=acc++(zY (k+1) its).flatten:=by
     rw[Bh,BH,Be]
   rw[←e2,←lT its k (acc++its),←e,Bh,BB]
section
variable {X:Cx}{pins:List (Addr×Obj)}{σ:St}{H:Hp}{s:Shared}{l b:Addr}{xs ys zs:List V}
þ Inv.lset {its its':List Value}{n:Nat}{f:Array Value→Array Value}{t':Nat}(I:Inv X pins σ H s)(hH:H l=some (.lst xs))
   (e:s.heap.get? l=some { cls:=.type "list",data:=.seq its.toArray n })(hf:f its.toArray=its'.toArray)(hv:Vals ys its')(hz:ys.length≤sizeLine) :
   Inv X pins σ (upd H l (.lst ys)) { s with heap:=s.heap.update l (Obj.mapSeq f),toks:=t' }:=by
 h q:=PySem.IsL.update e f;rw[hf] at q;r I.write (x:=l) (e:=l) (by rw[hH];e trivial) (.inl rfl) (fun b' u hb hu=>(Heap.get?_update_other s.heap (Obj.mapSeq f) (Ne.symm hb)).trans hu) ⟨_,q⟩ ?_;e⟨hz,its',_,hv,q⟩
þ Inv.lnew {its:List Value}{t':Nat}(I:Inv X pins σ H s)(hv:Vals ys its)(hz:ys.length≤sizeLine) :
   Inv X pins σ (upd H s.heap.objs.size (.lst ys)) { s with heap:=s.heap.push { cls:=.type "list",data:=.seq its.toArray },toks:=t' } :=
 I.laid (fun _ _ q=>Heap.get?_push_of_some _ q) (zN _) ⟨hz,its,0,hv,Heap.get?_push_size _ rfl⟩
þ Inv.fresh (I:Inv X pins σ H s):H s.heap.objs.size=none:=I.hok.fresh (zN _)
þ Inv.lstM (I:Inv X pins σ H s)(hH:H l=some (.lst xs)):xs.length≤sizeLine∧∃ (its:List Value) (n:Nat),Vals xs its∧xs.length=its.length∧s.heap.get? l=some { cls:=.type "list",data:=.seq its.toArray n }:=by
 o⟨z,its,n,r,e⟩:=I.hok l _ hH;e⟨z,its,n,r,r.length,e⟩
þ pB {n:Nat}(h:n≤sizeLine):Builtin.List.listTooLong n=false:=by
 unfold Builtin.List.listTooLong;e decide_eq_false (by m)
end
section
variable {X:Cx}
noncomputable def mo:V→List V→Hp→VK→Prop:=fun x vs H Q=>∃ l xs y,x=.ref l∧vs=[y]∧H l=some (.lst xs)∧xs.length < sizeLine∧Q .non (upd H l (.lst (xs++[y])))
þ bT:MtM X "list.append" mo:=by
 intro pins s σ H x vs v us Q I rx rv h;o⟨l,xs,y,rfl,rfl,hH,hz,q⟩:=h;cases rx;o⟨u,rfl,ru⟩:=rv.one;o⟨z,its,n,r,hl,e⟩:=I.lstM hH;r call_meets F.slot_list_append ⟨_,e,rfl⟩ F.entry_list_append (F.args_list_append_2 _ _) (PySem.list_append l its.toArray n u (by rw[zW];m)) ⟨e,?_⟩;r⟨.non,_,I.lset (its':=its++[u]) hH e (by simp) (r.append (.cons ru .nil)) ?_,rfl,q⟩;rw[zL,zR];m
noncomputable def mK:V→List V→Hp→VK→Prop:=fun x vs H Q=>∃ l b xs zs,x=.ref l∧vs=[.ref b]∧H l=some (.lst xs)∧H b=some (.lst zs)∧xs.length+zs.length≤sizeLine∧Q .non (upd H l (.lst (xs++zs)))
þ yH:MtM X "list.extend" mK:=by
 intro pins s σ H x vs v us Q I rx rv h;o⟨l,b,xs,zs,rfl,rfl,hH,hB,hz,q⟩:=h;cases rx;o⟨u,rfl,ru⟩:=rv.one;cases ru;o⟨z,its,n,r,hl,e⟩:=I.lstM hH;o⟨z2,its2,n2,r2,hl2,e2⟩:=I.lstM hB
 h hsz:its.toArray.size+its2.toArray.size≤sizeLine:=by rw[zW,zW];m
 h hlong:¬(!its.toArray.isEmpty&&Builtin.List.listTooLong (its.toArray.size+its2.toArray.size))=true:=by
   rw[pB hsz,Bool.and_false];e Bool.false_ne_true
 r call_meets F.slot_list_extend ⟨_,e,rfl⟩ F.entry_list_extend (F.args_list_extend_2 _ _)
   (AutoSeq1.list_extend_list_list_0 l its.toArray n b its2.toArray n2 hlong (by rw[zW];m) (by m)) ⟨e,e2,?_⟩
 r⟨.non,_,I.lset (its':=its++its2) hH e (by simp) (r.append r2) ?_,rfl,q⟩;rw[zL];m
noncomputable def zD:V→List V→Hp→VK→Prop:=fun x vs H Q=>∃ l xs y,x=.ref l∧vs=[]∧H l=some (.lst xs)∧xs[xs.length - 1]?=some y∧Q y (upd H l (.lst xs.dropLast))
þ xS:MtM X "list.pop" zD:=by
 intro pins s σ H x vs v us Q I rx rv h;o⟨l,xs,y,rfl,rfl,hH,hy,q⟩:=h;cases rx;h hus:=rv.zero;subst hus;o⟨z,its,n,r,hl,e⟩:=I.lstM hH;o⟨u,hu,ru⟩:=r.get hy
 h hy':its.toArray[its.toArray.size - 1]?=some u:=by
   show its.toArray[its.length - 1]?=some u;rw[←AY,←hl];e hu
 r call_meets F.slot_list_pop ⟨_,e,rfl⟩ F.entry_list_pop (F.args_list_pop_1 _) (MeetsSeq.list_pop_last l its.toArray n u hy' (by rw[zW];m)) ⟨e,?_⟩;r⟨y,_,I.lset (its':=its.dropLast) hH e ?_ r.dropLast ?_,ru,q⟩
 . show its.toArray.eraseIdxIfInBounds (its.toArray.size - 1)=its.dropLast.toArray;rw[zW,List.eraseIdxIfInBounds_toArray,qK]
 . rw[AI];m
noncomputable def qz:V→List V→Hp→VK→Prop:=fun x vs H Q=>∃ l xs i k y,x=.ref l∧vs=[.int i]∧H l=some (.lst xs)∧-(2 ^ 63)≤i∧i < 2 ^ 63∧seqIndex? i xs.length=some k∧xs[k]?=some y∧Q y (upd H l (.lst (xs.eraseIdx k)))
þ uJ:MtM X "list.pop" qz:=by
 intro pins s σ H x vs v us Q I rx rv h;o⟨l,xs,i,k,y,rfl,rfl,hH,h1,h2,hk,hy,q⟩:=h;cases rx;o⟨u,rfl,ru⟩:=rv.one;o⟨t,rfl⟩:=ru;o⟨z,its,n,r,hl,e⟩:=I.lstM hH;o⟨w,hw,rw'⟩:=r.get hy
 r call_meets F.slot_list_pop ⟨_,e,rfl⟩ F.entry_list_pop (F.args_list_pop_2 _ _)
   (MeetsSeq.list_pop_at l its.toArray n i t k w (fitsIndex_both h1 h2) (by rw[zW,←hl];e hk) (by rw[←AY];e hw) (by rw[zW];m)) ⟨e,?_⟩
 r⟨y,_,I.lset (its':=its.eraseIdx k) hH e ?_ (r.eraseIdx k) ?_,rw',q⟩
 . show its.toArray.eraseIdxIfInBounds k=(its.eraseIdx k).toArray;rw[List.eraseIdxIfInBounds_toArray]
 . have:=lG xs k;m
noncomputable def zd:R2:=fun x y H Q=>∃ l b xs zs,x=.ref l∧y=.ref b∧H l=some (.lst xs)∧H b=some (.lst zs)∧xs.length+zs.length≤sizeLine∧∀ p,H p=none→Q (.ref p) (upd H p (.lst (xs++zs)))
þ gM:OpR X (binaryOp .Add) zd:=by
 intro pins s σ H x y v u Q I rx ry h;o⟨l,b,xs,zs,rfl,rfl,hH,hB,hz,q⟩:=h;cases rx;cases ry;o⟨z,its,n,r,hl,e⟩:=I.lstM hH;o⟨z2,its2,n2,r2,hl2,e2⟩:=I.lstM hB;r PySem.P.add_list e e2 ?_ (by rw[zW,zW];m)
 h ea:its.toArray++its2.toArray=(its++its2).toArray:=by simp
 rw[ea];e⟨.ref _,_,I.lnew (t':=s.toks) (r.append r2) (by rw[zL];m),rfl,q _ I.fresh⟩
noncomputable def yi:R2:=fun x y H Q=>∃ l k xs,x=.ref l∧y=.int k∧H l=some (.lst xs)∧-(2 ^ 63)≤k∧k < 2 ^ 63∧xs.length*k.toNat≤sizeLine ∧
 ∀ p,H p=none→Q (.ref p) (upd H p (.lst (zY k.toNat xs).flatten))
þ mi {α:Type}(xs:List α) (k:Nat):(zY k xs).flatten.length=k*xs.length:=by
 induction k with
 | zero=>simp
 | succ k ih=>rw[Bh,BH,zL,ih,Nat.succ_mul,Nat.add_comm]
þ uW:OpR X (binaryOp .Mult) yi:=by
 intro pins s σ H x y v u Q I rx ry h;o⟨l,k,xs,rfl,rfl,hH,h1,h2,hz,q⟩:=h;cases rx;o⟨t,rfl⟩:=ry;o⟨z,its,n,r,hl,e⟩:=I.lstM hH
 h hlen:its.toArray.size*k.toNat≤sizeLine:=by rw[zW,←hl];e hz
 h hcap:¬its.toArray.size*k.toNat > (2 ^ 63 - 1) / 8:=by
   h:(sizeLine:Nat)≤(2 ^ 63 - 1) / 8:=by decide
   m
 h hfit:¬(!Builtin.List.listFitsIndex k)=true:=by
   rw[fitsIndex_both h1 h2];e Bool.false_ne_true
 h hlong:¬Builtin.List.listTooLong (its.toArray.size*k.toNat)=true:=by
   rw[pB hlen];e Bool.false_ne_true
 h hnew:Cz (fun x1 x2=>x1++x2) #[] (zY (if its.toArray.isEmpty=true then 0 else k.toNat) its.toArray)=(zY k.toNat its).flatten.toArray:=by
   h f0:∀ m:Nat,Cz (fun x1 x2=>x1++x2) #[] (zY m its.toArray)=(zY m its).flatten.toArray:=fun m=>by
     have:=lT its m [];rw[List.nil_append] at this;e this
   rw[f0]
   cases its with
   | nil=>simp
   | cons a r'=>rw[if_neg (by simp)]
 r wpAny_binaryOp_repeat_ref (T:="list") (U:="int") (by decide) ⟨_,e,rfl⟩ (fun s'=>typeIs_int s' k t) noFill_list_mul F.fills_int_mul F.slot_int_rmul repeat_list F.slot_int_index.lookup
   (call_meets F.slot_int_rmul (typeIs_int s k t) F.entry_int_rmul (F.args_int_rmul_2 _ _) (int___rmul___int_list k t l its.toArray n)
     ⟨e,rfl,⟨_,e,rfl⟩,call_meets F.slot_list_mul ⟨_,e,rfl⟩ F.entry_list_mul (F.args_list_mul_2 _ _) (AutoListH.list___mul___list_int_3 l its.toArray n k t hfit hcap hlong) ⟨e,?_⟩⟩)
 rw[hnew];e⟨.ref _,_,I.lnew (t':=s.toks) (r.rep k.toNat) (by rw[mi,Nat.mul_comm];e hz),rfl,q _ I.fresh⟩
end
section
variable {prog:Program}{w:World}{A:Around}{E:Value→Shared→Prop}{s:Shared}
set_option maxRecDepth 100000 in
end
section
variable {X:Cx}
end
section
variable {κ:Type} [DecidableEq κ]
noncomputable def bJ (kvs:List (κ×V))(k:κ):Option V:=(kvs.find? fun kv=>decide (kv.1=k)).map (·.2)
noncomputable def dw (kvs:List (κ×V))(k:κ) (v:V):List (κ×V) :=
 if(kvs.any fun kv=>decide (kv.1=k))=true then kvs.map (fun kv=>if kv.1=k then(kv.1,v) else kv) else kvs++[(k,v)]
þ cq {p:κ×V}{r:List (κ×V)}{k:κ}(e:p.1=k):bJ (p::r) k=some p.2:=by simp[bJ,A5,e]
þ cn {p:κ×V}{r:List (κ×V)}{k:κ}(e:¬p.1=k):bJ (p::r) k=bJ r k:=by simp[bJ,A5,e]
þ d6 (k:κ):∀ kvs:List (κ×V),(kvs.any fun kv=>decide (kv.1=k))=(bJ kvs k).isSome
 | []=>rfl
 | p::r=>by
   rw[Bg];by_cases e:p.1=k
   . simp only[cq e,decide_eq_true e,Bool.true_or,Option.isSome_some]
   . rw[cn e,decide_eq_false e,Bool.false_or];e d6 k r
þ n0 (k j:κ) (y:V):∀ kvs:List (κ×V),bJ (kvs.map fun kv=>if kv.1=k then(kv.1,y) else kv) j=(bJ kvs j).map fun x=>if j=k then y else x
 | []=>rfl
 | p::r=>by
   h ih:=n0 k j y r;rw[z8];by_cases h:p.1=k
   . rw[if_pos h];by_cases e:p.1=j
     . rw[cq (p:=(p.1,y)) e,cq e,BC,if_pos (e.symm.trans h)]
     . rw[cn (p:=(p.1,y)) e,cn e,ih]
   . rw[if_neg h];by_cases e:p.1=j
     . rw[cq (p:=p) e,cq e,BC,if_neg (fun z=>h (e.trans z))]
     . rw[cn (p:=p) e,cn e,ih]
þ iz (k j:κ) (y:V):∀ kvs:List (κ×V),bJ kvs k=none→bJ (kvs++[(k,y)]) j=if j=k then some y else bJ kvs j
 | [],_=>by
   by_cases e:k=j
   . rw[if_pos e.symm];e cq (p:=(k,y)) e
   . rw[if_neg (fun z=>e z.symm)];e cn (p:=(k,y)) e
 | p::r,hn=>by
   rw[List.cons_append]
   h hk:¬p.1=k:=fun z=>by rw[cq z] at hn;cases hn
   rw[cn hk] at hn;h ih:=iz k j y r hn;by_cases e:p.1=j
   . rw[cq e,cq e,if_neg (fun z=>hk (e.trans z))]
   . rw[cn e,cn e,ih]
þ kN (kvs:List (κ×V))(k j:κ) (y:V):bJ (dw kvs k y) j=if j=k then some y else bJ kvs j:=by
 unfold dw;by_cases a:(kvs.any fun kv=>decide (kv.1=k))=true
 . rw[if_pos a,n0];rw[d6] at a;by_cases e:j=k
   . o⟨x,hx⟩:=Option.isSome_iff_exists.mp a;rw[if_pos e,e,hx,BC,if_pos rfl]
   . rw[if_neg e]
     cases bJ kvs j with
     | none=>rfl
     | some x=>rw[BC,if_neg e]
 . rw[if_neg a];r iz k j y kvs ?_;rw[d6] at a
   cases q:bJ kvs k with
   | none=>rfl
   | some x=>rw[q] at a;e(a rfl).elim
þ gd (kvs:List (κ×V))(k:κ) (v:V):(dw kvs k v).length≤kvs.length+1:=by
 unfold dw
 split
 . rw[be];m
 . rw[zL,Av,BR];m
þ cZ {kvs:List (κ×V)}{k:κ} (v:V)(h:bJ kvs k=none):dw kvs k v=kvs++[(k,v)]:=by
 unfold dw;rw[d6,h];e if_neg (by decide)
þ gw.isSome_eq {o:Option V}{u:Option Value}(r:gw o u):o.isSome=u.isSome:=by
 cases o with
 | none=>cases u with
   | none=>rfl
   | some _=>e(show False from r).elim
 | some _=>cases u with
   | none=>e(show False from r).elim
   | some _=>rfl
þ KV.val {kvs:List (κ×V)}{vs:List (κ×Value)}(r:KV kvs vs)(k:κ):gw (bJ kvs k) (valueAt vs k):=by
 unfold KV at r
 induction r with
 | nil=>e True.intro
 | @cons p q ps qs h t ih =>
   o⟨h1,h2⟩:=h;by_cases e:p.1=k
   . h e':q.1=k:=h1.symm.trans e
     h b:valueAt (q::qs) k=some q.2:=by simp[valueAt,A5,e']
     rw[cq e,b];e h2
   . h e':¬q.1=k:=fun z=>e (h1.trans z)
     h b:valueAt (q::qs) k=valueAt qs k:=by simp[valueAt,A5,e']
     rw[cn e,b];e ih
þ KV.any {kvs:List (κ×V)}{vs:List (κ×Value)}(r:KV kvs vs)(k:κ):(kvs.any fun kv=>decide (kv.1=k))=vs.any fun kv=>decide (kv.1=k):=by
 unfold KV at r
 induction r with
 | nil=>rfl
 | cons h t ih=>rw[Bg,Bg,ih,h.1]
þ KV.repl {kvs:List (κ×V)}{vs:List (κ×Value)}(r:KV kvs vs)(k:κ){y:V}{u:Value}(ry:bd y u) :
   KV (kvs.map fun kv=>if kv.1=k then(kv.1,y) else kv) (vs.map fun kv=>if kv.1=k then(kv.1,u) else kv):=by
 unfold KV at r ⊢
 induction r with
 | nil=>e .nil
 | @cons p q ps qs h t ih =>
   rw[z8,z8];r .cons ?_ ih;o⟨h1,h2⟩:=h;by_cases e:p.1=k
   . rw[if_pos e,if_pos (h1.symm.trans e)];e⟨h1,ry⟩
   . rw[if_neg e,if_neg (fun z=>e (h1.trans z))];e⟨h1,h2⟩
þ KV.put {kvs:List (κ×V)}{vs:List (κ×Value)}(r:KV kvs vs)(k:κ){y:V}{u:Value}(ry:bd y u):KV (dw kvs k y) (stored vs k u):=by
 unfold dw stored;rw[r.any k];by_cases e:(vs.any fun kv=>decide (kv.1=k))=true
 . rw[if_pos e,if_pos e];e r.repl k ry
 . rw[if_neg e,if_neg e];e Paired.snoc r ⟨rfl,ry⟩
þ KV.keys {kvs:List (κ×V)}{vs:List (κ×Value)}(r:KV kvs vs):kvs.map (·.1)=vs.map (·.1):=by
 unfold KV at r
 induction r with
 | nil=>rfl
 | cons h t ih=>rw[z8,z8,ih,h.1]
þ KV.length {kvs:List (κ×V)}{vs:List (κ×Value)}(r:KV kvs vs):kvs.length=vs.length:=Paired.length r
end
þ lJ {P:Program}{w:World}{k:Key}{u:Value}(r:bd (kV k) u):(bL P w).is k u=true:=by
 cases k with
 | inl i=>o⟨t,e⟩:=(show ∃ t,u=Value.int i t from r);subst e;e nW P w i t
 | inr x=>o⟨t,e⟩:=(show ∃ t,u=Value.str x t from r);subst e;e i9 P w x t
þ lp {P:Program}{w:World}:∀ {ks:List Key}{us:List Value},Vals (ks.map kV) us→ItemsAre (bL P w) ks us
 | [],_,r=>by rw[Bf] at r;cases r;e .nil
 | k::ks,_,r=>by
   rw[z8] at r
   cases r with
   | cons h t=>e .cons (lJ h) (lp t)
abbrev KT (H:Hp):List (List Key×V)→List (List Key×Addr×Value)→Prop:=Paired fun p q=>p.1=q.1∧H q.2.1=some (.tup (p.1.map kV))∧bd p.2 q.2.2
þ KT.val {H:Hp}{kvs:List (List Key×V)}{xs:List (List Key×Addr×Value)}(r:KT H kvs xs)(k:List Key):gw (bJ kvs k) ((atKey xs k).map (·.2)):=by
 induction r with
 | nil=>e True.intro
 | @cons p q ps qs h t ih =>
   o⟨h1,_,h2⟩:=h;by_cases e:p.1=k
   . h e':q.1=k:=h1.symm.trans e
     h b:atKey (q::qs) k=some q.2:=by simp[atKey,A5,e']
     rw[cq e,b];e h2
   . h e':¬q.1=k:=fun z=>e (h1.trans z)
     h b:atKey (q::qs) k=atKey qs k:=by simp[atKey,A5,e']
     rw[cn e,b];e ih
þ KT.repl {H:Hp}{kvs:List (List Key×V)}{xs:List (List Key×Addr×Value)}(r:KT H kvs xs)(k:List Key){y:V}{u:Value}(ry:bd y u) :
   KT H (kvs.map fun kv=>if kv.1=k then(kv.1,y) else kv) (xs.map (putAt k u)):=by
 induction r with
 | nil=>e .nil
 | @cons p q ps qs h t ih =>
   rw[z8,z8];r .cons ?_ ih;o⟨h1,h2,h3⟩:=h;unfold putAt;by_cases e:p.1=k
   . rw[if_pos e,if_pos (h1.symm.trans e)];e⟨h1,h2,ry⟩
   . rw[if_neg e,if_neg (fun z=>e (h1.trans z))];e⟨h1,h2,h3⟩
þ KT.put {H:Hp}{kvs:List (List Key×V)}{xs:List (List Key×Addr×Value)}(r:KT H kvs xs)(k:List Key){b:Addr}{y:V}{u:Value}(hb:H b=some (.tup (k.map kV)))(ry:bd y u) :
   KT H (dw kvs k y) (storedH xs k b u):=by
 h e:(kvs.any fun kv=>decide (kv.1=k))=(atKey xs k).isSome:=by
   rw[d6,(r.val k).isSome_eq,Ca]
 unfold dw storedH;rw[e];by_cases q:(atKey xs k).isSome=true
 . rw[if_pos q,if_pos q];e r.repl k ry
 . rw[if_neg q,if_neg q];e Paired.snoc r ⟨rfl,hb,ry⟩
þ KT.keeps {H H':Hp}{kvs:List (List Key×V)}{xs:List (List Key×Addr×Value)}(r:KT H kvs xs)(ht:∀ b ys,H b=some (.tup ys)→H' b=some (.tup ys)):KT H' kvs xs :=
 Paired.mapP r fun _ _ z=>⟨z.1,ht _ _ z.2.1,z.2.2⟩
section
variable {P:Program}{w:World}{H:Hp}{h:Heap}{a:Addr}
þ xu {u:HO}(ok:HOk P w H h)(e:Rd H a u):bR P w H h a u:=e.ok ok
þ jj {kvs:List (Key×V)}(ok:HOk P w H h)(e:Rd H a (.dK kvs)):kvs.length≤sizeLine∧(a==sysModules)=false∧∃ vs,KV kvs vs∧h.DictOf (bL P w) a vs :=
 show bR P w H h a (.dK kvs) from xu ok e
þ xn {kvs:List (Key×V)}(ok:HOk P w H h)(e:H a=some (.dK kvs)):kvs.length≤sizeLine∧(a==sysModules)=false∧∃ vs,KV kvs vs∧h.DictOf (bL P w) a vs:=jj ok (.inl e)
þ kE {ks:List Key}(ok:HOk P w H h)(e:H a=some (.tup (ks.map kV))):(tupleKind (bL P w)).is h ks a:=by
 o⟨_,its,r,o,h1,h2,n,h3⟩:=(show bR P w H h a (.tup (ks.map kV)) from ok a _ e);e⟨o,its.toArray,n,h1,h2,h3,by simpa using lp r⟩
þ nV {kvs:List (List Key×V)}(ok:HOk P w H h)(e:Rd H a (.dT kvs)):kvs.length≤sizeLine∧(a==sysModules)=false ∧
   ∃ xs,KT H kvs xs∧h.DictOfH (tupleKind (bL P w)) a xs:=by
 o⟨z,y,xs,r,o,es,ep,h1,h2,h3,h4,h5⟩:=(show bR P w H h a (.dT kvs) from xu ok e);r⟨z,y,xs,r,o,es,ep,h1,h2,h3,h4,fun x hx=>?_,h5⟩
 h all:∀ {l:List (List Key×V)}{m:List (List Key×Addr×Value)},KT H l m→∀ x∈m,(tupleKind (bL P w)).is h x.1 x.2.1:=by
   intro l m q
   induction q with
   | nil=>intro x hx;e nomatch hx
   | @cons p q ps qs hq t ih =>
     intro x hx
     rcases List.mem_cons.mp hx with e | hx
     . subst e;e kE ok (by rw[←hq.1];e hq.2.1)
     . e ih x hx
 e all r x hx
þ yK {kvs:List (List Key×V)}(ok:HOk P w H h)(e:H a=some (.dT kvs)):kvs.length≤sizeLine∧(a==sysModules)=false ∧
 ∃ xs,KT H kvs xs∧h.DictOfH (tupleKind (bL P w)) a xs:=nV ok (.inl e)
end
noncomputable def k7 (H:Hp)(a:Addr) (y:V)(r:Option V):Prop :=
 (∃ kvs k,Rd H a (.dK kvs)∧y=kV k∧r=bJ kvs k)∨∃ kvs k b,Rd H a (.dT kvs)∧y=.ref b∧H b=some (.tup (k.map kV))∧r=bJ kvs k
noncomputable def zq (H:Hp)(a:Addr) (y v:V)(H':Hp):Prop :=
 (∃ kvs k,H a=some (.dK kvs)∧y=kV k∧kvs.length < sizeLine∧H'=upd H a (.dK (dw kvs k v))) ∨
 ∃ kvs k b,H a=some (.dT kvs)∧y=.ref b∧H b=some (.tup (k.map kV))∧kvs.length < sizeLine∧H'=upd H a (.dT (dw kvs k v))
section
variable {X:Cx}{pins:List (Addr×Obj)}{σ:St}{H:Hp}{s:Shared}{a:Addr}{y v:V}{u r:Value}{o:Option V}{A:Around}{E:Value→Shared→Prop}
þ Inv.big (I:Inv X pins σ H s):sysModules < s.heap.objs.size:=by
 h h:mainGlobals < s.heap.objs.size:=(I.mod.glob.keeps I.bk).lt;e Nat.lt_trans (by decide) h
þ tF {Q:Value→Shared→Prop}(hu:A.units+1 < cLine)(I:Inv X pins σ H s)(g:k7 H a y (some v))(ry:bd y u)(h:∀ w' s',Inv X pins σ H s'→bd v w'→Q w' s') :
   wpAny (model X.prog X.w) A (getItem (.ref a) u) Q E s:=by
 rcases g with ⟨kvs,k,e,ey,l⟩ | ⟨kvs,k,b,e,ey,eb,l⟩
 . subst ey;o⟨z,hd,vs,rel,dd⟩:=jj I.hok e;o⟨w',hw,rw'⟩:=gw.some_of (v:=v) (o:=valueAt vs k) (by rw[l];e rel.val k);e wpAny_getItem_of (lJ ry) dd.mapOf hw (h w' _ (I.tok _) rw')
 . subst ey;cases (show u=Value.ref b from ry);o⟨z,hd,xs,rel,dd⟩:=nV I.hok e;o⟨w',hw,rw'⟩:=gw.some_of (v:=v) (o:=(atKey xs k).map (·.2)) (by rw[l];e rel.val k);o⟨p,hp,hp2⟩:=Option.map_eq_some_iff.mp hw;r wpAny_getItem_heap (tupleKind_room_in1 hu) (kE I.hok eb) dd hp ?_;rw[hp2];e h w' _ (I.tok _) rw'
þ zB {Q:Value→Shared→Prop}(hu:A.units+1 < cLine)(I:Inv X pins σ H s)(g:k7 H a y o)(ry:bd y u)(h:∀ s',Inv X pins σ H s'→Q (.bool o.isSome) s') :
   wpAny (model X.prog X.w) A (compareOp .In u (.ref a)) Q E s:=by
 rcases g with ⟨kvs,k,e,ey,l⟩ | ⟨kvs,k,b,e,ey,eb,l⟩
 . subst ey;o⟨z,hd,vs,rel,dd⟩:=jj I.hok e;r wpAny_in_of (lJ ry) hd dd.mapOf ?_;rw[←(rel.val k).isSome_eq,←l];e h _ (I.tok _)
 . subst ey;cases (show u=Value.ref b from ry);o⟨z,hd,xs,rel,dd⟩:=nV I.hok e;r wpAny_in_heap (tupleKind_room_in1 hu) (kE I.hok eb) hd dd ?_;h q:=(rel.val k).isSome_eq;rw[Ca] at q;rw[←q,←l];e h _ (I.tok _)
þ w6 {Q:Value→Shared→Prop}(hu:A.units+1 < cLine)(I:Inv X pins σ H s)(g:k7 H a y o)(ry:bd y u)(h:∀ s',Inv X pins σ H s'→Q (.bool (!o.isSome)) s') :
   wpAny (model X.prog X.w) A (compareOp .NotIn u (.ref a)) Q E s:=by
 rcases g with ⟨kvs,k,e,ey,l⟩ | ⟨kvs,k,b,e,ey,eb,l⟩
 . subst ey;o⟨z,hd,vs,rel,dd⟩:=jj I.hok e;r wpAny_notIn_of (lJ ry) hd dd.mapOf ?_;rw[←(rel.val k).isSome_eq,←l];e h _ (I.tok _)
 . subst ey;cases (show u=Value.ref b from ry);o⟨z,hd,xs,rel,dd⟩:=nV I.hok e;r wpAny_notIn_heap (tupleKind_room_in1 hu) (kE I.hok eb) hd dd ?_;h q:=(rel.val k).isSome_eq;rw[Ca] at q;rw[←q,←l];e h _ (I.tok _)
þ nh {h':Heap}{t':Nat}{ob:HO}(I:Inv X pins σ H s)(mu:Mut (H a))(hs:Heap.SameBut a s.heap h')(he:∃ q,h'.get? a=some q)(new:bR X.prog X.w (upd H a ob) h' a ob) :
   Inv X pins σ (upd H a ob) { s with heap:=h',toks:=t' } :=
 I.write (x:=a) (e:=a) mu (.inl rfl) (fun b q hb z=>(hs.2 b hb).trans z) he new
þ ma {P:Program}{w:World}{H':Hp}{h':Heap}{kvs:List (Key×V)}{vs:List (Key×Value)}(z:kvs.length≤sizeLine)(hd:(a==sysModules)=false)(rel:KV kvs vs)(dd:h'.DictOf (bL P w) a vs) :
 bR P w H' h' a (.dK kvs):=⟨z,hd,vs,rel,dd⟩
þ sy {H':Hp}{Q:Unit→Shared→Prop}(hu:A.units+1 < cLine)(I:Inv X pins σ H s)(g:zq H a y v H')(ry:bd y u)(rv:bd v r)(h:∀ s',Inv X pins σ H' s'→Q () s') :
   wpAny (model X.prog X.w) A (setItem (.ref a) u r) Q E s:=by
 rcases g with ⟨kvs,k,e,ey,l,eH⟩ | ⟨kvs,k,b,e,ey,eb,l,eH⟩
 . subst ey eH;o⟨z,hd,vs,rel,dd⟩:=xn I.hok e
   h hz:vs.length≤sizeLine:=by rw[←rel.length];e z
   h hl:(dw kvs k v).length≤sizeLine:=by have:=gd kvs k v;m
   r wpAny_setItem_pairs (hsz:=hz) (lJ ry) dd fun h' dd' hs=>h _ ?_
   h he:∃ q,h'.get? a=some q:=let ⟨q,_,_,hq,_⟩:=dd';⟨q,hq⟩
   e nh I (by rw[e];e True.intro) hs he (ma hl hd (rel.put k rv) dd')
 . subst ey eH;cases (show u=Value.ref b from ry);o⟨z,hd,xs,rel,dd⟩:=yK I.hok e
   h hz:xs.length≤sizeLine:=by rw[←Paired.length rel];e z
   h hl:(dw kvs k v).length≤sizeLine:=by have:=gd kvs k v;m
   r wpAny_setItem_heap (hsz:=hz) (tupleKind_room_in1 hu) (kE I.hok eb) dd fun h' dd' hs=>h _ ?_;o⟨q,es,ep,hq,h2,h3,h4,_,h5⟩:=dd';r nh I (by rw[e];e True.intro) hs ⟨q,hq⟩ ⟨hl,hd,_,(rel.put k eb rv).keeps fun c ys ec=>?_,q,es,ep,hq,h2,h3,h4,h5⟩;rw[ai (yO ec e (fun z=>nomatch z))];e ec
end
section
variable {X:Cx}{pins:List (Addr×Obj)}{σ:St}{H:Hp}{s:Shared}{a:Addr}{kvs:List (Key×V)}{k:Key}{u:Value}{A:Around}{E:Value→Shared→Prop}
þ yP {Q:Value→Shared→Prop}(I:Inv X pins σ H s)(e:Rd H a (.dK kvs))(h:∀ t s',Inv X pins σ H s'→Q (.int kvs.length t) s'):wpAny (model X.prog X.w) A (call (.builtin "len") [.ref a]) Q E s:=by
 o⟨z,hd,vs,rel,dd⟩:=jj I.hok e;r call_len_dict hd dd (by rw[←rel.length];rw[sizeLine_eq] at z;m) ?_;rw[←rel.length];e h _ _ (I.tok _)
end
noncomputable def zi (i:Expr):Prop:=∀ ov iv,subscripted i false ov iv=operate [ov,iv] (getItem ov iv)
þ wF {prog:Program}{w:World}{A:Around}{E:Value→Shared→Prop}{s:Shared}{env:Env}{value slice:Expr}{pos:Pos}{T id:String}{Q:Value→Shared→Prop}
   (hl:typeLookup (.type T) "__getitem__"=pure (some (.builtin id)))(hs:zi slice)
   (h:wpAny (model prog w) A (eval value env) (fun o s₁=>wpAny (model prog w) A (eval slice env) (fun i s₂=>s₂.TypeIs o T∧wpAny (model prog w) A (getItem o i) Q E s₂) E s₁) E s) :
   wpAny (model prog w) A (eval (.Subscript value slice pos) env) Q E s:=by
 r Subscript_ (wpAny_mono h (fun o s₁ h₁=>wpAny_mono h₁ (fun i s₂ h₂=>?_) fun _ _ x=>x) fun _ _ x=>x);o⟨hT,h₂⟩:=h₂;unfold subscriptTail;r wpAny_bind ?_;rw[getitemInPython_of_ne hT.not_modules];r wpAny_bind (wpAny_specialOf hT hl ?_)
 h fin:wpAny (model prog w) A (subscripted slice false o i) (fun r s₃=>wpAny (model prog w) A (letTemporaryGo value o r >>= fun _=>pure r) Q E s₃) E s₂:=by
   rw[hs o i];e wpAny_operating (wpAny_mono h₂ (fun r s₃ h₃=>wpAny_bind (wpAny_letTemporaryGo (wpAny_pure h₃))) fun _ _ x=>x)
 first
   | e wpAny_pure (wpAny_bind fin)
   | e wpAny_bind (wpAny_pure (wpAny_bind fin))
   | e wpAny_bind fin
þ pd {X:Cx}{pins:List (Addr×Obj)}{σ:St}{H:Hp}{s:Shared}{a:Addr}{y:V}{o:Option V}(I:Inv X pins σ H s)(g:k7 H a y o):s.TypeIs (.ref a) "dict":=by
 rcases g with ⟨kvs,k,e,_,_⟩ | ⟨kvs,k,b,e,_,_,_⟩
 . o⟨_,_,vs,_,dd⟩:=jj I.hok e;e dd.typeIs
 . o⟨_,_,xs,_,dd⟩:=nV I.hok e;e dd.typeIs
noncomputable def vJ (td ty:TE):TE:=fun σ H Q=>td σ H fun x H1=>ty σ H1 fun y H2=>∃ a v,x=.ref a∧k7 H2 a y (some v)∧Q v H2
noncomputable def yw (ty td:TE):TE:=fun σ H Q=>ty σ H fun y H1=>td σ H1 fun x H2=>∃ a o,x=.ref a∧k7 H2 a y o∧Q (.bl o.isSome) H2
noncomputable def nj (ty td:TE):TE:=fun σ H Q=>ty σ H fun y H1=>td σ H1 fun x H2=>∃ a o,x=.ref a∧k7 H2 a y o∧Q (.bl (!o.isSome)) H2
noncomputable def u9 (td ty tv:TE):TS:=fun D σ H=>tv σ H fun v H1=>td σ H1 fun x H2=>ty σ H2 fun y H3=>∃ a H4,x=.ref a∧zq H3 a y v H4∧D.nx σ H4
section
variable {X:Cx}{o i e value:Expr}{pos pos' tpos:Pos}{td ty tv:TE}
þ cy (hu:X.A.units+1 < cLine)(ho:PE X o td)(hi:PE X i ty)(hs:zi i):PE X (.Subscript o i pos) (vJ td ty):=by
 intro pins s σ H Q I h;r wF PySem.F.slot_dict_getitem.lookup hs (thn (ho s σ H _ I h) fun u s1 ⟨x,H1,I1,rx,q1⟩=>thn (hi s1 σ H1 _ I1 q1) fun iv s2 ⟨y,H2,I2,ry,a,v,ex,g,q2⟩=>?_);subst ex;obtain rfl:u=Value.ref a:=rx;e⟨pd I2 g,tF hu I2 g ry fun w' s3 I3 rw'=>⟨v,H2,I3,rw',q2⟩⟩
þ uz (hu:X.A.units+1 < cLine)(hi:PE X i ty)(ho:PE X o td):PC X .In i o (yw ty td):=by
 intro pins s σ H Q I h;r thn (hi s σ H _ I h) fun iv s1 ⟨y,H1,I1,ry,q1⟩=>thn (ho s1 σ H1 _ I1 q1) fun u s2 ⟨x,H2,I2,rx,a,ov,ex,g,q2⟩=>?_;subst ex;obtain rfl:u=Value.ref a:=rx;e zB hu I2 g ry fun s3 I3=>⟨.bl ov.isSome,H2,I3,rfl,q2⟩
þ dq (hu:X.A.units+1 < cLine)(hi:PE X i ty)(ho:PE X o td):PC X .NotIn i o (nj ty td):=by
 intro pins s σ H Q I h;r thn (hi s σ H _ I h) fun iv s1 ⟨y,H1,I1,ry,q1⟩=>thn (ho s1 σ H1 _ I1 q1) fun u s2 ⟨x,H2,I2,rx,a,ov,ex,g,q2⟩=>?_;subst ex;obtain rfl:u=Value.ref a:=rx;e w6 hu I2 g ry fun s3 I3=>⟨.bl (!ov.isSome),H2,I3,rfl,q2⟩
þ dH (hu:X.A.units+1 < cLine)(ho:PE X o td)(hi:PE X i ty)(hv:PE X value tv)(hs:swapsWith value (some (.Subscript o i pos')) pos.line X.env=pure false) :
   PS X (.Assign [.Subscript o i pos'] value pos) (u9 td ty tv):=by
 intro pins s σ H D I h;r wpAny_Assign_Subscript (thn (hv s σ H _ I h) fun r s1 ⟨v,H1,I1,rv,q1⟩=>thn (ho s1 σ H1 _ I1 q1) fun u s2 ⟨x,H2,I2,rx,q2⟩=>thn (hi s2 σ H2 _ I2 q2) fun iv s3 ⟨y,H3,I3,ry,a,H4,ex,g,q3⟩=>?_) hs;subst ex;obtain rfl:u=Value.ref a:=rx;e sy hu I3 g ry rv fun s4 I4=>⟨σ,H4,I4,q3⟩
end
þ ox {P:Program}{w:World}{H:Hp}(h:Heap)(hb:sysModules < h.objs.size):bR P w H (h.push { cls:=.type "dict",data:=.dict #[] }) h.objs.size (.dK []) :=
 ⟨AA _,beq_eq_false_iff_ne.mpr (Ne.symm (z6 hb)),[],.nil,Heap.DictOf.new h⟩
noncomputable def pD:TE:=fun _ H Q=>∀ p,H p=none→Q (.ref p) (upd H p (.dK []))
noncomputable def uQ:TE:=fun _ H Q=>∀ p,H p=none→Q (.ref p) (upd H p (.dT []))
section
variable {X:Cx}{pos:Pos}
þ ed:PE X (.Dict [] [] pos) pD:=fun pins s σ H Q I h =>
 wpAny_Dict_empty ⟨.ref s.heap.objs.size,_,I.laid (a:=s.heap.objs.size) (o:=.dK []) (t':=s.toks) (fun _ _ q=>Heap.get?_push_of_some _ q) (zN _) (ox s.heap I.big),rfl,h _ (I.hok.fresh (zN _))⟩
end
noncomputable def kG:List (TE×TE)→St→Hp→(List (V×V)→Hp→Prop)→Prop
 | [],_,H,Q=>Q [] H
 | (tk,tv)::r,σ,H,Q=>tk σ H fun x H1=>tv σ H1 fun y H2=>kG r σ H2 fun ps H3=>Q ((x,y)::ps) H3
abbrev VV:List (V×V)→List (Value×Value)→Prop:=Paired fun p q=>bd p.1 q.1∧bd p.2 q.2
noncomputable def PPs (X:Cx)(pos:Pos)(keys:List (Option Expr))(values:List Expr)(trs:List (TE×TE)):Prop :=
 ∀ (pins:List (Addr×Obj))(s:Shared) (σ:St)(H:Hp)(Q:List (V×V)→Hp→Prop),Inv X pins σ H s→kG trs σ H Q →
   wpAny (model X.prog X.w) X.A (evalPairs (pairTrees keys values X.env pos)) (fun vs s'=>∃ ps H',Inv X pins σ H' s'∧VV ps vs∧Q ps H') X.xe s
þ we {X:Cx}{pos:Pos}:PPs X pos [] [] []:=fun pins s σ H Q I h=>pairTrees_nil_walk ⟨[],H,I,.nil,h⟩
þ t8 {X:Cx}{pos:Pos}{k v:Expr}{ks:List (Option Expr)}{vs:List Expr}{tk tv:TE}{trs:List (TE×TE)}(hk:PE X k tk)(hv:PE X v tv)(hr:PPs X pos ks vs trs) :
   PPs X pos (some k::ks) (v::vs) ((tk,tv)::trs):=fun pins s σ H Q I h =>
 pairTrees_cons_walk (thn (hk s σ H _ I h) fun u s1 ⟨x,H1,I1,rx,q1⟩=>thn (hv s1 σ H1 _ I1 q1) fun w2 s2 ⟨y,H2,I2,ry,q2⟩ =>
   thn (hr pins s2 σ H2 _ I2 q2) fun ws s3 ⟨ps,H3,I3,rel,q3⟩=>⟨(x,y)::ps,H3,I3,.cons ⟨rx,ry⟩ rel,q3⟩)
noncomputable def cO (kvs more:List (Key×V)):List (Key×V):=more.foldl (fun acc kv=>dw acc kv.1 kv.2) kvs
þ KV.merge:∀ {more:List (Key×V)}{rs:List (Key×Value)}{kvs:List (Key×V)}{vs:List (Key×Value)},KV more rs→KV kvs vs→KV (cO kvs more) (merged vs rs):=by
 intro more rs kvs vs r;unfold KV at r
 induction r generalizing kvs vs with
 | nil=>intro q;e q
 | @cons p q ps qs h t ih =>
   intro r0
   h e:KV (dw kvs p.1 p.2) (stored vs q.1 q.2):=by
     have:=r0.put p.1 h.2;rw[←h.1];e this
   e ih e
þ eG:∀ (more kvs:List (Key×V)),(cO kvs more).length≤kvs.length+more.length
 | [],kvs=>by show kvs.length≤kvs.length+0;m
 | p::r,kvs=>by
   h h1:=eG r (dw kvs p.1 p.2);h h2:=gd kvs p.1 p.2;show(cO (dw kvs p.1 p.2) r).length≤_;rw[Av];m
þ jZ {P:Program}{w:World}:∀ {kvs:List (Key×V)}{ws:List (Value×Value)},VV (kvs.map fun kv=>(kV kv.1,kv.2)) ws→∃ rs,Carries (bL P w) ws rs∧KV kvs rs
 | [],_,r=>by rw[Bf] at r;cases r;e⟨[],True.intro,.nil⟩
 | p::kvs,_,r=>by
   rw[z8] at r
   cases r with
   | @cons a b as bs h t =>
     o⟨rs,c,q⟩:=jZ (P:=P) (w:=w) t;o⟨b1,b2⟩:=b;e⟨(p.1,b2)::rs,⟨lJ h.1,rfl,c⟩,.cons ⟨rfl,h.2⟩ q⟩
noncomputable def tY (trs:List (TE×TE)):TE:=fun σ H Q=>∀ p,H p=none→kG trs σ (upd H p (.dK [])) fun ps H2=>H2 p=some (.dK [])∧∃ kvs:List (Key×V),ps=kvs.map (fun kv=>(kV kv.1,kv.2))∧kvs.length≤15∧Q (.ref p) (upd H2 p (.dK (cO [] kvs)))
þ wq {X:Cx}{pos:Pos}{keys:List (Option Expr)}{values:List Expr}{trs:List (TE×TE)}(h:PPs X pos keys values trs)(hall:keys.all (·.isSome)=true)(hl:keys.length=values.length)(h0:keys≠[])
   (h15:keys.length≤15):PE X (.Dict keys values pos) (tY trs):=by
 intro pins s σ H Q I q;h hn:=I.hok.fresh (zN s.heap.objs.size);h I1:=I.laid (a:=s.heap.objs.size) (o:=.dK []) (h':=s.heap.push { cls:=.type "dict",data:=.dict #[] }) (t':=s.toks) (fun _ _ q=>Heap.get?_push_of_some _ q) (zN _) (ox s.heap I.big);r wpAny_Dict_walk (knd:=bL X.prog X.w) hall hl h0 h15 (thn (h pins _ σ _ _ I1 (q _ hn)) fun ws s2 ⟨ps,H2,I2,rel,e,kvs,ep,lk,q2⟩=>?_);subst ep;o⟨rs,c,rk⟩:=jZ (P:=X.prog) (w:=X.w) rel;o⟨z,hd,vs0,r0,dd⟩:=xn I2.hok e;cases r0;r⟨rs,c,dd,fun h' dd' hs=>⟨.ref s.heap.objs.size,_,?_,rfl,q2⟩⟩
 h hz:(cO [] kvs).length≤sizeLine:=by
   h h1:=eG kvs [];rw[BR] at h1;rw[sizeLine_eq];m
 h he:∃ q,h'.get? s.heap.objs.size=some q:=let ⟨q,_,_,hq,_⟩:=dd';⟨q,hq⟩
 e nh I2 (by rw[e];e True.intro) hs he (ma hz hd (rk.merge .nil) dd')
section
variable {X:Cx}{pins:List (Addr×Obj)}{σ:St}{H:Hp}{s:Shared}{a:Addr}{y d:V}{u r:Value}{o:Option V}{A:Around}{E:Value→Shared→Prop}
end
section
variable {X:Cx}{o e f:Expr}{apos cpos:Pos}{td ty tx:TE}
end
section
variable {X:Cx}{pins:List (Addr×Obj)}{σ:St}{H:Hp}{s:Shared}{a:Addr}{kvs:List (Key×V)}{A:Around}{E:Value→Shared→Prop}
þ vf {Q:Value→Shared→Prop}(I:Inv X pins σ H s)(e:Rd H a (.dK kvs))(h:∀ p s',H p=none→Inv X pins σ (upd H p (.dK kvs)) s'→Q (.ref p) s'):wpAny (model X.prog X.w) A (call (.type "dict") [.ref a]) Q E s:=by
 o⟨z,hd,vs,rel,dd⟩:=jj I.hok e;r kt_call_dict hd dd (by rw[←rel.length];e z) fun h' dd' hs=>?_;r h _ _ (I.hok.fresh (zN _)) (I.laid (a:=s.heap.objs.size) (o:=.dK kvs) (t':=s.toks) (fun b q hq=>?_) (zN _) (ma z (beq_eq_false_iff_ne.mpr (Ne.symm (z6 I.big))) rel dd'));e(hs.2 b (z6 (Heap.lt_size hq))).trans (Heap.get?_push_of_some _ hq)
end
section
variable {X:Cx}{pins:List (Addr×Obj)}{σ:St}{H:Hp}{s:Shared}{a:Addr}{y:V}{u:Value}{A:Around}{E:Value→Shared→Prop}
end
end L2
namespace Att
open PySem PySem.W PySem.Calls PyProof.Rows
þ jn {P:Params}{h:Heap}:∀ (ns:List Int)(vs:List Value),WellAll P h vs (ns.map WData.int)→IntsAre vs ns:=by
 intro ns
 induction ns with
 | nil =>
   intro vs w;rw[Bf] at w;cases w;e .nil
 | cons n ns ih =>
   intro vs w;rw[z8] at w
   cases w with
   | cons a b =>
     cases a;e .cons _ _ (ih _ b)
þ tG {l:OpenLaw}{n:Nat}(hn:l.most=some n){P:Params}{h:Heap}{args:List WData}{vals:List Value}
   (hpre:l.row.toRowW.claim.pre args=true)(hwl:WellAll P h vals args) :
   ∃ a vs ns,vals=[Value.ref a]∧args=[WData.list (ns.map WData.int)]∧h.get? a=some { cls:=.type "list",data:=.seq vs.toArray }∧IntsAre vs ns∧ns.length≤n:=by
 h hsh:WShape.hasAll [] args [.list .int]=true:=(pre_splitW hpre).1;h hc:l.pre.holds [] { args:=args }=true:=(pre_splitW hpre).2;o⟨d,r,rfl,h1,h2⟩:=hasAllW_cons hsh;obtain rfl:=hasAllW_nil h2;o⟨xs,rfl,h3⟩:=hasW_list h1;o⟨ns,rfl⟩:=items_int h3
 h hlen:ns.length≤n:=by
   unfold OpenLaw.pre at hc
   h h4:(WTm.not (.lt (.lit (.int (n:Int))) (.len (.arg 0)))).holds [] { args:=[.list (ns.map .int)] }=true:=by
     h h4:=(holds_andW hc).1;rw[hn] at h4;e h4
   h h5:=condW_of h4 (w_not (w_lt w_lit (w_len_list (w_arg rfl))));rw[be] at h5;r Cg fun q=>?_
   h q':(n:Int) < ((ns.length:Nat):Int):=by m
   first
     | (rw[decide_eq_true q'] at h5;e absurd h5 (by decide))
     | (simp at h5;m)
 cases hwl with
 | cons w1 w2 =>
   cases w2
   cases w1 with
   | list ho hall=>e⟨_,_,ns,rfl,rfl,ho,jn ns _ hall,hlen⟩
þ sP (l:OpenLaw)(args:List WData):l.row.toRowW.claim.post args (.bool true) args=true :=
 postW_of (r:=l.row.toRowW) (X:=(true==true))
   (show WShape.has [] (.bool true) .bool=true by first | rfl | decide | simp[WShape.has,WShape.arms,WShape.armsAll])
   (show(WTm.eq .res (.lit (.bool true))).value [] { args:=args,res:=some (.bool true),after:=args }=some (.bool (true==true)) from w_eq_bool (w_res rfl) w_lit) rfl
þ attach_call {l:OpenLaw}{n:Nat}{q:Program}{loose:List Str}{XP:(Str→Option Value)→Heap→Prop}{YP:World→Heap→Prop}{d:DefRec}
   (hn:l.most=some n)(hdf:d.params.defaults=[])
   (call:∀ (w:World)(s₀ s₁:Shared)(mg mb:Str→Option Value)(fa:Addr)(o:Obj) (pm cd doc:Value)(a:Addr)(vs:List Value)(ns:List Int),
     Ground q loose [] XP w s₀ mg mb s₁.heap→YP w s₁.heap →
     s₁.heap.get? fa=some o→o.data=.func (docDef d.name d.params d.body d.scope pm cd doc)→s₁.heap.CodeRec cd d.name→mg d.name=§fa →
     s₁.heap.get? a=some { cls:=.type "list",data:=.seq vs.toArray }→IntsAre vs ns→ns.length≤n→s₁.gens=#[] →
     codeAny (model l.prog w) callerA (.call (.ref fa) ⟨[.ref a],[]⟩) (fun r s'=>r=.ok (.ret (.bool true))∧OldK s₁.heap s'.heap∧s'.os=s₁.os∧AllBare s'.gens) s₁) :
   WalkO q loose XP YP l.row.toRowW d [] (fun f vs=>CA f vs):=by
 intro w s₀ s₁ mg mb G Y fa o pm cd doc dV kV ho hd hcd hD hmg hg args vals as hpre hlay hrd hwl hlo;obtain rfl:dV=.none:=Dflts.none hD hdf;obtain rfl:kV=.none:=Dflts.noKw hD;o⟨a,vs,ns,rfl,rfl,hobj,hints,hlen⟩:=tG hn hpre hwl;r enter_call (codeAny_mono (call w s₀ s₁ mg mb fa o pm cd doc a vs ns G Y ho (fd_plain hd) hcd hmg hobj hints hlen hg) fun r s' hq=>?_);o⟨rfl,h2,h3,h4⟩:=hq;e⟨.inl ⟨.bool true,.bool true,[],rfl,fun _=>rfl,.bool true,sP l _,fun _=>⟨List.Pairwise.nil,fun _ hm=>(nomatch hm)⟩⟩,h2,h3,h4⟩
section
variable {prog:Program}{w:World}{A:Around}{E:Value→Shared→Prop}{s:Shared}{K:Frag}
noncomputable def ledger (h:Heap)(L d:Addr):List (Addr×Obj):=(zS h.objs.size).filterMap fun a=>if a=L∨a=d then none else(h.get? a).map fun o=>(a,o)
end
end Att
namespace L2
open PySem PySem.Spec PyProof.Rows
þ iT:∀ {vs:List Value}{ns:List Int},IntsAre vs ns→Vals (ns.map V.int) vs
 | _,_,.nil=>.nil
 | _,_,.cons n t h=>.cons ⟨t,rfl⟩ (iT h)
noncomputable def yl (H:Hp):Prop:=∀ b,H b=none∨∃ o xs,H b=some (.frz o (.lst xs))
þ vB {P:Program}{w:World}{K:PySem.W.Frag}{mg mb:Str→Option Value}{CX:CXT}{k:Nat}{fa a:Addr}{fd:FuncData}{x:Str}{sp:Sp}{s₁:Shared}{vs:List Value}{ns:List Int}
   (KX:K.In s₁.heap)(hns:s₁.heap.Ns mainGlobals mg)(hb:s₁.heap.Ns builtinsNs mb)(hbb:∀ x:Str,x≠"__name__"→mb x=bootBuiltins x)(hlim:s₁.heap.NoLimit)(hg:s₁.gens=#[])
   (ha:s₁.heap.get? a=some { cls:=.type "list",data:=.seq vs.toArray })(hi:IntsAre vs ns)(hl:ns.length≤sizeLine)(hr:dc k callerA)
   (F:∀ base:Heap,K.In base→base.Ns mainGlobals mg→aW P w K mg base CX k fa fd [x] sp)(hbind:∀ (s:Shared) (u:Value),BindsTo s fd ⟨[u],[]⟩ [(x,u)])
   (hsp:∀ H:Hp,yl H→SqL K H a (ns.map V.int)→sp [.ref a] H (fun v _=>v=.bl true) fun _ _ _=>False)
   (hCX:∀ H e s',CX [] H s₁ (fun _ _ _=>False) e s'→False) :
   codeAny (model P w) callerA (.call (.ref fa) ⟨[.ref a],[]⟩) (fun r s'=>r=.ok (.ret (.bool true))∧OldK s₁.heap s'.heap∧s'.os=s₁.os∧AllBare s'.gens) s₁:=by
 h rv:=iT hi;h lenV:=hi.length
 h core:∀ H:Hp,yl H→SqL K H a (ns.map V.int)→HOk P w H s₁.heap→(∀ b,H b≠none→b=a)→(H a≠none→K.lookup a=none) →
     codeAny (model P w) callerA (.call (.ref fa) ⟨[.ref a],[]⟩) (fun r s'=>r=.ok (.ret (.bool true))∧OldK s₁.heap s'.heap∧s'.os=s₁.os∧AllBare s'.gens) s₁:=by
   intro H hO hS hok hA hK;h base_of:∀ {b:Addr}{o:Obj},s₁.heap.get? b=some o→H b=none→(nc s₁.heap H).get? b=some o:=fun e n=>ua e n
   h noA:∀ {b:Addr}{o:Obj}{es:Array DictEntry}{ep:Nat},s₁.heap.get? b=some o→o.data=.dict es ep→H b=none:=fun {b o es ep} e d=>by
     cases q:H b with
     | none=>rfl
     | some u =>
       h e':b=a:=hA b (by rw[q];simp);subst e';rw[ha] at e;cases e;h d':Data.seq vs.toArray _=Data.dict es ep:=d;cases d'
   h nsK:∀ {b:Addr}{m:Str→Option Value},s₁.heap.Ns b m→(nc s₁.heap H).Ns b m:=fun {b m} ⟨o,es,ep,e,d,r⟩=>⟨o,es,ep,base_of e (noA e d),d,r⟩
   h hKb:K.In (nc s₁.heap H):=fun b o e=>base_of (KX b o e) (by
     cases q:H b with
     | none=>rfl
     | some u =>
       h e':b=a:=hA b (by rw[q];simp);subst e'
       rw[hK (by rw[q];simp)] at e;cases e)
   h hM:Mod K mg (nc s₁.heap H):=⟨hKb,nsK hns,⟨mb,nsK hb,hbb⟩,let ⟨mc,h1,h2⟩:=hlim;⟨mc,nsK h1,h2⟩⟩;h e0:qy P w K mg (nc s₁.heap H) callerA [] s₁ H:=⟨rfl,hM,fun b o e=>wN e,Cu (sE _ _),trivial,fun b hb=>absurd (show b∈([]:List Addr) from hb) (by simp),hok,.of_eq hg⟩;r codeAny_mono ((F _ hKb (nsK hns)).run callerA [] s₁ H ⟨[.ref a],[]⟩ [.ref a] [.ref a] _ _ hr e0 (hbind s₁ (.ref a)) (.cons rfl .nil) (hsp H hO hS)) fun r s' h=>?_
   cases r with
   | error e=>e(hCX H e s' h).elim
   | ok fl =>
     cases fl with
     | next=>e False.elim h
     | brk=>e False.elim h
     | cont=>e False.elim h
     | ret u =>
       o⟨v,H',os,bare,un,hok',r',q⟩:=h;h q':v=.bl true:=q;subst q';obtain rfl:u=Value.bool true:=r';r⟨rfl,OldK.of_keep fun b o e=>?_,os,bare⟩
       cases q:H b with
       | none=>e un.keep b o e q (by intro z;e absurd (show b∈([]:List Addr) from z) (by simp)) (by simp)
       | some u =>
         rcases hO b with z | ⟨ob,xs,z⟩
         . rw[q] at z;cases z
         . h z2:=un.frzs b ob _ z;o⟨e1,_⟩:=hok b _ z;o⟨e2,_⟩:=hok' b _ z2;rw[e] at e1;cases e1;e e2
 cases hk:K.lookup a with
 | some o =>
   h e:=KX a o hk;rw[ha] at e;cases e;r core (fun _=>none) (fun _=>.inl rfl) (.inr ⟨_,vs.toArray,_,hk,rfl,rfl,rfl,by rw[zW,lenV];e hl,by simpa using rv⟩) (fun b u z=>by h z':(none:Option HO)=some u:=z;cases z') (fun b z=>absurd rfl z) fun z=>absurd rfl z
 | none =>
   r core (fun b=>if b=a then some (.frz { cls:=.type "list",data:=.seq vs.toArray } (.lst (ns.map V.int))) else none) (fun b=>?_) (.inl (.inr ⟨{ cls:=.type "list",data:=.seq vs.toArray },if_pos rfl⟩)) (fun b u z=>?_) (fun b z=>?_) fun _=>hk
   . by_cases hb:b=a
     . e .inr ⟨_,_,if_pos hb⟩
     . e .inl (if_neg hb)
   . by_cases hb:b=a
     . h z':=(if_pos hb).symm.trans z;cases z';subst hb;e⟨ha,by rw[be];e hl,vs,_,rv,ha⟩
     . h z':=(if_neg hb).symm.trans z;cases z'
   . by_cases hb:b=a
     . e hb
     . e absurd (if_neg hb) z
þ walk_of {l:PySem.W.OpenLaw}{n k:Nat}{q:Program}{loose:List Str}{XP:(Str→Option Value)→Heap→Prop}{YP:World→Heap→Prop}{d:DefRec}{K:Params→PySem.W.Frag}{CX:World→CXT}{sp:World→Sp}{x:Str}
   (hn:l.most=some n)(hn2:n≤sizeLine)(hdf:d.params.defaults=[])(hr:dc k callerA)
   (hY:∀ (w:World)(h:Heap),YP w h→(K w.params).In h)
   (F:∀ (w:World)(mg:Str→Option Value)(fa:Addr)(h:Heap),(K w.params).In h→h.Ns mainGlobals mg→mg d.name=§fa →
     ∃ fd:FuncData,(∀ (s:Shared) (u:Value),BindsTo s fd ⟨[u],[]⟩ [(x,u)]) ∧
       ∀ base:Heap,(K w.params).In base→base.Ns mainGlobals mg→aW l.prog w (K w.params) mg base (CX w) k fa fd [x] (sp w))
   (hsp:∀ (w:World)(H:Hp)(a:Addr)(ns:List Int),ns.length≤n→yl H→SqL (K w.params) H a (ns.map V.int)→sp w [.ref a] H (fun v _=>v=.bl true) fun _ _ _=>False)
   (hCX:∀ (w:World)(H:Hp)(s:Shared) (e:Value)(s':Shared),CX w [] H s (fun _ _ _=>False) e s'→False) :
   PySem.W.WalkO q loose XP YP l.row.toRowW d [] (fun f vs=>CA f vs):=by
 r Att.attach_call hn hdf fun w s₀ s₁ mg mb fa o pm cd doc a vs ns G Y ho hd hcd hmg hobj hints hlen hg=>?_;h KX:=hY w _ Y;o⟨fd,hb,hF⟩:=F w mg fa _ KX G.T.g hmg;e vB KX G.T.g G.T.b G.T.builtins G.T.nolimit hg hobj hints (AB hlen hn2) hr hF hb (fun H hO hS=>hsp w H a ns hlen hO hS) fun H e s'=>hCX w H s₁ e s'
noncomputable def bA (s:Stmt) (j:Nat):Stmt:=match s with
 | .ClassDef _ _ _ body _ _ _ _ _ _ _=>body.getD j (.Pass ⟨0,0,0,0⟩)
 | _=>.Pass ⟨0,0,0,0⟩
noncomputable def gm (s:Stmt):Arguments:=match s with
 | .FunctionDef _ a _ _ _ _ _ _ _ _=>a
 | _=>{ posonlyargs:=[],args:=[],vararg:=none,kwonlyargs:=[],kw_defaults:=[],kwarg:=none,defaults:=[] }
noncomputable def eu (s:Stmt):List Stmt:=match s with
 | .FunctionDef _ _ b _ _ _ _ _ _ _=>b
 | _=>[]
noncomputable def ar (s:Stmt):Scope:=match s with
 | .FunctionDef _ _ _ _ _ _ sc _ _ _=>sc
 | _=>{ kind:=.function,names:=[],isGenerator:=false,isCoroutine:=false }
abbrev CX0:CXT:=fun _ _ _ _ _ _=>False
abbrev E0:XK:=fun _ _ _=>False
þ aA {X:Cx}:dA CX0 X E0:=fun _ _ _ _ _ _ _ h=>h.elim
structure Fun (K:PySem.W.Frag) (x qual:Str)(st:Stmt)(f:Addr)(fd:FuncData):Prop where
 ex:∃ (oc:Value)(od:Option Addr) (kV doc pm:Value)(an:Option Addr) (cdv ct:Value)(osl:Array (Option Value)),
   fd=Bo x qual (gm st) (eu st) (ar st) .none kV doc pm an cdv ct∧K.lookup f=some ⟨oc,od,.func fd,osl⟩∧Cq K cdv qual=true
 kp:A8 K (.ref f)=true
section
variable {P:Program}{w:World}{K:PySem.W.Frag}{mg:Str→Option Value}{base:Heap}
þ Fun.ok {x qual:Str}{st:Stmt}{f:Addr}{fd:FuncData}{N ps:List Str}{k:Nat}{sp:Sp}(F:Fun K x qual st f fd)(S:ay N ps (ar st))(len:∀ vs H Q E,sp vs H Q E→vs.length=ps.length)
   (hbody:∀ (cdv:Value)(A:Around)(outer:List Env)(s:Shared)(H:Hp)(vs:List V)(Q:VK)(E:XK),dc k (A.deeper (envOfC qual (ar st) s.heap.objs.size f cdv))→sp vs H Q E →
     ∃ t,PSs (fK CX0 P w K mg base N qual (ar st) f cdv A outer s H E).nox (eu st) t∧t { nx:=fun _ H'=>Q .non H',rt:=Q } (start N vs) H):aW P w K mg base CX0 (k+1) f fd ps sp:=by
 o⟨oc,od,kV,doc,pm,an,cdv,ct,osl,rfl,lk,hcd⟩:=F.ex;r xq lk hcd S len fun A outer s H vs Q E hr hsp=>?_;o⟨t,h,q⟩:=hbody cdv A outer s H vs Q E hr hsp;e⟨t,h.nox,q⟩
þ Fun.binds {x qual:Str}{st:Stmt}{f:Addr}{fd:FuncData}{ps:List Str}(F:Fun K x qual st f fd)
   (h:∀ (kV doc pm:Value)(an:Option Addr) (cdv ct:Value)(us:List Value),us.length=ps.length→bindArgs (Bo x qual (gm st) (eu st) (ar st) .none kV doc pm an cdv ct) ⟨us,[]⟩=pure (ps.zip us)):eC K fd ps []:=by
 o⟨oc,od,kV,doc,pm,an,cdv,ct,osl,rfl,lk,hcd⟩:=F.ex;e .all (h kV doc pm an cdv ct)
þ fun_mk {x qual:Str}{st:Stmt}{f:Addr}{oc:Value}{od an:Option Addr}{osl:Array (Option Value)}{kV doc pm cdv ct:Value}(l:K.lookup f=some ⟨oc,od,.func (Bo x qual (gm st) (eu st) (ar st) .none kV doc pm an cdv ct),osl⟩)
 (c:Cq K cdv qual=true)(k:A8 K (.ref f)=true):Fun K x qual st f (Bo x qual (gm st) (eu st) (ar st) .none kV doc pm an cdv ct):=⟨⟨oc,od,kV,doc,pm,an,cdv,ct,osl,rfl,l,c⟩,k⟩
end
section
variable {X:Cx}
þ pv (i:Nat){x:Str}{pos:Pos}(hN:X.N[i]?=some x:=by rfl)(hv:Vis X.env.scope x:=by first | e Or.inl rfl | e Or.inr (Or.inl rfl) | e Or.inr (Or.inr rfl))(hd:(x==("__debug__":Str))=false:=by decide)
 (hcd:(x==("__classdict__":Str))=false:=by decide):PE X (.Name x pos) (kY i):=yb hN hv hd hcd
þ tD:cv X (.builtin "len") (fun xs H Q=>∃ a kvs,xs=[V.ref a]∧H a=some (.dK kvs)∧Q (.int kvs.length) H):=by
 intro pins s σ H xs us Q I r h;o⟨a,kvs,rfl,ha,q⟩:=h;o⟨u,rfl,ru⟩:=eA r;cases ru;e yP I (.inl ha) fun t s' I'=>⟨.int kvs.length,H,I',⟨t,rfl⟩,q⟩
end
þ az {c A B:Prop} [Decidable c](h1:c→A)(h2:¬c→B):if c then A else B:=by
 by_cases h:c
 . rw[if_pos h];e h1 h
 . rw[if_neg h];e h2 h
noncomputable def af (H H':Hp):Prop:=∀ b o,H b=some o→H' b=some o
þ af.refl (H:Hp):af H H:=fun _ _ h=>h
þ af.trans {H H1 H2:Hp}(a:af H H1)(b:af H1 H2):af H H2:=fun c o h=>b c o (a c o h)
þ af.free {H H':Hp}(e:af H H'){l:Addr}(h:H' l=Option.none):H l=Option.none:=by
 cases q:H l with
 | none=>rfl
 | some o =>
   rw[e l o q] at h;cases h
þ af.seq {K:PySem.W.Frag}{H H':Hp}{a:Addr}{xs:List V}(e:af H H')(h:SqL K H a xs):SqL K H' a xs:=by
 rcases h with (h | ⟨o,h⟩) | h
 . e .inl (.inl (e _ _ h))
 . e .inl (.inr ⟨o,e _ _ h⟩)
 . e .inr h
section
variable {κ:Type} [DecidableEq κ]
þ gR:∀ {l:List κ}{k:κ},l.Nodup→¬k∈l→(l++[k]).Nodup
 | [],k,_,_=>by simp
 | a::r,k,h,hk=>by
   o⟨h1,h2⟩:=List.nodup_cons.mp h;show(a::(r++[k])).Nodup;r List.nodup_cons.mpr ⟨fun m=>?_,gR h2 fun m=>hk (List.mem_cons.mpr (Or.inr m))⟩
   rcases List.mem_append.mp m with q | q
   . e h1 q
   . e hk (List.mem_cons.mpr (Or.inl (List.mem_singleton.mp q).symm))
end
end L2
set_option maxHeartbeats 8000000
namespace L2
open PySem PySem.Spec PyProof.Rows
noncomputable def jo (cells:List (Str×Addr)):List (Str×NameKind)→List (Str×Addr)→List (Str×Addr)
 | [],acc=>acc
 | (n,k)::r,acc=>jo cells r (if(k==.free)=true then(n,(cells.lookup n).getD 0)::acc else acc)
noncomputable def jp (scope:Scope)(env:Env):List (Str×Addr):=jo env.cells scope.names []
þ gF {env:Env}:∀ (names:List (Str×NameKind))(acc:List (Str×Addr)),(∀ y∈names,y.2=.free→∃ c,env.cells.lookup y.1=some c) →
   (forIn names acc (fun(x:Str×NameKind)(r:List (Str×Addr))=>if(x.2==.free)=true then(do let c ←cellOf env x.1;pure (ForInStep.yield ((x.1,c)::r))) else pure (ForInStep.yield r)):Sem (List (Str×Addr)))=pure (jo env.cells names acc)
 | [],acc,_=>by simp[jo]
 | (n,k)::r,acc,h=>by
   h hr:∀ y∈r,y.2=.free→∃ c,env.cells.lookup y.1=some c:=fun y hy=>h y (zX _ hy);by_cases hk:(k==NameKind.free)=true
   . o⟨c,hc⟩:=h (n,k) zV (by simpa using hk)
     h e:cellOf env n=pure c:=by unfold cellOf;rw[show env.cells.lookup n=some c from hc]
     simp only[BS,hk,if_true,e,pure_bind,jo,hc,Bx];e gF r _ hr
   . simp only[BS,hk,Bool.false_eq_true,if_false,pure_bind,jo];e gF r _ hr
þ ff {env:Env}{scope:Scope}(h:∀ y∈scope.names,y.2=.free→∃ c,env.cells.lookup y.1=some c):closureFor scope env=pure (jp scope env):=by
 unfold closureFor jp;have:=gF scope.names [] h
 simpa using this
þ jS {cells:List (Str×Addr)}{n:Str}{c:Addr}:∀ (names:List (Str×NameKind))(acc:List (Str×Addr)),(n,c)∈jo cells names acc→(n,c)∈acc∨((n,NameKind.free)∈names∧c=(cells.lookup n).getD 0)
 | [],acc,h=>.inl h
 | (y,k)::r,acc,h=>by
   h h':(n,c)∈jo cells r (if(k==.free)=true then(y,(cells.lookup y).getD 0)::acc else acc):=h
   rcases jS r _ h' with q | ⟨q1,q2⟩
   . by_cases hk:(k==NameKind.free)=true
     . rw[if_pos hk] at q
       rcases List.mem_cons.mp q with e | q
       . injection e with e1 e2
         subst e1
         h hk':k=.free:=by simpa using hk
         subst hk';e .inr ⟨zV,e2⟩
       . e .inl q
     . rw[if_neg hk] at q;e .inl q
   . e .inr ⟨zX _ q1,q2⟩
þ lr {cells:List (Str×Addr)}{p:Str×Addr}:∀ (names:List (Str×NameKind))(acc:List (Str×Addr)),p∈acc→p∈jo cells names acc
 | [],acc,h=>h
 | (y,k)::r,acc,h=>by
   show p∈jo cells r (if(k==.free)=true then(y,(cells.lookup y).getD 0)::acc else acc);r lr r _ ?_
   split
   . e zX _ h
   . e h
þ pf {cells:List (Str×Addr)}{n:Str}:∀ (names:List (Str×NameKind))(acc:List (Str×Addr)),(n,NameKind.free)∈names→(n,(cells.lookup n).getD 0)∈jo cells names acc
 | (y,k)::r,acc,h=>by
   show _∈jo cells r (if(k==.free)=true then(y,(cells.lookup y).getD 0)::acc else acc)
   rcases List.mem_cons.mp h with e | h
   . injection e with e1 e2
     subst e1 e2;e lr r _ (by rw[if_pos (by rfl)];e zV)
   . e pf r _ h
þ eo {n:Str}{c:Addr}:∀ {l:List (Str×Addr)},(n,c)∈l→(∀ d,(n,d)∈l→d=c)→l.lookup n=some c
 | (y,d)::r,h,ha=>by
   by_cases e:n=y
   . subst e;h hd:d=c:=ha d zV;simp[Ah,hd]
   . h e':(n==y)=false:=by simpa using e
     rw[Ah,e'];r eo ?_ fun d hd=>ha d (zX _ hd)
     rcases List.mem_cons.mp h with z | z
     . injection z with z1 _
       e absurd z1 e
     . e z
þ i7 {env:Env}{scope:Scope}{n:Str}{c:Addr}(h:(n,NameKind.free)∈scope.names)(hc:env.cells.lookup n=some c):(jp scope env).lookup n=some c:=by
 unfold jp;h h1:=pf (cells:=env.cells) scope.names [] h;rw[hc] at h1;r eo h1 fun d hd=>?_
 rcases jS _ _ hd with q | ⟨_,q⟩
 . cases q
 . rw[hc] at q;e q
þ wX {env:Env}{scope:Scope}{n:Str}{c:Addr}(hf:∀ y∈scope.names,y.2=.free→∃ c,env.cells.lookup y.1=some c)(h:(jp scope env).lookup n=some c):(n,NameKind.free)∈scope.names∧env.cells.lookup n=some c:=by
 h hm:=AX h;unfold jp at hm
 rcases jS _ _ hm with q | ⟨q1,q2⟩
 . cases q
 . o⟨d,hd⟩:=hf _ q1 rfl;h hd:env.cells.lookup n=some d:=hd;rw[hd] at q2;h e:c=d:=q2;subst e;e⟨q1,hd⟩
noncomputable def cxB (X:Cx)(N:List Str)(scope:Scope)(s:Shared)(H:Hp)(ex:List Addr):Cx where
 prog:=X.prog
 w:=X.w
 K:=X.K
 mg:=X.mg
 base:=X.base
 A:=X.A
 N:=N
 s₀:=s
 H₀:=H
 env:=compEnvC scope (jp scope X.env) s.heap.objs.size X.env
 outer:=X.stack
 stack:=X.stack
 ex:=ex
 calm:=X.calm
 fn:=fun _=>false
 pn:=[]
 xe:=fun _ _=>False
noncomputable def fY (pk:List (Option Nat)) (σ:St):St:=pk.map fun o=>o.bind fun j=>(σ[j]?).bind id
structure bZ (N:List Str)(env:Env)(scope:Scope)(N':List Str)(pk:List (Option Nat)):Prop where
 kind:scope.kind=.function
 nocell:∀ y∈scope.names,y.2≠.cell
 names:∀ y∈scope.names,y.2=.local→scope.names.lookup y.1=some .local
 free:∀ y∈scope.names,y.2=.free→(env.scope.names.lookup y.1=some .cell∨env.scope.names.lookup y.1=some .free)
 len:pk.length=N'.length
 cap:∀ (i:Nat) (x:Str),N'[i]?=some x→∀ (j:Nat),pk[i]?=some (some j)→N[j]?=some x∧scope.names.lookup x=some .free
þ i0 {env:Env}{x:Str}{k:NameKind}:∀ {names:List (Str×NameKind)},(names.map fun(n,k)=>if(k==NameKind.free&&env.scope.kind==.function&&env.kindOf n==some .cell) then(n,NameKind.cell) else(n,k)).lookup x=some k→k=.cell∨k=.free →
   (∀ y∈names,y.2≠.cell)→(x,NameKind.free)∈names
 | [],h,_,_=>by simp at h
 | (n,k')::r,h,hk,hc=>by
   h hc':∀ y∈r,y.2≠.cell:=fun y hy=>hc y (zX _ hy);h h':Af x ((if(k'==NameKind.free&&env.scope.kind==.function&&env.kindOf n==some .cell)=true then(n,NameKind.cell) else(n,k'))::(r.map fun(n,k)=>if(k==NameKind.free&&env.scope.kind==.function&&env.kindOf n==some .cell) then(n,NameKind.cell) else(n,k)))=some k:=h;by_cases e:x=n
   . subst e;by_cases hq:(k'==NameKind.free&&env.scope.kind==.function&&env.kindOf x==some .cell)=true
     . h:k'=.free:=by
         rw[Bool.and_eq_true,Bool.and_eq_true] at hq
         simpa using hq.1.1
       rw[←this];e zV
     . rw[if_neg hq] at h';simp[Ah] at h';subst h'
       rcases hk with hk | hk
       . e absurd hk (hc _ zV)
       . rw[←hk];e zV
   . h e':(x==n)=false:=by simpa using e
     h h2:Af x (r.map fun(n,k)=>if(k==NameKind.free&&env.scope.kind==.function&&env.kindOf n==some .cell) then(n,NameKind.cell) else(n,k))=some k:=by
       split at h'<;>(rw[Ah,e'] at h';e h')
     e zX _ (i0 h2 hk hc')
þ ko {env:Env}{x:Str}:∀ {names:List (Str×NameKind)},names.lookup x=some .free →
   (names.map fun(n,k)=>if(k==NameKind.free&&env.scope.kind==.function&&env.kindOf n==some .cell) then(n,NameKind.cell) else(n,k)).lookup x=some .cell ∨
   (names.map fun(n,k)=>if(k==NameKind.free&&env.scope.kind==.function&&env.kindOf n==some .cell) then(n,NameKind.cell) else(n,k)).lookup x=some .free
 | [],h=>by simp at h
 | (n,k')::r,h=>by
   show Af x ((if(k'==NameKind.free&&env.scope.kind==.function&&env.kindOf n==some .cell)=true then(n,NameKind.cell) else(n,k'))::(r.map fun(n,k)=>if(k==NameKind.free&&env.scope.kind==.function&&env.kindOf n==some .cell) then(n,NameKind.cell) else(n,k)))=_ ∨
     Af x ((if(k'==NameKind.free&&env.scope.kind==.function&&env.kindOf n==some .cell)=true then(n,NameKind.cell) else(n,k'))::(r.map fun(n,k)=>if(k==NameKind.free&&env.scope.kind==.function&&env.kindOf n==some .cell) then(n,NameKind.cell) else(n,k)))=_
   by_cases e:x=n
   . subst e
     h hk:k'=.free:=by simpa [Ah] using h
     subst hk
     split
     . left;simp[Ah]
     . right;simp[Ah]
   . h e':(x==n)=false:=by simpa using e
     rw[Ah,e'] at h;h ih:=ko (env:=env) (x:=x) (names:=r) h
     split<;>(simp only[Ah,e'];e ih)
section
variable {X:Cx}{pins:List (Addr×Obj)}{σ:St}{H:Hp}{s:Shared}{scope:Scope}{N':List Str}{pk:List (Option Nat)}{fp:List Addr}
þ ib (I:Inv X pins σ H s)(B:bZ X.N X.env scope N' pk):∀ y∈scope.names,y.2=.free→∃ c,X.env.cells.lookup y.1=some c:=fun y hy hf=>I.ok.has y.1 (B.free y hy hf)
þ rO {h₁:Heap}{t:Nat}(I:Inv X pins σ H s)(B:bZ X.N X.env scope N' pk)(hf:∀ b∈fp,fw X pins H b)(ho:∀ b∈fp,∃ o,s.heap.get? b=some o)
   (hn:h₁.Ns s.heap.objs.size (fun _=>none))(hs:∀ b o,s.heap.get? b=some o→h₁.get? b=some o) :
   Inv (cxB X N' scope s H fp) [] (fY pk σ) H { s with heap:=h₁,toks:=t }:=by
 h bh:=ib I B;h clx:∀ x c,(jp scope X.env).lookup x=some c→(x,NameKind.free)∈scope.names∧X.env.cells.lookup x=some c:=fun x c h=>wX bh h
 r⟨⟨I.ok.mod,?_,I.ok.glob,I.ok.blt,zN _,fun x y c h1 h2=>?_,fun x hx=>?_,fun x c h _=>?_,I.ok.hd,I.ok.frames,.inl rfl,fun b hb=>⟨?_,fun x c h=>?_⟩,I.bs,AB I.ok.bsz I.sz,fun b o e hb=>?_,fun b hb hfs=>?_,I.stack,I.stkFree⟩,
   rfl,I.bare,Un.kept hs,⟨_,hn,fun i x v h1 h2 h3=>?_⟩,fun x c h=>?_,I.hok.fresh (zN _),fun x c h=>?_,fun p hp=>absurd (show p∈([]:List (Addr×Obj)) from hp) (by simp),I.hok.kept hs,?_⟩
 . e B.kind
 . e I.ok.inj x y c (clx x c h1).2 (clx y c h2).2
 . h hx':(relabel scope X.env).names.lookup x=some .cell∨(relabel scope X.env).names.lookup x=some .free:=hx
   h hm:(x,NameKind.free)∈scope.names:=by
     rcases hx' with z | z
     . e i0 z (.inl rfl) B.nocell
     . e i0 z (.inr rfl) B.nocell
   o⟨c,hc⟩:=bh _ hm rfl;e⟨c,i7 hm hc⟩
 . e absurd (show false=true from h) Bool.false_ne_true
 . o⟨o,e⟩:=ho b hb;e z6 (Heap.lt_size e)
 . e(hf b hb).2.2.2.2.1 x c (clx x c h).2
 . have:=(hf b hb);o⟨_,_,_,h4,_⟩:=this
   rcases h4 with q | q
   . e I.ok.noex b o e q
   . e absurd (z9 (Heap.lt_size e) (AB I.ok.bsz q)) (A7 _)
 . o⟨_,h2,h3,_⟩:=hf b hb
   rcases List.mem_cons.mp (I.stkSub b hfs) with q | q
   . e h2 q
   . e h3 q
 ·
   h h2':(pk.map fun o=>o.bind fun j=>(σ[j]?).bind id)[i]?=some (some v):=h2;rw[zK] at h2'
   cases ep:pk[i]? with
   | none=>rw[ep] at h2';cases h2'
   | some o =>
     rw[ep] at h2';h h2':o.bind (fun j=>(σ[j]?).bind id)=some v:=Option.some.inj h2'
     cases o with
     | none=>cases h2'
     | some j =>
       h h2':(σ[j]?).bind id=some v:=h2'
       h hj:σ[j]?=some (some v):=by
         cases q:σ[j]? with
         | none=>rw[q] at h2';cases h2'
         | some w=>rw[q] at h2';e congrArg some h2'
       o⟨hN,hlk⟩:=B.cap i x h1 j ep;h hm:=AX hlk;o⟨m,_,hl⟩:=I.loc
       h hv:Vis X.env.scope x:=by
         rcases B.free _ hm rfl with z | z
         . e .inr (.inl z)
         . e .inr (.inr z)
       o⟨u,r,l⟩:=hl j x v hN hj hv;r⟨u,r,?_⟩
       rcases l with ⟨k,_⟩ | ⟨k,c,hc,hcell⟩
       . h k':X.env.scope.names.lookup x=some .local:=k
         rcases B.free _ hm rfl with z | z
         . rw[show X.env.scope.names.lookup x=some .cell from z] at k';cases k'
         . rw[show X.env.scope.names.lookup x=some .free from z] at k';cases k'
       . r .inr ⟨?_,c,i7 hm hc,?_⟩
         . rcases h3 with z | z
           . h z':(relabel scope X.env).names.lookup x=some .local:=z
             rcases ko (env:=X.env) hlk with y | y
             . h y':(relabel scope X.env).names.lookup x=some .cell:=y;rw[y'] at z';cases z'
             . h y':(relabel scope X.env).names.lookup x=some .free:=y;rw[y'] at z';cases z'
           . e z
         . o⟨o,ho,hd⟩:=hcell;e⟨o,hs _ _ ho,hd⟩
 . o⟨v,o,ho,hd⟩:=I.cell x c (clx x c h).2;e⟨v,o,hs _ _ ho,hd⟩
 . e I.freeC x c (clx x c h).2
 . show(fY pk σ).length=N'.length;unfold fY;rw[be];e B.len
end
þ mf {prog:Program}{w:World}{A:Around}{R:Result→Shared→Prop}{s:Shared}{elt target iter:Expr}{scope:Scope}{pos:Pos}{it acc:Value}{env:Env}(I:Nat→Shared→Prop)
   (turn:∀ n s,I n s→∀ E:Value→Shared→Prop,wpAny (model prog w) A (pyNext it) (fun r s₁=>match r with
     | none=>R (.ok .next) s₁
     | some v=>wpAny (model prog w) A (letOwnedTupleGo target it v) (fun _ s₁'=>wpAny (model prog w) A (assign target env v) (fun _ s₂=>wpAny (model prog w) A (eval elt env) (fun x s₃ =>
         wpAny (model prog w) A (call (.builtin "list.append") [acc,x]) (fun _ s₄=>∃ m,m < n∧I m s₄) E s₃) E s₂) E s₁') E s₁) E s)
   (n:Nat)(h:I n s) :
   codeAny (model prog w) A (.compLoop (.ListComp elt [⟨target,iter,[],0⟩] scope pos) 0 it acc env) R s:=by
 r codeAny_loop rfl I (fun n s hI=>?_) n h;show wpAny _ _ ((compTurn (.ListComp elt [⟨target,iter,[],0⟩] scope pos) 0 it acc env).onRaise (fun x=>do noteFrame x env;theTreesLotGoes x)) _ _ s;r wpAny_noted ?_;rw[compTurn_list1];r wpAny_bind (wpAny_standAt (wpAny_bind (wpAny_mono (turn n s hI _) (fun r s₁ h₁=>?_) fun _ _ h'=>h')))
 cases r with
 | none=>e wpAny_pure h₁
 | some v =>
   r wpAny_bind (wpAny_mono h₁ (fun _ s₁' h₁=>?_) fun _ _ h'=>h')
   e wpAny_bind (wpAny_mono h₁ (fun _ s₂ h₂=>wpAny_bind (wpAny_bind (wpAny_mono h₂ (fun x s₃ h₃=>wpAny_bind (wpAny_mono h₃
     (fun _ s₄ h₄=>wpAny_pure (wpAny_pure ⟨rfl,h₄⟩)) fun _ _ h'=>h')) fun _ _ h'=>h'))) fun _ _ h'=>h')
noncomputable def n6 (J:It)(g:TG)(te:TE)(D:Addr)(Q:Hp→Prop) (σ:St)(H:Hp):Prop :=
 ∃ W:Nat→Nat→St→Hp→Prop,(∃ m,W 0 m σ H)∧∀ i m σ' H',W i m σ' H' →
   (J.stop i H'∧Q H')∨(J.go i H'∧∃ N:St→Hp→Prop,(∀ σ'' H'',N σ'' H''→∃ m',m' < m∧W (i+1) m' σ'' H'') ∧
     ∀ x H2,J.yld i H' x H2→g x σ' H2 fun σ2 H3=>te σ2 H3 fun v H4=>∃ xs,H4 D=some (.lst xs)∧xs.length < sizeLine∧N σ2 (upd H4 D (.lst (xs++[v]))))
section
variable {X:Cx}{pins:List (Addr×Obj)}{σ:St}{H:Hp}{s:Shared}{scope:Scope}{N':List Str}{pk:List (Option Nat)}{fp:List Addr}
þ oZ {elt tg iter:Expr}{g:TG}{te:TE}{J:It}{it:Addr}{tn:Nat→Heap→Prop}{pos:Pos}{QD:Addr→Hp→Prop}{E:Value→Shared→Prop}{RR:Value→Addr→Result→Shared→Prop}
   (I:Inv X pins σ H s)(B:bZ X.N X.env scope N' pk)(hc:X.calm=true)(T:nU X.prog X.w X.K tg J fp it tn)(st:tn 0 s.heap)(hf:∀ b∈fp,fw X pins H b)
   (hg:∀ s H ex,PG (cxB X N' scope s H ex) tg g)(he:∀ s H ex,PE (cxB X N' scope s H ex) elt te)
   (hW:∀ D,H D=none→n6 J g te D (QD D) (fY pk σ) (upd H D (.lst [])))
   (fin:∀ D C s' H' m,Inv X pins σ H' s'→fw X pins H' C→s'.heap.Ns C m→QD D H'→RR (.ref D) C (.ok .next) s') :
   wpAny (model X.prog X.w) X.A (newList []) (fun acc s₃=>wpAny (model X.prog X.w) X.A (newFunctionEnv scope X.env.globals (jp scope X.env) [] X.env.qual none .none (some X.env)) (fun cenv s₄ =>
     codeAny (model X.prog X.w) X.A (.compStart (.ListComp elt [⟨tg,iter,[],0⟩] scope pos) 0 (.ref it) acc { cenv with scope:=relabel scope X.env }) (RR acc cenv.locals) s₄) E s₃) E s:=by
 h hD0:H s.heap.objs.size=none:=I.hok.fresh (zN _);r wpAny_newObj_type (wpAny_newFunctionEnv B.nocell (by intro y hy;simp at hy) (fun h₁ hns₁ hsb₁=>?_) B.kind);dsimp only at hns₁ hsb₁ ⊢;h I3:Inv X pins σ (upd H s.heap.objs.size (.lst [])) { s with heap:=s.heap.push { cls:=.type "list",dict:=none,data:=.seq ([]:List Value).toArray } }:=I.lnew (t':=s.toks) .nil (AA _);o⟨W,⟨m0,w0⟩,turn⟩:=hW _ hD0;generalize hs3:({ s with heap:=s.heap.push { cls:=.type "list",dict:=none,data:=.seq ([]:List Value).toArray } }:Shared)=s3 at I3
 h eh:s.heap.push { cls:=.type "list",dict:=none,data:=.seq ([]:List Value).toArray }=s3.heap:=by rw[←hs3]
 h hold:∀ b o,s.heap.get? b=some o→s3.heap.get? b=some o:=fun b o e=>by rw[←eh];e Heap.get?_push_of_some _ e
 rw[eh] at hns₁ hsb₁;h hs:∀ b o,s3.heap.get? b=some o→h₁.get? b=some o:=fun b o e=>hsb₁.extBut b o (z6 (Heap.lt_size e)) (Heap.get?_push_of_some _ e)
 h hf3:∀ b∈fp,fw X pins (upd H s.heap.objs.size (.lst [])) b:=fun b hb=>by
   r⟨?_,(hf b hb).2⟩;o⟨o,e,_⟩:=T.obj 0 _ st b hb;rw[ai (z6 (Heap.lt_size e))];e(hf b hb).1
 h ho3:∀ b∈fp,∃ o,s3.heap.get? b=some o:=fun b hb=>by
   o⟨o,e,_⟩:=T.obj 0 _ st b hb;e⟨o,hold _ _ e⟩
 h st1:tn 0 h₁:=T.keep 0 _ _ st fun b hb o e=>hs b o (hold b o e)
 h esh:∀ t,({ s with heap:=h₁,toks:=t }:Shared)={ s3 with heap:=h₁,toks:=t }:=fun t=>by rw[←hs3]
 h loop:∀ t,codeAny (model X.prog X.w) X.A (.compLoop (.ListComp elt [⟨tg,iter,[],0⟩] scope pos) 0 (.ref it) (.ref s.heap.objs.size) (compEnvC scope (jp scope X.env) s3.heap.objs.size X.env))
     (RR (.ref s.heap.objs.size) s3.heap.objs.size) { s with heap:=h₁,toks:=t }:=fun t=>by
   rw[esh t];h IB:Inv (cxB X N' scope s3 (upd H s.heap.objs.size (.lst [])) fp) [] (fY pk σ) (upd H s.heap.objs.size (.lst [])) { s3 with heap:=h₁,toks:=t }:=rO I3 B hf3 ho3 hns₁ hs
   h f2:∀ b∈fp,fw (cxB X N' scope s3 (upd H s.heap.objs.size (.lst [])) fp) [] (upd H s.heap.objs.size (.lst [])) b:=fun b hb =>
     ⟨(hf3 b hb).1,(IB.ok.exf b hb).1,IB.ok.exfs b hb,.inl hb,(IB.ok.exf b hb).2,fun p hp=>absurd (show p∈([]:List (Addr×Obj)) from hp) (by simp)⟩
   h stat:∀ {H':Hp},(∀ b∈fp,H' b=none)→∀ b∈fp,fw (cxB X N' scope s3 (upd H s.heap.objs.size (.lst [])) fp) [] H' b:=fun hn b hb=>⟨hn b hb,(f2 b hb).2⟩;r mf (fun n s'=>∃ i σ' H',Inv (cxB X N' scope s3 (upd H s.heap.objs.size (.lst [])) fp) [] σ' H' s'∧tn i s'.heap∧(∀ b∈fp,H' b=none)∧W i n σ' H') ?_ m0 ⟨0,_,_,IB,st1,fun b hb=>(f2 b hb).1,w0⟩;rintro n s4 ⟨i,σ4,H4,I4,st4,fr4,w4⟩ E'
   rcases turn i n σ4 H4 w4 with ⟨stop,qn⟩ | ⟨go,N,hN,step⟩
   . r thn (T.done (cxB X N' scope s3 (upd H s.heap.objs.size (.lst [])) fp) rfl rfl rfl hc i [] s4 σ4 H4 E' I4 (stat fr4) st4 stop) fun r s5 ⟨hr,I5⟩=>?_;subst hr;o⟨m5,hn5,_⟩:=I5.loc;h IX:Inv X pins σ H4 s5:=I3.call' (ch:=fp) I5.os I5.base I5.hok I5.bare fun b hb=>⟨(hf3 b hb).2.2.2.1,(hf3 b hb).2.1,(hf3 b hb).2.2.2.2.1,(hf3 b hb).2.2.2.2.2⟩;e fin _ _ s5 H4 m5 IX (I3.fpOk (zN _) I5.free) hn5 qn
   . r thn (T.item (cxB X N' scope s3 (upd H s.heap.objs.size (.lst [])) fp) rfl rfl rfl hc i [] s4 σ4 H4 E' I4 (stat fr4) st4 go) fun r s5 ⟨u,hr,h5⟩=>?_;subst hr;r thn h5 fun _ s6 ⟨x,H6,I6,r6,y6,st6,fr6⟩=>?_;h I6':=I6.pinned (stat fr6) (T.obj _ _ st6);r wpAny_mono (hg _ _ _ s6 σ4 H6 x u _ I6' r6 (step x H6 y6)) (fun _ s7 ⟨σ7,H7,I7,q7⟩=>?_) fun _ _ z=>False.elim z;r wpAny_mono (he _ _ _ s7 σ7 H7 _ I7 q7) (fun w s8 ⟨v,H8,I8,r8,xs,hx8,hl8,n8⟩=>?_) fun _ _ z=>False.elim z;r wpAny_mono (bT (X:=cxB X N' scope s3 (upd H s.heap.objs.size (.lst [])) fp) _ s8 σ7 H8 (.ref s.heap.objs.size) [v] (.ref s.heap.objs.size) [w] (fun _ H9=>N σ7 H9) I8 rfl (.cons r8 .nil) ⟨_,xs,v,rfl,rfl,hx8,hl8,n8⟩) (fun _ s9 ⟨_,H9,I9,_,n9⟩=>?_) fun _ _ z=>False.elim z;o⟨m',hm,w9⟩:=hN σ7 H9 n9;r⟨m',hm,i+1,σ7,H9,I9.unpinned,T.keep _ _ _ st6 fun b hb o e=>(I9.pin (b,o) (Ae _ (Ae _ (dD hb e)))).1,fun b hb=>?_,w9⟩;o⟨o,e,d⟩:=T.obj _ _ st6 b hb;e(I9.pin (b,o) (Ae _ (Ae _ (dD hb e)))).2.1
 rw[←eh] at loop;e codeAny_compStart_list (loop _) (T.self _ _ _ _ _ st1 (loop _))
þ Inv.gone {h':Heap}{C:Addr}(I:Inv X pins σ H s)(f:fw X pins H C)(hs:Heap.SameBut C s.heap h'):Inv X pins σ H { s with heap:=h' } :=
 I.turned (t':=s.toks) (it:=C) (fun b o hb e=>hs.extBut b o hb e) f.1 f.2.1 f.2.2.2.1 f.2.2.2.2.1 f.2.2.2.2.2
noncomputable def rG (pk:List (Option Nat))(wi:TI)(g:TG)(te:TE):TE:=fun σ H Q=>wi σ H fun J H1=>∀ D,H1 D=none→n6 J g te D (fun H'=>Q (.ref D) H') (fY pk σ) (upd H1 D (.lst []))
þ fE {elt tg iter:Expr}{wi:TI}{g:TG}{te:TE}{pos:Pos}(hc:X.calm=true)(B:bZ X.N X.env scope N' pk)(hi:PI X tg iter wi)
   (hg:∀ s H ex,PG (cxB X N' scope s H ex) tg g)(he:∀ s H ex,PE (cxB X N' scope s H ex) elt te)(hs:∀ x,foldedSetIterable iter X.env x=pure x:=by intro _;rfl) :
   PE X (.ListComp elt [⟨tg,iter,[],0⟩] scope pos) (rG pk wi g te):=by
 intro pins s σ H Q I h;rw[eval_ListComp];h hclos:=ff (ib I B);r wpAny_comprehension_free (use:=none) rfl hs hclos B.kind B.names (thn (hi s σ H _ I h) fun v s1 h1=>thn h1 fun itv s2 h2=>?_);o⟨it,fp,tn,J,H2,e,I2,T,st2,f2,hW⟩:=h2;subst e;r oZ (QD:=fun D H'=>Q (.ref D) H') (RR:=fun acc C=>compPost (model X.prog X.w) X.A X.xe none (EP X pins σ Q) acc C) I2 B hc T st2 f2 hg he hW fun D C s' H' m I' f' hn q=>?_;e⟨m,hn,fun h' hs'=>⟨.ref D,H',I'.gone f' hs',rfl,q⟩⟩
þ jz {i:Nat}{y:Str}{elt tg iter:Expr}{wi:TI}{g:TG}{te:TE}{pos spos py:Pos}(hN:X.N.Nodup)(hiy:X.N[i]?=some y)(hy:Loc X.env.scope y)(hc:X.calm=true)(B:bZ X.N X.env scope N' pk)(hi:PI X tg iter wi)
   (hg:∀ s H ex,PG (cxB X N' scope s H ex) tg g)(he:∀ s H ex,PE (cxB X N' scope s H ex) elt te)
   (hsw:swapsWith (.ListComp elt [⟨tg,iter,[],0⟩] scope pos) (some (.Name y py)) spos.line X.env=pure true:=by rfl)
   (hs:∀ x,foldedSetIterable iter X.env x=pure x:=by intro _;rfl)(hf:X.fn y=true∨X.env.scope.names.lookup y=some .local:=by first | e .inl rfl | e .inr rfl | assumption) :
   PS X (.Assign [.Name y py] (.ListComp elt [⟨tg,iter,[],0⟩] scope pos) spos) (sr (rG pk wi g te) (bG i)):=by
 intro pins s σ H D0 I h;rw[exec_Assign_Name_used _ _ _ _ hsw];h hclos:=ff (ib I B);r wpAny_bind (wpAny_standAt (wpAny_bind ?_));show wpAny _ X.A (do let _ ←comprehension (.ListComp elt [⟨tg,iter,[],0⟩] scope pos) scope X.env _ (newList []) false (eval iter X.env) (some (assign (.Name y py) X.env))) _ _ s
 r wpAny_bind (wpAny_mono (wpAny_comprehension_free (use:=some (assign (.Name y py) X.env)) (Q:=fun _ s'=>SP X pins D0 .next s') rfl hs hclos B.kind B.names
   (thn (hi s σ H _ I h) fun v s1 h1=>thn h1 fun itv s2 h2=>?_)) (fun _ s' hq=>wpAny_pure (wpAny_pure hq)) fun _ _ e=>e)
 o⟨it,fp,tn,J,H2,e,I2,T,st2,f2,hW⟩:=h2;subst e;r oZ (QD:=fun D H'=>D0.nx (σ.set i (§D)) H') (RR:=fun acc C=>compPost (model X.prog X.w) X.A X.xe (some (assign (.Name y py) X.env)) (fun _ s'=>SP X pins D0 .next s') acc C) I2 B hc T st2 f2 hg he hW fun D C s' H' m I' f' hn q=>?_;show wpAny _ X.A (assign (.Name y py) X.env (.ref D)) _ _ _;r wpAny_assign_Name (iC (v:=.ref D) I' hN hiy hy rfl (fun s3 I3 ⟨a,hsa,ha⟩=>?_) hf)
 h hCa:C≠a:=by
   rcases ha with z | z
   . rw[z];e f'.2.1
   . e fun e=>f'.2.2.2.2.1 _ _ z e.symm
 e⟨m,hn.sameBut hsa hCa,fun h' hs'=>⟨_,H',I3.gone f' hs',q⟩⟩
end
noncomputable def Itw (n:Nat)(vs:Nat→V→Prop):It:=⟨fun i _=>i < n,fun i H x H'=>H'=H∧vs i x,fun i _=>i=n⟩
þ lq {P:Program}{w:World}{K:PySem.W.Frag}{tg:Expr}{it:Addr}{n:Nat}{PV:Nat→Value→Prop}{St:Nat→Heap→Prop}{vs:Nat→V→Prop}
   (W:∀ A':Around,A'.handled=none→Walks P w A' it [it] [it] n PV St)
   (hobj:∀ i h,St i h→∃ o nm fv,h.get? it=some o∧o.cls=.type nm∧o.data=.fields fv∧["enumerate", "zip", "dict_itemiterator", "dict_reverseitemiterator", "odict_iterator", "itertools.zip_longest", "itertools.pairwise"].contains nm=false)
   (hv:∀ i v,PV i v→∃ x,vs i x∧bd x v)(hself:∀ (A:Around) (i:Nat)(s:Shared)(Q:Value→Shared→Prop)(E:Value→Shared→Prop),St i s.heap→Q (.ref it) s→wpAny (model P w) A (pyIter (.ref it)) Q E s):nU P w K tg (Itw n vs) [it] it St where
 mem:=by simp
 obj:=fun i h st b hb=>by
   h e:b=it:=by simpa using hb
   subst e;o⟨o,nm,fv,e,_,hd,_⟩:=hobj i h st;e⟨o,e,fun v z=>by rw[hd] at z;cases z⟩
 keep:=fun i h h' st k=>(W { depth:=0,units:=0,handled:=none,frames:=none } rfl).frame i h h' st k
 item:=by
   intro X hP hw hK hc i pins s σ H E I hf st hg;subst hP hw hK;o⟨f0,f1,f2,f3,f4,f5⟩:=hf it (by simp);r(W X.A (I.ok.hd hc)).item i s _ _ hg st fun v h' tk hv' st' kk=>?_;h I1:Inv X pins σ H { s with heap:=h',toks:=tk }:=I.turned (fun b o hb e=>kk b o (by simpa using hb) e) f0 f1 f3 f4 f5;o⟨o,nm,fv,e,hcl,hd,hnm⟩:=hobj _ _ st';o⟨x,hx,rx⟩:=hv i v hv';e⟨_,rfl,nZ (s:={ s with heap:=h',toks:=tk }) e hcl hd hnm ⟨x,H,I1,rx,⟨rfl,hx⟩,st',fun b hb=>(hf b hb).1⟩⟩
 done:=by
   intro X hP hw hK hc i pins s σ H E I hf st hg;subst hP hw hK;o⟨f0,f1,f2,f3,f4,f5⟩:=hf it (by simp);h e:i=n:=hg;subst e;e(W X.A (I.ok.hd hc)).done s _ _ st fun h' tk kk=>⟨rfl,I.turned (fun b o hb e=>kk b o (by simpa using hb) e) f0 f1 f3 f4 f5⟩
 self:=hself
noncomputable def sgn (c:Nat):V:=.str ⟨#[c]⟩
noncomputable def xD (tl:TE):TI:=fun σ H R=>tl σ H fun x H1=>∃ z:Str,x=.str z∧R (Itw z.cps.size fun i v=>∃ c,z.cps[i]?=some c∧v=sgn c) H1
þ uK {X:Cx}{tg l:Expr}{tl:TE}(hl:PE X l tl):PI X tg l (xD tl):=by
 intro pins s σ H R I h;r thn (hl s σ H _ I h) fun v s1 ⟨x,H1,I1,r1,q1⟩=>?_;o⟨z,e,q⟩:=q1;subst e;o⟨t,rfl⟩:=r1
 h fp:∀ o:Obj,∀ b∈[s1.heap.objs.size],fw X pins H1 b:=fun o b hb=>by
   h e:b=s1.heap.objs.size:=by simpa using hb
   subst e;e I1.fpOk (zN _) (I1.hok.fresh (zN _))
 cases ha:z.cps.all (· < 128)
 . r wpAny_pyIter_wide ha ?_;r⟨s1.heap.objs.size,[s1.heap.objs.size],_,_,H1,rfl,I1.kept (t':=s1.toks) fun b o e=>Heap.get?_push_of_some _ e,lq (fun A' hA=>Walks.strWide hA _ z t) ?_ ?_ ?_,⟨_,Heap.get?_push_size _ rfl,rfl,rfl⟩,fp default,q⟩
   . rintro i h ⟨o,e,hc,hd⟩;e⟨o,_,_,e,hc,hd,by decide⟩
   . rintro i v ⟨c,u,hc,rfl⟩;e⟨sgn c,⟨c,hc,rfl⟩,⟨u,rfl⟩⟩
   . e fun A i s Q E st hq=>wpAny_pyIter_striter_wide st hq
 . r wpAny_pyIter_ascii ha ?_;r⟨s1.heap.objs.size,[s1.heap.objs.size],_,_,H1,rfl,I1.kept (t':=s1.toks) fun b o e=>Heap.get?_push_of_some _ e,lq (fun A' hA=>Walks.strAscii hA _ z t) ?_ ?_ ?_,⟨_,Heap.get?_push_size _ rfl,rfl,rfl⟩,fp default,q⟩
   . rintro i h ⟨o,e,hc,hd⟩;e⟨o,_,_,e,hc,hd,by decide⟩
   . rintro i v ⟨c,u,hc,rfl⟩;e⟨sgn c,⟨c,hc,rfl⟩,⟨u,rfl⟩⟩
   . e fun A i s Q E st hq=>wpAny_pyIter_striter_ascii st hq
þ gJ {ss:List Str}:∀ {us:List Value},Vals (ss.map V.str) us→StrsAre us ss:=by
 induction ss with
 | nil=>intro us r;rw[Bf] at r;cases r;e .nil
 | cons n ns ih =>
   intro us r;rw[z8] at r
   cases r with
   | cons r1 r2 =>
     o⟨t,e⟩:=r1;subst e;e .cons n t (ih r2)
þ iO {ss:List Str}{us:List Value}(h:StrsAre us ss):Vals (ss.map V.str) us:=by
 induction h with
 | nil=>e .nil
 | cons y t r ih=>e .cons ⟨t,rfl⟩ ih
þ wt {X:Cx}:MtR X "str.join" (fun x vs H Q=>∃ (z:Str)(a:Addr)(ss:List Str),x=.str z∧vs=[.ref a]∧SqL X.K H a (ss.map V.str)∧(ss.map (·.length)).sum+ss.length*z.length≤16777216∧Q (.str (Txt.join z ss)) H):=by
 intro pins s σ H x xs v us Q I rx rs h;o⟨z,a,ss,rfl,rfl,ha,hz,q⟩:=h;o⟨t,rfl⟩:=rx;o⟨u,rfl,ru⟩:=rs.one;cases ru;o⟨its,r,pl,_⟩:=I.list ha;e join_list pl.isList (by simpa using gJ r) hz fun t' k=>⟨.str _,H,I.tok _,⟨t',rfl⟩,q⟩
þ wR {bs:List Bool}:∀ {us:List Value}{i:Nat}{v:Value},Vals (bs.map V.bl) us→us[i]?=some v→∃ b,bs[i]?=some b∧v=.bool b:=by
 induction bs with
 | nil=>intro us i v r h;rw[Bf] at r;cases r;simp at h
 | cons b bs ih =>
   intro us i v r h;rw[z8] at r
   cases r with
   | cons r1 r2 =>
     cases i with
     | zero=>simp at h;subst h;e⟨b,rfl,r1⟩
     | succ i=>o⟨c,h1,h2⟩:=ih r2 (by simpa using h);e⟨c,by simpa using h1,h2⟩
þ vK {X:Cx}(hc:X.calm=true):cv X (.builtin "all") (fun xs H Q=>∃ (a:Addr)(bs:List Bool),xs=[.ref a]∧SqL X.K H a (bs.map V.bl)∧Q (.bl (bs.all id)) H):=by
 intro pins s σ H xs us Q I r h;o⟨a,bs,rfl,ha,q⟩:=h;o⟨u,rfl,ru⟩:=eA r;cases ru;o⟨its,rv,pl,_⟩:=I.list ha;h hl:=pl.isList
 h hlt:a < s.heap.objs.size:=by o⟨_,e,_⟩:=hl;e Heap.lt_size e
 r call_all_walk (wpAny_pyIter_list hl ?_)
 r⟨s.heap.objs.size,[s.heap.objs.size,a],[s.heap.objs.size],its.toArray.size,_,_,fun i=>(bs[i]?).getD true,rfl,Walks.list (A:=X.A.in1) (I.ok.hd hc) _ a (z6 hlt) its.toArray,
   ⟨⟨_,Heap.get?_push_size _ rfl,rfl,rfl⟩,hl.push _⟩,fun i v s' Q' E' hP hQ=>?_,fun h' tk hk=>?_⟩
 . o⟨b,e,rfl⟩:=wR rv (by simpa using hP);simp only[e,Bx] at hQ;e wpAny_truthy_bool hQ
 . h hn:=rv.length;rw[be] at hn
   h e:((zS its.toArray.size).all fun i=>(bs[i]?).getD true)=bs.all id:=by
     rw[zW,←hn];e LSm.range_all bs
   rw[e];e⟨.bl _,H,I.kept (LSm.kept_iter hk),rfl,q⟩
þ cr {X:Cx}:cv X (.builtin "isinstance") (fun xs H Q=>∃ x c t b,xs=[x,.ty c]∧cz X.K H x t∧Ab X.K t (.type c)=some b∧Q (.bl b) H):=by
 intro pins s σ H xs us Q I r h;o⟨x,c,t,b,rfl,ty,e,q⟩:=h;o⟨u,w',rfl,r1,r2⟩:=lA r;cases r2;e lx I r1 ty e fun tk=>⟨.bl b,H,I.tok _,rfl,q⟩
þ eR {X:Cx}:OpR X (binaryOp .FloorDiv) (rI (fun _ j=>0 < j∧j < 2 ^ 64) fun i j=>.int (i / j)):=opI fun i j _ _ _ _ _ hc q=>by
 o⟨h1,h2⟩:=hc;r floordiv_int (by m) (by rw[Int.fdiv_eq_ediv_of_nonneg i (by m)];e q) (.inl (PyProof.noPylong_of_log2 ?_))
 h h0:j.natAbs≠0:=by m
 h:j.natAbs.log2 < 64:=(Nat.log2_lt h0).mpr (by m);m
structure d8 (J:It)(H1:Hp) (n:Nat)(vs:Nat→V→Prop):Prop where
 go:∀ i H',i < n→af H1 H'→J.go i H'
 yld:∀ i H' x H2,i < n→af H1 H'→J.yld i H' x H2→H2=H'∧vs i x
 stop:∀ H',af H1 H'→J.stop n H'
þ ja {H1:Hp}{n:Nat}{vs:Nat→V→Prop}:d8 (Itw n vs) H1 n vs:=⟨fun _ _ h _=>h,fun _ _ _ _ _ _ h=>h,fun _ _=>rfl⟩
þ bv {H1:Hp}{lo:Int}{n:Nat}:d8 (Itr lo n) H1 n (fun i x=>x=.int (lo+i)):=⟨fun _ _ h _=>h,fun _ _ _ _ _ _ h=>h,fun _ _=>zN _⟩
þ aH {K:PySem.W.Frag}{H1:Hp}{a:Addr}{xs:List V}(h:SqL K H1 a xs):d8 (Itl K a) H1 xs.length (fun i x=>xs[i]?=some x) :=
 ⟨fun i H' hi s=>⟨xs,xs[i],s.seq h,by simp[hi]⟩,fun i H' x H2 hi s y=>⟨y.1,y.2 xs (s.seq h)⟩,fun H' s=>⟨xs,s.seq h,zN _⟩⟩
þ af.sqT {K:PySem.W.Frag}{H H':Hp}{a:Addr}{xs:List V}(e:af H H')(h:SqT K H a xs):SqT K H' a xs:=by
 rcases h with (h | ⟨o,h⟩) | h
 . e .inl (.inl (e _ _ h))
 . e .inl (.inr ⟨o,e _ _ h⟩)
 . e .inr h
þ p9 {K:PySem.W.Frag}{H1:Hp}{a:Addr}{xs:List V}(h:SqT K H1 a xs):d8 (Itt K a) H1 xs.length (fun i x=>xs[i]?=some x) :=
 ⟨fun i H' hi s=>⟨xs,xs[i],s.sqT h,by simp[hi]⟩,fun i H' x H2 hi s y=>⟨y.1,y.2 xs (s.sqT h)⟩,fun H' s=>⟨xs,s.sqT h,zN _⟩⟩
þ af.updN {H:Hp}{D:Addr}{o:HO}(h:H D=none):af H (upd H D o):=fun b u e=>by rw[ai (aF e h)];e e
þ af.step {H0 H:Hp}{D:Addr}{o:HO}(s:af H0 H)(h:H0 D=none):af H0 (upd H D o):=fun b u e=>by rw[ai (aF e h)];e s b u e
þ rW {J:It}{n:Nat}{vs:Nat→V→Prop}{g:TG}{te:TE}{D:Addr}{Q:Hp→Prop}{σ:St}{H0 H:Hp}(S:d8 J H0 n vs)(hn:n≤sizeLine)(Pv:Nat→List V→St→Hp→Prop)
   (h0:Pv 0 [] σ H)(hsame:∀ i xs σ' H',Pv i xs σ' H'→af H0 H'∧xs.length=i)
   (step:∀ i xs σ' H' x,i < n→vs i x→Pv i xs σ' H'→∀ R:V→St→Hp→Prop,(∀ v σ2 H4,H4 D=some (.lst xs)→Pv (i+1) (xs++[v]) σ2 (upd H4 D (.lst (xs++[v])))→R v σ2 H4)→g x σ' H' fun σ2 H3=>te σ2 H3 fun v H4=>R v σ2 H4)
   (fin:∀ xs σ' H',Pv n xs σ' H'→Q H'):n6 J g te D Q σ H:=by
 r⟨fun i m σ' H'=>m=n - i∧i≤n∧∃ xs,Pv i xs σ' H',⟨n,by simp,AA _,[],h0⟩,?_⟩;rintro i m σ' H' ⟨rfl,hi,xs,p⟩;o⟨sm,hl⟩:=hsame _ _ _ _ p;by_cases hlt:i < n
 . r .inr ⟨S.go i H' hlt sm,fun σ2 H2=>∃ ys,Pv (i+1) ys σ2 H2,fun σ2 H2 ⟨ys,p'⟩=>⟨n - (i+1),by m,rfl,hlt,ys,p'⟩,fun x H2 y=>?_⟩;o⟨e,hv⟩:=S.yld i H' x H2 hlt sm y;subst e;e step i xs σ' _ x hlt hv p (fun v σ2 H4=>∃ xs,H4 D=some (.lst xs)∧xs.length < sizeLine∧∃ ys,Pv (i+1) ys σ2 (upd H4 D (.lst (xs++[v])))) fun v σ2 H4 a b=>⟨xs,a,by m,_,b⟩
 . h e:i=n:=by m
   subst e;e .inl ⟨S.stop H' sm,fin xs σ' H' p⟩
þ cF {J:It}{n:Nat}{vs:Nat→V→Prop}{g:TG}{te:TE}{D:Addr}{Q:Hp→Prop}{σ:St}{H:Hp}(S:d8 J H n vs)(hn:n≤sizeLine)(hD:H D=none)(Pσ:St→Prop)(out:Nat→V)
   (h0:Pσ σ)(step:∀ i x σ' H',i < n→vs i x→Pσ σ'→af H H'→∀ R:V→St→Hp→Prop,(∀ σ2,Pσ σ2→R (out i) σ2 H')→g x σ' H' fun σ2 H3=>te σ2 H3 fun v H4=>R v σ2 H4)
   (fin:Q (upd H D (.lst ((zS n).map out)))):n6 J g te D Q σ (upd H D (.lst [])):=by
 r⟨fun i m σ' H'=>m=n - i∧i≤n∧Pσ σ'∧H'=upd H D (.lst ((zS i).map out)),⟨n,by simp,AA _,h0,rfl⟩,?_⟩;rintro i m σ' H' ⟨rfl,hi,p,rfl⟩;h sm:af H (upd H D (.lst ((zS i).map out))):=af.updN hD;by_cases hlt:i < n
 . r .inr ⟨S.go i _ hlt sm,fun σ2 H2=>Pσ σ2∧H2=upd H D (.lst ((zS (i+1)).map out)),fun σ2 H2 ⟨p',e⟩=>⟨n - (i+1),by m,rfl,hlt,p',e⟩,fun x H2 y=>?_⟩;o⟨e,hv⟩:=S.yld i _ x H2 hlt sm y;subst e;r step i x σ' _ hlt hv p sm (fun v σ2 H4=>∃ xs,H4 D=some (.lst xs)∧xs.length < sizeLine∧Pσ σ2∧upd H4 D (.lst (xs++[v]))=upd H D (.lst ((zS (i+1)).map out))) fun σ2 p2=>?_;r⟨(zS i).map out,ac,by rw[be,AW];m,p2,?_⟩;rw[ic,Bb,zQ,Bp]
 . h e:i=n:=by m
   subst e;e .inl ⟨S.stop _ sm,fin⟩
noncomputable def t6 (J:It)(g:TG)(tb:TS)(D:gu) (σ:St)(H:Hp):Prop :=
 ∃ W:Nat→Nat→St→Hp→Prop,(∃ m,W 0 m σ H)∧∀ i m σ H,W i m σ H →
   (J.stop i H∧D.nx σ H)∨(J.go i H∧∃ N:St→Hp→Prop,(∀ σ' H',N σ' H'→∃ m',m' < m∧W (i+1) m' σ' H')∧∀ x H',J.yld i H x H'→g x σ H' fun σ2 H2=>tb { D with nx:=N,ct:=N,bk:=D.nx } σ2 H2)
þ rm (wi:TI)(g:TG)(tb:TS)(D:gu) (σ:St)(H:Hp):zt wi g tb D σ H=wi σ H fun J H1=>t6 J g tb D σ H1:=rfl
þ bj {J:It}{H0:Hp}{n:Nat}{vs:Nat→V→Prop}{g:TG}{tb:TS}{D:gu}{σ:St}{H:Hp}(S:d8 J H0 n vs)(Pv:Nat→St→Hp→Prop)(h0:Pv 0 σ H)(hsame:∀ i σ H,i≤n→Pv i σ H→af H0 H)
   (hs:∀ i x σ H,i < n→vs i x→Pv i σ H→g x σ H fun σ2 H2=>tb { D with nx:=Pv (i+1),ct:=Pv (i+1),bk:=D.nx } σ2 H2)(hd:∀ σ H,Pv n σ H→D.nx σ H):t6 J g tb D σ H:=by
 r⟨fun i m σ H=>m=n - i∧i≤n∧Pv i σ H,⟨n,by simp,AA _,h0⟩,?_⟩;rintro i m σ H ⟨rfl,hi,p⟩;h sm:=hsame i σ H hi p;by_cases hlt:i < n
 . r .inr ⟨S.go i H hlt sm,Pv (i+1),fun σ' H' p'=>⟨n - (i+1),by m,rfl,hlt,p'⟩,fun x H' y=>?_⟩;o⟨e,hv⟩:=S.yld i H x H' hlt sm y;subst e;e hs i x σ _ hlt hv p
 . h e:i=n:=by m
   subst e;e .inl ⟨S.stop H sm,hd σ H p⟩
noncomputable def xU (t u:TS):TS:=fun D σ H=>∃ Pv:St→Hp→Prop,t { D with nx:=Pv } σ H∧∀ σ' H',Pv σ' H'→u D σ' H'
þ aj {X:Cx}{st:Stmt}{cD:List Stmt}{t u:TS}(h1:PS X st t)(h2:PSs X cD u):PSs X (st::cD) (xU t u):=by
 intro pins s σ H D I h;o⟨Pv,h,k⟩:=h;r wpAny_execs_cons (thn (h1 s σ H { D with nx:=Pv } I h) fun f s1 q=>?_)
 cases f with
 | next =>
   o⟨σ',H',I',q⟩:=q;e h2 s1 σ' H' D I' (k _ _ q)
 | ret v=>e q
 | brk=>e q
 | cont=>e q
þ cut {t u:TS}{D:gu}{σ:St}{H:Hp}(Pv:St→Hp→Prop)(h:t { D with nx:=Pv } σ H)(k:∀ σ' H',Pv σ' H'→u D σ' H'):xU t u D σ H:=⟨Pv,h,k⟩
noncomputable def yJ (N:List Str)(on:List (Str×NameKind))(sc:Scope)(N':List Str)(pk:List (Option Nat)):Bool :=
 (sc.kind==.function)&&(sc.names.all fun y=>!(y.2==.cell))&&(sc.names.all fun y=>!(y.2==.local)||(sc.names.lookup y.1==some .local)) &&
 (sc.names.all fun y=>!(y.2==.free)||(on.lookup y.1==some .cell)||(on.lookup y.1==some .free))&&(pk.length==N'.length) &&
 ((zS pk.length).all fun i=>match pk[i]? with
   | some (some j)=>(match N'[i]? with | some x=>(N[j]?==some x)&&(sc.names.lookup x==some .free) | none=>false)
   | _=>true)
þ bZ.of {N:List Str}{env:Env}{sc:Scope}{N':List Str}{pk:List (Option Nat)}(h:yJ N env.scope.names sc N' pk=true):bZ N env sc N' pk:=by
 unfold yJ at h;simp only[Bool.and_eq_true] at h;o⟨⟨⟨⟨⟨h1,h2⟩,h3⟩,h4⟩,h5⟩,h6⟩:=h;r⟨by simpa using h1,fun y hy e=>?_,fun y hy e=>?_,fun y hy e=>?_,by simpa using h5,fun i x hx j hj=>?_⟩
 . have:=List.all_eq_true.mp h2 y hy;rw[e] at this;e absurd this (by decide)
 . have:=List.all_eq_true.mp h3 y hy;rw[e] at this
   simpa using this
 . have:=List.all_eq_true.mp h4 y hy;rw[e] at this
   simpa [Bool.or_eq_true] using this
 . h hi:i < pk.length:=(List.getElem?_eq_some_iff.mp hj).1;have:=List.all_eq_true.mp h6 i (List.mem_range.mpr hi);rw[hj,hx] at this
   simpa [Bool.and_eq_true] using this
þ aE {CX:CXT}{P:Program}{w:World}{K:PySem.W.Frag}{mg:Str→Option Value}{base:Heap}{N:List Str}{qual:Str}{scope:Scope}{f:Addr}{cd:Value}{A:Around}{outer:List Env}{s:Shared}{H:Hp}{E:XK}:(fK CX P w K mg base N qual scope f cd A outer s H E).K=K:=rfl
þ aO {X:Cx}{N:List Str}{scope:Scope}{s:Shared}{H:Hp}{ex:List Addr}:(cxB X N scope s H ex).K=X.K:=rfl
þ om (N:List Str)(vs:List V):L2.start N vs=vs.map some++zY (N.length - vs.length) none:=rfl
þ uf (c:Nat):sgn c=.str ⟨#[c]⟩:=rfl
noncomputable def ej (acc:List Str) (x:Str):List Str:=if x∈acc then acc else acc++[x]
noncomputable def dP (l:List Str):List Str:=l.foldl ej []
þ l6 (l:List Str) (x:Str):dP (l++[x])=ej (dP l) x:=by unfold dP;rw[Cb];rfl
þ ou (acc:List Str) (x:Str):(ej acc x).length≤acc.length+1:=by unfold ej;split<;>simp
þ gB (l:List Str):∀ i,(dP (l.take i)).length≤i
 | 0=>by simp[dP]
 | i+1=>by
   h ih:=gB l i
   cases h:l[i]? with
   | none =>
     h:l.length≤i:=List.getElem?_eq_none_iff.mp h;rw[AC (by m)];rw[AC this] at ih;m
   | some x =>
     rw[Bs,h];show(dP (l.take i++[x])).length≤i+1;rw[l6];have:=ou (dP (l.take i)) x;m
section
variable {prog:Program}{w:World}
þ vZ {h:Heap}{S:Addr}{acc:List Str}{x:Str}(hs:h.SetOf (strKind prog w) S (fun k=>decide (k∈acc)||decide (k=x)) (if decide (x∈acc)=true then acc.length else acc.length+1)) :
   h.SetOf (strKind prog w) S (fun k=>decide (k∈ej acc x)) (ej acc x).length:=by
 r SetOf_congr hs (fun k=>?_) ?_
 . unfold ej;by_cases hx:x∈acc
   . rw[if_pos hx];by_cases hk:k=x
     . subst hk;simp[hx]
     . simp[hk]
   . rw[if_neg hx];rw[Bool.eq_iff_iff];simp
 . unfold ej;by_cases hx:x∈acc
   . rw[if_pos hx,if_pos (by simpa using hx)]
   . rw[if_neg hx,if_neg (by simpa using hx),zL];rfl
þ uI {A:Around}{R:Result→Shared→Prop}{I S l:Addr}{items:Array Value}{ss:List Str}(hh:A.in1.handled=none)(hIl:l≠I)(hSI:S≠I)(hSl:S≠l)(hss:StrsAre items.toList ss)(hb:items.size+1 < scanBound) :
   ∀ (k i:Nat)(s:Shared),items.size - i=k→i≤items.size→s.heap.IsListIter I l i→s.heap.IsList l items→s.heap.SetOf (strKind prog w) S (fun x=>decide (x∈dP (ss.take i))) (dP (ss.take i)).length →
     (∀ h' tk,(∀ b o,b≠S→b≠I→s.heap.get? b=some o→h'.get? b=some o)→h'.SetOf (strKind prog w) S (fun x=>decide (x∈dP ss)) (dP ss).length→R (.ok (.ret .none)) { s with heap:=h',toks:=tk }) →
     codeAny (model prog w) A (.builtin "set.update.loop" ⟨[.ref S,.ref I],[]⟩) R s:=by
 h hlen:items.size=ss.length:=by rw[←hss.length];simp
 intro k
 induction k with
 | zero =>
   intro i s hk hi hit hl hS hR
   h e:i=items.size:=by m
   subst e;r codeAny_builtin PyProof.Rows.F.entry_set_update_loop ?_;rw[Around.under_plainId PyProof.Rows.F.plain_set_update_loop _];r wpAny_bind (wpAny_pyNext_list_end hh hit hl (by simp) fun h' eb=>?_);rw[hlen,AE] at hS;r wpAny_pure (hR h' s.toks (fun b o _ hb e=>eb b o hb e) ?_);o⟨o,es,ep,t,ho,cD⟩:=hS;e⟨o,es,ep,t,eb S o hSI ho,cD⟩
 | succ k ih =>
   intro i s hk hi hit hl hS hR
   h hlt:i < items.size:=by m
   obtain⟨x,hx⟩:∃ x,ss[i]?=some x:=⟨ss[i]'(by m),zJ (by m)⟩
   obtain⟨t,ht⟩:∃ t,items[i]?=some (.str x t):=by
     o⟨u,hu,r⟩:=(iO hss).get (i:=i) (x:=V.str x) (by rw[zK,hx];rfl);o⟨t,rfl⟩:=r;e⟨t,by simpa using hu⟩
   r codeAny_builtin PyProof.Rows.F.entry_set_update_loop ?_;rw[Around.under_plainId PyProof.Rows.F.plain_set_update_loop _];r wpAny_bind (wpAny_pyNext_list_item hit hl ht fun h' hit' sb=>?_)
   h hS':h'.SetOf (strKind prog w) S (fun x=>decide (x∈dP (ss.take i))) (dP (ss.take i)).length:=by
     o⟨o,es,ep,tb,ho,cD⟩:=hS;e⟨o,es,ep,tb,(sb.2 S hSI).trans ho,cD⟩
   show wpAny _ A.in1 (holding [Value.str x t] (setAdd S (.str x t)) >>= _) _ _ _;r wpAny_bind (wpAny_holding ?_);unfold setAdd;r wpAny_holding (wpAny_bind ((strKind prog w).pyHash (k:=x) (strKind_is _ _ _ _) ?_))
   h hroom:(dP (ss.take i)).length+1 < scanBound:=by have:=gB ss i;m
   r wpAny_setAddHashed_of (knd:=strKind prog w) (strKind_is _ _ _ _) rfl hS' hroom fun h2 hsb hS2=>?_;h hS3:=vZ hS2
   h et:dP (ss.take (i+1))=ej (dP (ss.take i)) x:=by rw[Bs,hx];e l6 _ _
   rw[←et] at hS3;r wpAny_pure ⟨plainId_quiet PyProof.Rows.F.plain_set_update_loop _,ih (i+1) _ (by m) hlt ?_ ?_ hS3 fun h3 tk kk hS4=>?_⟩
   . e hit'.at fun o e=>(hsb.2 I (Ne.symm hSI)).trans e
   . e hl.at fun o e=>(hsb.2 l (Ne.symm hSl)).trans ((sb.2 l hIl).trans e)
   . e hR h3 tk (fun b o h1 h2' e=>kk b o h1 h2' ((hsb.2 b h1).trans ((sb.2 b h2').trans e))) hS4
end
section
variable {prog:Program}{w:World}{A:Around}{E:Value→Shared→Prop}{s:Shared}
þ l4 {T newId initId:String}{Bi:Builtin}{args:List Value}{Q Q1:Value→Shared→Prop}(ft:TypeCalled T newId initId)(hct:checkTypeCall T ⟨args,[]⟩=pure ())(hI:entryFor table initId=some Bi)
   (hnew:codeAny (model prog w) A.in1 (.call (.builtin newId) ⟨.type T::args,[]⟩) (wants Q1 E) s)
   (hinit:∀ obj s1,Q1 obj s1→s1.TypeIs obj T∧∀ E':Value→Shared→Prop,wpAny (model prog w) A.in1.in1 (checkBuiltinCall initId ⟨obj::args,[]⟩) (fun _ s2=>s2=s1) E' s1)
   (hbody:∀ obj s1,Q1 obj s1→wpAny (model prog w) A.in1.in1 (Bi ⟨obj::args,[]⟩)
       (fun fin s'=>match fin with | .done f=>wants (fun r s2=>r=.none∧Q obj s2) E (.ok f) s' | .again c'=>c'.quiet=true∧codeAny (model prog w) A.in1 c' (wants (fun r s2=>r=.none∧Q obj s2) E) s')
       (fun e s'=>wants (fun r s2=>r=.none∧Q obj s2) E (.error e) s') s1):wpAny (model prog w) A (call (.type T) args) Q E s:=by
 h hmade:=ft.made;h hsub:=ft.sub;o⟨c,tl,hmro⟩:=ft.mro;h h1:=ft.notType;h h2:=ft.canCreate;r wpAny_call (codeAny_of_tree (show wpAny _ _ (callAny (.type T) _) _ _ _ from wpAny_pure ⟨Code.quiet_builtin _ (by d),codeAny_builtin F.entry_type_call ?_⟩));rw[Around.under_plain (weight_type_call_type T args []) rfl]
 repeat (any_goals (first | assumption | wp_step))
 r codeAny_mono hnew fun r s1 hr=>?_
 rcases r with e | fl
 . e hr
 cases fl with
 | ret obj =>
   o⟨hT,hck⟩:=hinit _ _ hr;h hli:=ft.init.lookup;h hbi:=ft.init.bind obj
   repeat (any_goals (first | assumption | wp_step))
   r codeAny_mono (codeAny_call_builtin (R:=wants (fun r s2=>r=.none∧Q obj s2) E) ft.init.plain hI (wpAny_mono (hck _) (fun _ s2 e=>by subst e;e hbody _ _ hr) fun _ _ h'=>h')) fun r2 s2 hr2=>?_
   rcases r2 with e | f2
   . e hr2
   cases f2 with
   | ret r =>
     o⟨rfl,hq⟩:=hr2
     repeat (any_goals (first | assumption | wp_step))
   | _=>e hr2.elim
 | _=>e hr.elim
þ u4 {l:Addr}{items:Array Value}{ss:List Str}{Q:Value→Shared→Prop}(hh:A.handled=none)(hl:s.heap.IsList l items)(hss:StrsAre items.toList ss)(hb:items.size+1 < scanBound)
   (h:∀ h' tk,(∀ b o,s.heap.get? b=some o→h'.get? b=some o)→h'.SetOf (strKind prog w) s.heap.objs.size (fun x=>decide (x∈dP ss)) (dP ss).length→Q (.ref s.heap.objs.size) { s with heap:=h',toks:=tk }) :
   wpAny (model prog w) A (call (.type "set") [.ref l]) Q E s:=by
 r l4 (Q1:=fun obj s1=>∃ led:Bool,obj=.ref s.heap.objs.size∧s1={ s with heap:=s.heap.push { cls:=.type "set",dict:=none,data:=.set #[] 0 (.fresh 0 0 led) } }) F.called_set (F.typeCall_set_1 _) F.entry_set_init (code_set_new_1 (.ref l) fun led=>⟨led,rfl,rfl⟩) ?_ ?_
 . rintro obj s1 ⟨led,rfl,rfl⟩;h hT:Shared.TypeIs { s with heap:=s.heap.push { cls:=.type "set",dict:=none,data:=.set #[] 0 (.fresh 0 0 led) } } (.ref s.heap.objs.size) "set":=⟨_,Heap.get?_push_size _ rfl,rfl⟩;e⟨hT,fun E'=>check_set_init_1 hT rfl⟩
 . rintro obj s1 ⟨led,rfl,rfl⟩
   h hlt:l < s.heap.objs.size:=by o⟨_,e,_⟩:=hl;e Heap.lt_size e
   o⟨⟨oc,od,odt,osl⟩,hol,hcl,nl,hdl⟩:=id hl;simp only at hcl hdl;subst hcl;subst hdl;h hol':(s.heap.push { cls:=.type "set",dict:=none,data:=.set #[] 0 (.fresh 0 0 led) }).get? l=some { cls:=.type "list",dict:=od,data:=.seq items nl,slots:=osl }:=Heap.get?_push_of_some _ hol;h hS:(s.heap.push { cls:=.type "set",dict:=none,data:=.set #[] 0 (.fresh 0 0 led) }).get? s.heap.objs.size=some { cls:=.type "set",dict:=none,data:=.set #[] 0 (.fresh 0 0 led) }:=Heap.get?_push_size _ rfl;h hl1:(s.heap.push { cls:=.type "set",dict:=none,data:=.set #[] 0 (.fresh 0 0 led) }).IsList l items:=⟨_,hol',rfl,nl,rfl⟩;h hsls:=F.sub_list_set;h hslf:=F.sub_list_frozenset
   h hne:(Value.type "list"==Value.type "dict")=false:=by decide
   unfold Builtin.«set.__init__» noKeywords Builtin.Frozenset.updateFrom;generalize hPI:pyIter=PI
   wp_walk
   subst hPI;r wpAny_pyIter_list hl1 (wpAny_bind (wpAny_runValue ?_));h hz:(s.heap.push { cls:=.type "set",dict:=none,data:=.set #[] 0 (.fresh 0 0 led) }).objs.size=s.heap.objs.size+1:=Heap.size_push ..;r uI (l:=l) (items:=items) (ss:=ss) (by simp[hh]) (by rw[hz];e z6 (A2 hlt)) (by rw[hz];e z6 (Bj _)) (BG hlt) hss hb (items.size - 0) 0 _ (by m) (AA _) ⟨_,Heap.get?_push_size _ rfl,rfl,rfl⟩ (hl1.push _) ?_ ?_
   . e SetOf_congr ((setObjOf_fresh (knd:=strKind prog w) led).setOf (Heap.get?_push_of_some _ hS) (by unfold scanBound;m)) (fun _=>rfl) rfl
   . intro h' tk kk hS';r wpAny_pure (wpAny_pure ⟨rfl,h h' tk (fun b o e=>?_) hS'⟩);h hlb:=Heap.lt_size e;e kk b o (z6 hlb) (by rw[hz];e z6 (A2 hlb)) (Heap.get?_push_of_some _ (Heap.get?_push_of_some _ e))
end
section
variable {prog:Program}{w:World}{A:Around}{E:Value→Shared→Prop}{s:Shared}
þ yg {a:Addr}{Q:Option Obj→Shared→Prop}(h:Q (s.heap.get? a) s):wpAny (model prog w) A (loadIfAlive a) Q E s:=fun Γ p _=>by
 show Sem.wp _ _ (.loadIfAlive a .pure) _ _ _ _;rw[Sem.wp_loadIfAlive];e h
abbrev mv (h:Heap)(z TI TO T0:Addr)(f1:Bool):Prop :=
 h.get? z=some { cls:=.type "zip",dict:=none,data:=.fields #[rawInt T0,.bool f1,.bool false,.ref TI,.ref TO],slots:=#[] }
þ rc {z TI TO T0:Addr}{f1:Bool}{Q:Bool→Shared→Prop}(hz:mv s.heap z TI TO T0 f1)(hT:∃ o,s.heap.get? T0=some o)
   (h:∀ h',mv h' z TI TO T0 true→(∀ b o,b≠z→s.heap.get? b=some o→h'.get? b=some o)→h'.objs.size=s.heap.objs.size→Q false { s with heap:=h' }) :
   wpAny (model prog w) A (Builtin.SmallTypes.ownedTupleIsFree (.ref z)) Q E s:=by
 o⟨o,ho⟩:=hT;unfold Builtin.SmallTypes.ownedTupleIsFree;r wpAny_bind (wpAny_field hz rfl (x:=rawInt T0) rfl ?_);show wpAny _ _ (loadIfAlive ((T0:Int)).toNat >>= _) _ _ _;rw[An];r wpAny_bind (yg ?_);rw[ho];show wpAny _ _ (if(false:Bool)=true then _ else _) _ _ _;rw[if_neg Bool.false_ne_true];r wpAny_bind (wpAny_field hz rfl (x:=.bool f1) rfl ?_)
 cases f1 with
 | true=>e wpAny_pure (h s.heap hz (fun _ _ _ e=>e) rfl)
 | false =>
   r wpAny_bind (wpAny_setField_rec hz (by simp) fun h' hz' hs'=>wpAny_pure (h h' hz' (fun b o hb e=>hs'.extBut _ _ hb e) hs'.1))
end
section
variable {prog:Program}{w:World}{A:Around}{E:Value→Shared→Prop}{s:Shared}
þ sJ {z TI TO T0 i1 i2 l1 l2:Addr}{f1:Bool}{k1 k2:Nat}{xs ys:Array Value}{x y:Value}{Q:Value→Shared→Prop}(D:ZipApart z TI TO i1 i2 l1 l2)
   (hz:mv s.heap z TI TO T0 f1)(hT:∃ o,s.heap.get? T0=some o)(hTI:IsPair s.heap TI (.ref i1) (.ref i2))
   (h1:s.heap.IsListIter i1 l1 k1)(h2:s.heap.IsListIter i2 l2 k2)(hl1:s.heap.IsList l1 xs)(hl2:s.heap.IsList l2 ys)(hx:xs[k1]?=some x)(hy:ys[k2]?=some y)
   (hQ:∀ h',mv h' z TI TO T0 true→h'.IsListIter i1 l1 (k1+1)→h'.IsListIter i2 l2 (k2+1)→IsPair h' s.heap.objs.size x y→h'.objs.size=s.heap.objs.size+1 →
     (∀ c o,c≠z→c≠i1→c≠i2→s.heap.get? c=some o→h'.get? c=some o)→Q (.ref s.heap.objs.size) { s with heap:=h' }) :
   wpAny (model prog w) A (Builtin.«zip.__next__» ⟨[.ref z],[]⟩) (fun fin s'=>∃ v,fin=.done (.ret v)∧Q v s') E s:=by
 show wpAny _ _ (field (.ref z) 2 >>= _) _ _ _;r wpAny_bind (wpAny_field hz rfl (x:=.bool false) rfl (show wpAny _ _ (field (.ref z) 3 >>= _) _ _ _ from wpAny_bind (wpAny_field hz rfl (x:=.ref TI) rfl (wpAny_bind (wpAny_seqItems hTI rfl ?_)))));show wpAny _ _ (Builtin.SmallTypes.ownedTupleIsFree (.ref z) >>= _) _ _ _;r wpAny_bind (rc hz hT fun ha hza ka hsa=>?_);simp only[Bool.false_eq_true,if_false,List.forIn_toArray,BS,List.forIn_nil];r wpAny_bind (wpAny_bind (wpAny_bind (wpAny_holding ?_)));h ea:ha.objs.size=s.heap.objs.size:=hsa;show wpAny _ _ (Builtin.SmallTypes.nextOf (.ref i1) >>= _) _ _ _;r wpAny_bind (wpAny_nextOf_list_item (h1.at fun o e=>ka _ o D.i1z e) (hl1.at fun o e=>ka _ o D.l1z e) hx fun hb hib sb=>wpAny_pure (wpAny_pure ?_));r wpAny_bind (wpAny_bind (wpAny_holding ?_));show wpAny _ _ (Builtin.SmallTypes.nextOf (.ref i2) >>= _) _ _ _;r wpAny_bind (wpAny_nextOf_list_item ((h2.at fun o e=>ka _ o D.i2z e).extBut sb.extBut D.i12.symm) ((hl2.at fun o e=>ka _ o D.l2z e).extBut sb.extBut D.l2i1) hy fun hc hic sc=>wpAny_pure (wpAny_pure (wpAny_pure ?_)));r wpAny_bind (wpAny_newTuple (wpAny_pure ⟨_,rfl,?_⟩) (by show 2≤sizeLine;rw[sizeLine_eq];decide))
 h ec:hc.objs.size=s.heap.objs.size:=by rw[sc.1,sb.1];e ea
 h kc:∀ c o,c≠z→c≠i1→c≠i2→s.heap.get? c=some o→hc.get? c=some o:=fun c o c1 c2 c3 e=>sc.extBut _ _ c3 (sb.extBut _ _ c2 (ka c o c1 e));show Q (.ref hc.objs.size) { s with heap:=hc.push { cls:=.type "tuple",data:=.seq #[x,y] } };rw[ec];h up:∀ b o,hc.get? b=some o→(hc.push { cls:=.type "tuple",data:=.seq #[x,y] }).get? b=some o:=fun b o e=>Heap.get?_push_of_some _ e;r hQ _ (up _ _ (sc.extBut _ _ D.i2z.symm (sb.extBut _ _ D.i1z.symm hza))) ((hib.extBut sc.extBut D.i12).at fun o e=>up _ o e) (hic.at fun o e=>up _ o e) ?_ (by rw[Heap.size_push,ec]) fun c o c1 c2 c3 e=>up _ _ (kc c o c1 c2 c3 e);have:=Heap.get?_push_size hc (o:={ cls:=.type "tuple",data:=.seq #[x,y] }) rfl
 rwa [ec] at this
þ uk {z TI TO T0 i1 i2 l1 l2:Addr}{f1:Bool}{k1 k2:Nat}{xs ys:Array Value}{Q:Fin→Shared→Prop}(hh:A.handled=none)(D:ZipApart z TI TO i1 i2 l1 l2)
   (hz:mv s.heap z TI TO T0 f1)(hT:∃ o,s.heap.get? T0=some o)(hTI:IsPair s.heap TI (.ref i1) (.ref i2))
   (h1:s.heap.IsListIter i1 l1 k1)(hl1:s.heap.IsList l1 xs)(hx:xs[k1]?=none)
   (hE:∀ h' e,(∀ c o,c≠z→c≠i1→s.heap.get? c=some o→h'.get? c=some o)→(∃ o,h'.get? e=some o∧o.cls=.type "StopIteration")→E (.ref e) { s with heap:=h' }) :
   wpAny (model prog w) A (Builtin.«zip.__next__» ⟨[.ref z],[]⟩) Q E s:=by
 show wpAny _ _ (field (.ref z) 2 >>= _) _ _ _;r wpAny_bind (wpAny_field hz rfl (x:=.bool false) rfl (show wpAny _ _ (field (.ref z) 3 >>= _) _ _ _ from wpAny_bind (wpAny_field hz rfl (x:=.ref TI) rfl (wpAny_bind (wpAny_seqItems hTI rfl ?_)))));show wpAny _ _ (Builtin.SmallTypes.ownedTupleIsFree (.ref z) >>= _) _ _ _;r wpAny_bind (rc hz hT fun ha hza ka hsa=>?_);simp only[Bool.false_eq_true,if_false,List.forIn_toArray,BS,List.forIn_nil];r wpAny_bind (wpAny_bind (wpAny_bind (wpAny_holding ?_)));show wpAny _ _ (Builtin.SmallTypes.nextOf (.ref i1) >>= _) _ _ _;r wpAny_bind (wpAny_nextOf_list_end hh (h1.at fun o e=>ka _ o D.i1z e) (hl1.at fun o e=>ka _ o D.l1z e) hx fun hb e kb he=>?_);e hE hb e (fun c o c1 c2 x=>kb _ _ c2 (ka c o c1 x)) he
þ pQ {z TI TO T0 i1 i2 l1 l2:Addr}{f1:Bool}{k1 k2:Nat}{xs ys:Array Value}{x y:Value}{Q:Option Value→Shared→Prop}(D:ZipApart z TI TO i1 i2 l1 l2)
   (hz:mv s.heap z TI TO T0 f1)(hT:∃ o,s.heap.get? T0=some o)(hTI:IsPair s.heap TI (.ref i1) (.ref i2))
   (h1:s.heap.IsListIter i1 l1 k1)(h2:s.heap.IsListIter i2 l2 k2)(hl1:s.heap.IsList l1 xs)(hl2:s.heap.IsList l2 ys)(hx:xs[k1]?=some x)(hy:ys[k2]?=some y)
   (hQ:∀ h',mv h' z TI TO T0 true→h'.IsListIter i1 l1 (k1+1)→h'.IsListIter i2 l2 (k2+1)→IsPair h' s.heap.objs.size x y→h'.objs.size=s.heap.objs.size+1 →
     (∀ c o,c≠z→c≠i1→c≠i2→s.heap.get? c=some o→h'.get? c=some o)→Q (§s.heap.objs.size) { s with heap:=h' }) :
   wpAny (model prog w) A (pyNext (.ref z)) Q E s:=by
 h hTy:s.TypeIs (.ref z) "zip":=⟨_,hz,rfl⟩;unfold pyNext
 e wpAny_bind (wpAny_attempt (wpAny_callSpecial?_slot (name:=¶"__next__") hTy F.slot_zip_next (wpAny_call_entry F.slot_zip_next hTy F.entry_zip_next
     (sJ D hz hT hTI h1 h2 hl1 hl2 hx hy fun h' a1 a2 a3 a4 a5 a6=>wpAny_pure (hQ h' a1 a2 a3 a4 a5 a6)) (F.args_zip_next_1 _))))
þ sV {z TI TO T0 i1 i2 l1 l2:Addr}{f1:Bool}{k1:Nat}{xs:Array Value}{Q:Option Value→Shared→Prop}(hh:A.handled=none)(D:ZipApart z TI TO i1 i2 l1 l2)
   (hz:mv s.heap z TI TO T0 f1)(hT:∃ o,s.heap.get? T0=some o)(hTI:IsPair s.heap TI (.ref i1) (.ref i2))(h1:s.heap.IsListIter i1 l1 k1)(hl1:s.heap.IsList l1 xs)(hx:xs[k1]?=none)
   (hQ:∀ h',(∀ c o,c≠z→c≠i1→s.heap.get? c=some o→h'.get? c=some o)→Q none { s with heap:=h' }):wpAny (model prog w) A (pyNext (.ref z)) Q E s:=by
 h hTy:s.TypeIs (.ref z) "zip":=⟨_,hz,rfl⟩;unfold pyNext
 r wpAny_bind (wpAny_attempt (wpAny_callSpecial?_slot (name:=¶"__next__") hTy F.slot_zip_next (wpAny_call_entry F.slot_zip_next hTy F.entry_zip_next
   (uk (k2:=0) (ys:=#[]) hh D hz hT hTI h1 hl1 hx fun h' e hk he=>?_) (F.args_zip_next_1 _))))
 o⟨o,ho,hc⟩:=he;e wpAny_bind (wpAny_isInstance (T:="StopIteration") (b:=true) ⟨o,ho,hc⟩ isSubtype_stop (wpAny_pure (hQ _ hk)))
end
þ jm:typeLookup (.type "zip") "__getattr__"=pure none:=by rw[typeLookup_type,builtinLookup_eq_fast];kernel_rfl
þ nv:typeLookup (.type "zip") "keys"=pure none:=by rw[typeLookup_type,builtinLookup_eq_fast];kernel_rfl
þ gC:entryFor table "dict.update.loop"=some Builtin.«dict.update.loop»:=entryFor_of_tree (by kernel_rfl)
þ dE:plainId "dict.update.loop"=true:=by d
þ nP:entryFor table "zip.__getattribute__"=some Builtin.«object.__getattribute__»:=entryFor_alias (id':="object.__getattribute__") (by kernel_rfl) (by d) (by d) (by kernel_rfl)
section
variable {prog:Program}{w:World}{A:Around}{E:Value→Shared→Prop}{s:Shared}
þ qL {z TI TO:Addr}{f0:Value}{Q:Option Value→Shared→Prop}(hh:A.handled=none)(hz:IsZip s.heap z TI TO f0)
   (h:∀ h' tk,(∀ b o,s.heap.get? b=some o→h'.get? b=some o)→Q none { s with heap:=h',toks:=tk }):wpAny (model prog w) A (getAttr? (.ref z) "keys") Q E s:=by
 h f1:=sub_AttributeError;h f3:=F.slot_zip_getattribute.lookup;h f4:=F.slot_zip_getattribute.bind (.ref z);h f5:=jm;h f6:=nv;o⟨hp,g,d,tk,os⟩:=s;h hT:Shared.TypeIs ⟨hp,g,d,tk,os⟩ (.ref z) "zip":=⟨_,hz,rfl⟩;unfold getAttr? getAttrBy? getAttrBy
 repeat (any_goals (first | assumption | wp_step))
 r codeAny_call_builtin F.slot_zip_getattribute.plain nP (F.slot_zip_getattribute.check _ _ _ _ _ _ _ _ ⟨_,hz,rfl⟩ (F.args_zip_getattribute_2 _ _) ?_);unfold Builtin.«object.__getattribute__»
 repeat (any_goals (first | assumption | wp_step))
 r wpAny_raiseAttrError (by simpa using hh) (fun h' tk' e hx=>?_) (attrMsg_fits (by d) (by rw[sizeLine_eq];d));o⟨t',u',he⟩:=hx.there;show wpAny _ _ (getattributeRaised _ _ _ _ _ _ _) _ _ _;unfold getattributeRaised
 repeat (any_goals (first | assumption | wp_step))
 e h h' tk' hx.keeps
þ qV {T:Addr}{x y:Value}{Q:List Value→Shared→Prop}(hT:IsPair s.heap T x y)(h:Q [x,y] s):wpAny (model prog w) A (Builtin.Dict.pairItems (.ref T)) Q E s:=by
 unfold Builtin.Dict.pairItems;r wpAny_bind (wpAny_typeOf (T:="tuple") ⟨_,hT,rfl⟩ ?_);rw[if_pos (by decide)];e wpAny_bind (wpAny_seqItems hT rfl (wpAny_pure h))
noncomputable def kh (h:Heap)(z TI TO:Addr):Prop:=IsZip h z TI TO .none∨∃ T0 f1,mv h z TI TO T0 f1∧(∃ o,h.get? T0=some o)∧T0≠z
þ wU {z TI TO i1 i2 l1 l2:Addr}{k1 k2:Nat}{xs ys:Array Value}{x y:Value}{Q:Option Value→Shared→Prop}(D:ZipApart z TI TO i1 i2 l1 l2)
   (hz:kh s.heap z TI TO)(hTI:IsPair s.heap TI (.ref i1) (.ref i2))(hTO:∃ a b,IsPair s.heap TO a b)
   (h1:s.heap.IsListIter i1 l1 k1)(h2:s.heap.IsListIter i2 l2 k2)(hl1:s.heap.IsList l1 xs)(hl2:s.heap.IsList l2 ys)(hx:xs[k1]?=some x)(hy:ys[k2]?=some y)
   (hQ:∀ h' T,kh h' z TI TO→(∃ a b,IsPair h' TO a b)→h'.IsListIter i1 l1 (k1+1)→h'.IsListIter i2 l2 (k2+1)→IsPair h' T x y →
     (∀ c o,c≠z→c≠TO→c≠i1→c≠i2→s.heap.get? c=some o→h'.get? c=some o)→s.heap.objs.size≤T→Q (§T) { s with heap:=h' }) :
   wpAny (model prog w) A (pyNext (.ref z)) Q E s:=by
 o⟨a,b,hTO⟩:=hTO
 rcases hz with hz | ⟨T0,f1,hz,hT0,hne⟩
 . r wpAny_pyNext_zip_item D hz hTI hTO h1 h2 hl1 hl2 hx hy fun h' a1 a2 a3 a4 a5 a6 a7=>?_;e hQ h' _ (.inr ⟨_,_,a1,⟨_,a5⟩,BG (Heap.lt_size hz)⟩) ⟨_,_,a2⟩ a3 a4 a5 a7 (zN _)
 . r pQ D hz hT0 hTI h1 h2 hl1 hl2 hx hy fun h' a1 a2 a3 a4 a5 a6=>?_;h hTO':IsPair h' TO a b:=a6 _ _ D.TOz D.TOi1 D.TOi2 hTO
   h hT0':∃ o,h'.get? T0=some o:=by
     o⟨o,ho⟩:=hT0;by_cases e1:T0=i1
     . subst e1;o⟨o',e',_⟩:=a2;e⟨o',e'⟩
     . by_cases e2:T0=i2
       . subst e2;o⟨o',e',_⟩:=a3;e⟨o',e'⟩
       . e⟨o,a6 _ _ hne e1 e2 ho⟩
   e hQ h' _ (.inr ⟨_,_,a1,hT0',hne⟩) ⟨_,_,hTO'⟩ a2 a3 a4 (fun c o c1 _ c3 c4 e=>a6 c o c1 c3 c4 e) (zN _)
þ yA {z TI TO i1 i2 l1 l2:Addr}{k1 k2:Nat}{xs ys:Array Value}{Q:Option Value→Shared→Prop}(hh:A.handled=none)(D:ZipApart z TI TO i1 i2 l1 l2)
   (hz:kh s.heap z TI TO)(hTI:IsPair s.heap TI (.ref i1) (.ref i2))(hTO:∃ a b,IsPair s.heap TO a b)
   (h1:s.heap.IsListIter i1 l1 k1)(h2:s.heap.IsListIter i2 l2 k2)(hl1:s.heap.IsList l1 xs)(hl2:s.heap.IsList l2 ys)(hx:xs[k1]?=none)
   (hQ:∀ h',(∀ c o,c≠z→c≠TO→c≠i1→c≠i2→s.heap.get? c=some o→h'.get? c=some o)→Q none { s with heap:=h' }):wpAny (model prog w) A (pyNext (.ref z)) Q E s:=by
 o⟨a,b,hTO⟩:=hTO
 rcases hz with hz | ⟨T0,f1,hz,hT0,hne⟩
 . e wpAny_pyNext_zip_end hh D hz hTI hTO h1 h2 hl1 hl2 (.inl hx) hQ
 . e sV hh D hz hT0 hTI h1 hl1 hx fun h' k=>hQ h' fun c o c1 _ c3 _ e=>k c o c1 c3 e
þ kh.keep {h h':Heap}{z TI TO d:Addr}(hz:kh h z TI TO)(hd:d≠z)(hs:Heap.SameBut d h h')(hde:∃ o,h'.get? d=some o):kh h' z TI TO:=by
 rcases hz with hz | ⟨T0,f1,hz,⟨o,ho⟩,hne⟩
 . e .inl (hs.extBut _ _ (Ne.symm hd) hz)
 . r .inr ⟨T0,f1,hs.extBut _ _ (Ne.symm hd) hz,?_,hne⟩;by_cases e:T0=d
   . subst e;e hde
   . e⟨o,hs.extBut _ _ e ho⟩
end
section
variable {prog:Program}{w:World}{κ:Type} [DecidableEq κ]{knd:KeyKind prog w κ}
þ wZ {A:Around}{R:Result→Shared→Prop}{d z TI TO i1 i2 l1 l2:Addr}{xs ys:Array Value}{ks:List κ}(hh:A.in1.handled=none)(D:ZipApart z TI TO i1 i2 l1 l2)(hdz:d≠z)(hdTI:d≠TI)(hdTO:d≠TO)(hd1:d≠i1)(hd2:d≠i2)(hdl1:d≠l1)(hdl2:d≠l2)
   (hks:∀ (i:Nat) x,xs[i]?=some x→∃ k,ks[i]?=some k∧knd.is k x=true)(hxy:xs.size=ys.size)(hkl:ks.length=xs.size)(hsz:xs.size≤1000) :
   ∀ (n i:Nat)(s:Shared),xs.size - i=n→i≤xs.size→kh s.heap z TI TO→IsPair s.heap TI (.ref i1) (.ref i2)→(∃ a b,IsPair s.heap TO a b)→s.heap.IsListIter i1 l1 i→s.heap.IsListIter i2 l2 i→s.heap.IsList l1 xs→s.heap.IsList l2 ys →
     (∃ kvs,kvs.length≤i∧s.heap.DictOf knd d kvs∧kvs=merged [] ((ks.zip ys.toList).take i)) →
     (∀ h' tk,(∀ c o,c≠d→c≠z→c≠TO→c≠i1→c≠i2→s.heap.get? c=some o→h'.get? c=some o)→h'.DictOf knd d (merged [] (ks.zip ys.toList))→R (.ok (.ret .none)) { s with heap:=h',toks:=tk }) →
     codeAny (model prog w) A (.builtin "dict.update.loop" ⟨[.ref d,.ref z,rawInt i,.none],[]⟩) R s:=by
 intro n
 induction n with
 | zero =>
   intro i s hn hi hz hTI hTO h1 h2 hl1 hl2 hD hR
   h e:i=xs.size:=by m
   r codeAny_builtin gC ?_;rw[Around.under_plainId dE _];show wpAny _ A.in1 (pyNext (.ref z) >>= _) _ _ s;r wpAny_bind (yA hh D hz hTI hTO h1 h2 hl1 hl2 (by rw[e];simp) fun h' kk=>?_);o⟨kvs,hkl',hdd,rfl⟩:=hD;h et:(ks.zip ys.toList).take i=ks.zip ys.toList:=AC (by rw[Bq,hkl,e];e Nat.min_le_left _ _);rw[et] at hdd;r wpAny_bind (wpAny_pure (wpAny_pure (hR h' s.toks (fun c o _ c1 c2 c3 c4 e=>kk c o c1 c2 c3 c4 e) ?_)));o⟨o,es,ep,ho,cD⟩:=hdd;e⟨o,es,ep,kk _ _ hdz hdTO hd1 hd2 ho,cD⟩
 | succ n ih =>
   intro i s hn hi hz hTI hTO h1 h2 hl1 hl2 hD hR
   h hlt:i < xs.size:=by m
   h hlt2:i < ys.size:=by m
   r codeAny_builtin gC ?_;rw[Around.under_plainId dE _];show wpAny _ A.in1 (pyNext (.ref z) >>= _) _ _ s;r wpAny_bind (wU D hz hTI hTO h1 h2 hl1 hl2 (z7 hlt) (z7 hlt2) fun h' T a1 a2 a3 a4 a5 a6 a7=>?_);o⟨k,hk,hkis⟩:=hks i _ (z7 hlt);o⟨kvs,hkl',hdd,ekv⟩:=hD
   h hdd':h'.DictOf knd d kvs:=by
     o⟨o,es,ep,ho,cD⟩:=hdd;e⟨o,es,ep,a6 _ _ hdz hdTO hd1 hd2 ho,cD⟩
   r wpAny_bind (wpAny_holding (wpAny_bind (wpAny_tryCatch (qV a5 ?_))));r wpAny_holding (wpAny_dictSet_pairs hkis hdd' (fun h2' hdd2 sb=>?_) (by rw[sizeLine_eq];m))
   h hde:∃ o,h2'.get? d=some o:=by o⟨o,es,ep,ho,_⟩:=hdd2;e⟨o,ho⟩
   h up:∀ b o,b≠d→h'.get? b=some o→h2'.get? b=some o:=fun b o hb e=>sb.extBut _ _ hb e
   h es:(ks.zip ys.toList).take (i+1)=(ks.zip ys.toList).take i++[(k,ys[i])]:=by
     h hzi:(ks.zip ys.toList)[i]?=some (k,ys[i]):=List.getElem?_zip_eq_some.mpr ⟨hk,by simp[hlt2]⟩;rw[Bs,hzi];rfl
   h hst:(stored kvs k ys[i]).length≤kvs.length+1:=by
     unfold stored
     split
     . rw[be];m
     . rw[zL];simp
   r wpAny_pure ⟨plainId_quiet dE _,?_⟩
   h ei:(i:Int)+1=((i+1:Nat):Int):=by m
   show codeAny (model prog w) A (.builtin "dict.update.loop" ⟨[.ref d,.ref z,rawInt ((i:Int)+1),.none],[]⟩) R _;rw[ei]
   r ih (i+1) _ (by m) hlt (a1.keep hdz sb hde) (up _ _ (Ne.symm hdTI) (a6 _ _ D.TIz D.TITO D.TIi1 D.TIi2 hTI)) ?_ (a3.at fun o e=>up _ o (Ne.symm hd1) e) (a4.at fun o e=>up _ o (Ne.symm hd2) e) (hl1.at fun o e=>up _ o (Ne.symm hdl1) (a6 _ o D.l1z D.l1TO D.l1i1 D.l1i2 e))
     (hl2.at fun o e=>up _ o (Ne.symm hdl2) (a6 _ o D.l2z D.l2TO D.l2i1 D.l2i2 e)) ⟨_,by m,hdd2,?_⟩ fun h3 tk kk hd3=>?_
   . o⟨a,b,e⟩:=a2;e⟨a,b,up _ _ (Ne.symm hdTO) e⟩
   . rw[es,ekv];unfold merged;rw[Cb];rfl
   . e hR h3 tk (fun c o c0 c1 c2 c3 c4 e=>kk c o c0 c1 c2 c3 c4 (up _ _ c0 (a6 c o c1 c2 c3 c4 e))) hd3
þ tV {A:Around}{E:Value→Shared→Prop}{s:Shared}{Q:Value→Shared→Prop}{z TI TO i1 i2 l1 l2:Addr}{xs ys:Array Value}{ks:List κ}(hh:A.handled=none)(D:ZipApart z TI TO i1 i2 l1 l2)(hz:IsZip s.heap z TI TO .none)
   (hTI:IsPair s.heap TI (.ref i1) (.ref i2))(hTO:∃ a b,IsPair s.heap TO a b)(h1:s.heap.IsListIter i1 l1 0)(h2:s.heap.IsListIter i2 l2 0)(hl1:s.heap.IsList l1 xs)(hl2:s.heap.IsList l2 ys)
   (hks:∀ (i:Nat) x,xs[i]?=some x→∃ k,ks[i]?=some k∧knd.is k x=true)(hxy:xs.size=ys.size)(hkl:ks.length=xs.size)(hsz:xs.size≤1000)
   (h:∀ h' tk,(∀ c o,c≠z→c≠TO→c≠i1→c≠i2→s.heap.get? c=some o→h'.get? c=some o)→h'.DictOf knd s.heap.objs.size (merged [] (ks.zip ys.toList))→Q (.ref s.heap.objs.size) { s with heap:=h',toks:=tk }) :
   wpAny (model prog w) A (call (.type "dict") [.ref z]) Q E s:=by
 r callType_codes (Q₁:=fun obj s₁=>obj=.ref s.heap.objs.size∧s₁={ s with heap:=s.heap.push { cls:=.type "dict",data:=.dict #[] } }) F.kt_called_dict (F.kt_typeCall_dict_1 _) F.entry_dict_init (kt_code_dict_new _ ⟨rfl,rfl⟩) ?_;rintro obj s1 ⟨rfl,rfl⟩;h hnew:(s.heap.push { cls:=.type "dict",data:=.dict #[] }).DictOf knd s.heap.objs.size []:=Heap.DictOf.new s.heap;h up:∀ b o,s.heap.get? b=some o→(s.heap.push { cls:=.type "dict",data:=.dict #[] }).get? b=some o:=fun b o e=>Heap.get?_push_of_some _ e;h lt:∀ {b o},s.heap.get? b=some o→s.heap.objs.size≠b:=fun e=>BG (Heap.lt_size e);r⟨hnew.typeIs,F.args_dict_init_2 _ _,?_⟩;unfold Builtin.«dict.__init__»;r wpAny_bind ?_;unfold Builtin.Dict.selfAndRest;r wpAny_bind (wpAny_notOrdered_dict hnew.typeIs (show wpAny _ _ (pure (s.heap.objs.size,[Value.ref z])) _ _ _ from wpAny_pure ?_));show wpAny _ _ (Builtin.Dict.updateFrom "dict.__init__" s.heap.objs.size (.ref z) [] .none) _ _ _;unfold Builtin.Dict.updateFrom;r wpAny_bind (wpAny_typeOf (T:="zip") ⟨_,up _ _ hz,rfl⟩ ?_);rw[if_pos (by decide)];r wpAny_bind (qL (by simpa using hh) (up _ _ hz) fun h' tk kk=>?_);h kz:IsZip h' z TI TO .none:=kk _ _ (up _ _ hz);rw[if_pos (by rfl)];r wpAny_bind (wpAny_rule (wpAny_bind (wpAny_pyIter_zip kz (wpAny_pure ⟨plainId_quiet dE _,?_⟩))));o⟨a,b,hTO⟩:=hTO;h e1:=h1;h e2:=h2;h e3:=hl1;h e4:=hl2;o⟨o1,ho1,_⟩:=e1;o⟨o2,ho2,_⟩:=e2;o⟨o3,ho3,_⟩:=e3;o⟨o4,ho4,_⟩:=e4
 r wZ (A:=A.in1) (knd:=knd) (ks:=ks) (by simpa using hh) D (lt hz) (lt hTI) (lt hTO) (lt ho1) (lt ho2) (lt ho3) (lt ho4) hks hxy hkl hsz (xs.size - 0) 0 _ (by m) (AA _) (.inl kz) (kk _ _ (up _ _ hTI)) ⟨a,b,kk _ _ (up _ _ hTO)⟩
   (h1.at fun o e=>kk _ o (up _ o e)) (h2.at fun o e=>kk _ o (up _ o e)) (hl1.at fun o e=>kk _ o (up _ o e)) (hl2.at fun o e=>kk _ o (up _ o e)) ⟨[],zN _,?_,rfl⟩ fun h3 tk3 k3 hd3=>?_
 . o⟨o,es,ep,ho,cD⟩:=hnew;e⟨o,es,ep,kk _ _ ho,cD⟩
 . e⟨rfl,h h3 tk3 (fun c o c1 c2 c3 c4 e=>k3 c o (Ne.symm (lt e)) c1 c2 c3 c4 (kk _ _ (up _ _ e))) hd3⟩
end
noncomputable def xV (P:Program)(w:World)(p:Addr) (n:Nat):HO:=.ext fun h=>∃ S,h.SetOf (strKind P w) p S n
þ SetOf.at_ {P:Program}{w:World}{h1 h2:Heap}{p:Addr}{n:Nat}(x:∃ S,h1.SetOf (strKind P w) p S n)(k:∀ o,h1.get? p=some o→h2.get? p=some o):∃ S,h2.SetOf (strKind P w) p S n:=by
 o⟨S,o,es,ep,t,ho,r⟩:=x;e⟨S,o,es,ep,t,k _ ho,r⟩
section
variable {X:Cx}
þ oV (hc:X.calm=true):cv X (.type "set") (fun xs H Q=>∃ (a:Addr)(ss:List Str),xs=[.ref a]∧SqL X.K H a (ss.map V.str)∧ss.length≤1000∧∀ p,H p=none→Q (.ref p) (upd H p (xV X.prog X.w p (dP ss).length))):=by
 intro pins s σ H xs us Q I r h;o⟨a,ss,rfl,ha,hn,q⟩:=h;o⟨u,rfl,ru⟩:=eA r;cases ru;o⟨its,rv,pl,_⟩:=I.list ha;h hl:=rv.length;rw[be] at hl;r u4 (I.ok.hd hc) pl.isList (by simpa using gJ rv) (by rw[zW];unfold scanBound;m) fun h' tk kk hS=>?_
 h he:∃ o,h'.get? s.heap.objs.size=some o:=by o⟨o,_,_,_,e,_⟩:=hS;e⟨o,e⟩
 e⟨.ref s.heap.objs.size,_,I.laid (o:=xV X.prog X.w s.heap.objs.size (dP ss).length) kk (zN _) ⟨⟨_,hS⟩,he,fun h1 h2 x k=>SetOf.at_ x k⟩,rfl,q _ (I.hok.fresh (zN _))⟩
þ lg:cv X (.builtin "len") (fun xs H Q=>∃ p n,xs=[V.ref p]∧H p=some (xV X.prog X.w p n)∧Q (.int (n:Nat)) H):=by
 intro pins s σ H xs us Q I r h;o⟨p,n,rfl,hp,q⟩:=h;o⟨u,rfl,ru⟩:=eA r;cases ru;o⟨⟨S,o,es,ep,t,ho,hex,hd,_,_,hb,hf,hn⟩,_⟩:=I.hok p _ hp
 h hfit:(es.size:Int) < 2 ^ 63:=by
   unfold scanBound at hb;m
 r call_len_set ho hex hd hf hfit ?_;rw[hn];e⟨.int n,H,I.tok _,⟨_,rfl⟩,q⟩
noncomputable def cb (ks:List Str)(vs:List V):List (Key×V):=(ks.map fun k=>(Sum.inr k:Key)).zip vs
þ wb:∀ {ks:List Key}{vs:List V}{us:List Value},Vals vs us→KV (ks.zip vs) (ks.zip us)
 | [],_,_,_=>by simp;e .nil
 | _::_,_,_,.nil=>by simp;e .nil
 | k::ks,_,_,.cons r t=>by
   rw[A1,A1];e .cons ⟨rfl,r⟩ (wb t)
noncomputable def jW (K:PySem.W.Frag)(ta:TA):TE:=fun σ H Q=>ta σ H fun xs H1=>∃ (l1 l2:Addr)(ks:List Str)(vs:List V),xs=[.ref l1,.ref l2]∧SqL K H1 l1 (ks.map V.str)∧SqL K H1 l2 vs∧ks.length=vs.length∧ks.length≤1000 ∧
 ∀ p,H1 p=none→Q (.ref p) (upd H1 p (.dK (cO [] (cb ks vs))))
þ j8 {a b:Expr}{ta:TA}{p pos p' pos':Pos}(hc:X.calm=true)(hgd:Gl X "dict")(hmd:X.mg "dict"=none)(hgz:Gl X "zip")(hmz:X.mg "zip"=none)(ha:PA X [a,b] ta)
   (hs:starEach [a,b] X.env=(false,eval a X.env)::starEach [b] X.env:=by rfl)(hpl:(backTo pos' (starEach [b] X.env)).any (·.1)=false:=by rfl)
   (hs2:starEach [.Call (.Name "zip" p') [a,b] [] pos'] X.env=(false,eval (.Call (.Name "zip" p') [a,b] [] pos') X.env)::starEach [] X.env:=by rfl) :
   PE X (.Call (.Name "dict" p) [.Call (.Name "zip" p') [a,b] [] pos'] [] pos) (jW X.K ta):=by
 intro pins s σ H Q I h;r wpAny_Call_Name_kw (ir I hgd hmd (u:=.type "dict") (by d) ?_);r A6 ?_ hs2 rfl;rw[hs2];show wpAny _ _ (spliced ((false,eval (.Call (.Name "zip" p') [a,b] [] pos') X.env)::backTo pos [])) _ _ s;r Calls.spliced_cons ?_;r wpAny_Call_Name_kw (ir I hgz hmz (u:=.type "zip") (by d) ?_);r A6 (thn (ha pos' s σ H _ I h) fun us s1 ⟨xs,H1,I1,r1,q1⟩=>?_) hs hpl;o⟨l1,l2,ks,vs,rfl,h1,h2,hkv,hk,q⟩:=q1;o⟨u1,u2,rfl,e1,e2⟩:=r1.two;cases e1;cases e2;o⟨i1,v1,p1,z1⟩:=I1.list h1;o⟨i2,v2,p2,z2⟩:=I1.list h2;h n1:=v1.length;h n2:=v2.length;rw[be] at n1
 h lt1:l1 < s1.heap.objs.size:=by o⟨_,_,e,_⟩:=p1;e Heap.lt_size e
 h lt2:l2 < s1.heap.objs.size:=by o⟨_,_,e,_⟩:=p2;e Heap.lt_size e
 r call_zip_2 p1.isList p2.isList fun h' a1 a2 a3 a4 a5 a6 kk=>?_;r Calls.spliced_nil ?_;h I2:Inv X pins σ H1 { s1 with heap:=h' }:=I1.kept (t':=s1.toks) kk;h hfr:H1 h'.objs.size=none:=I2.hok.fresh (zN _);r tV (s:={ s1 with heap:=h' }) (knd:=bL X.prog X.w) (ks:=ks.map fun k=>(Sum.inr k:Key)) (I1.ok.hd hc) (zipApart_new lt1 lt2) a1 a2 ⟨_,_,a3⟩ a4 a5 (p1.isList.at fun o e=>kk _ o e) (p2.isList.at fun o e=>kk _ o e) ?_ (by simp;m) (by simp;m) (by simp;m) fun h3 tk k3 hd3=>?_
 . intro i x hx
   h hx':i1[i]?=some x:=by simpa using hx
   h hi:i < ks.length:=by rw[n1];e(List.getElem?_eq_some_iff.mp hx').1
   o⟨u,hu,ru⟩:=v1.get (i:=i) (x:=V.str ks[i]) (by rw[zK,zJ hi];rfl);rw[hx'] at hu;cases hu;o⟨t,rfl⟩:=ru;e⟨Sum.inr ks[i],by rw[zK,zJ hi];rfl,i9 _ _ _ _⟩
 . h he:∃ o,h3.get? h'.objs.size=some o:=by o⟨o,_,_,e,_⟩:=hd3;e⟨o,e⟩
   h big:sysModules < h'.objs.size:=I2.big;h rel:KV (cO [] (cb ks vs)) (merged [] ((ks.map fun k=>(Sum.inr k:Key)).zip i2.toArray.toList)):=KV.merge (wb (by simpa using v2)) .nil
   h hz:(cO [] (cb ks vs)).length≤sizeLine:=by
     have:=eG (cb ks vs) []
     h l:(cb ks vs).length≤ks.length:=by unfold cb;rw[Bq,be];e Nat.min_le_left _ _
     rw[BR] at this;rw[sizeLine_eq];m
   h kall:∀ b o,s1.heap.get? b=some o→h3.get? b=some o:=fun b o e=>by
     h hlt:=Heap.lt_size e;e k3 b o (z6 (z9 hlt (Ch _ _))) (z6 (z9 hlt (Ch _ _))) (z6 hlt) (z6 (z9 hlt (Ch _ _))) (kk b o e)
   h hsz:s1.heap.objs.size≤h'.objs.size:=by rw[a6];m
   h I3:=I1.laid (a:=h'.objs.size) (o:=.dK (cO [] (cb ks vs))) (h':=h3) (t':=tk) kall hsz (ma hz (beq_eq_false_iff_ne.mpr (Ne.symm (z6 big))) rel hd3);e⟨.ref h'.objs.size,_,I3,rfl,q _ hfr⟩
end
noncomputable def leS (a b:Str):Prop:=ltCps b.cps.toList a.cps.toList=false
þ rT {a b:Str}:leS a b↔¬b.cps.toList < a.cps.toList:=by unfold leS;rw[ltCps_eq];simp
þ ul {a b:Str}(h1:leS a b)(h2:leS b a):a=b:=by
 rw[rT] at h1 h2
 h e:a.cps.toList=b.cps.toList:=by
   h h1':a.cps.toList≤b.cps.toList:=h1;h h2':b.cps.toList≤a.cps.toList:=h2;e List.le_antisymm h1' h2'
 h e2:a.cps=b.cps:=Array.toList_inj.mp e;cases a;cases b;simp only at e2;rw[e2]
þ sF {a b c:Str}(h1:leS a b)(h2:leS b c):leS a c:=by
 rw[rT] at h1 h2 ⊢;h h1':a.cps.toList≤b.cps.toList:=h1;h h2':b.cps.toList≤c.cps.toList:=h2;e List.le_trans h1' h2'
þ gY:∀ (p:Str)(l:List Str),risingS p l=true→(p::l).Pairwise leS
 | p,[],_=>Bl _ _
 | p,x::r,h=>by
   h h':(!ltCps x.cps.toList p.cps.toList&&risingS x r)=true:=h;rw[Bool.and_eq_true] at h';h ih:=gY x r h'.2
   h hpx:leS p x:=by unfold leS;simpa using h'.1
   r List.pairwise_cons.mpr ⟨fun y hy=>?_,ih⟩
   rcases List.mem_cons.mp hy with e | hy
   . subst e;e hpx
   . e sF hpx ((List.pairwise_cons.mp ih).1 y hy)
þ hU:∀ (l:List Str),sortedS l=true→l.Pairwise leS
 | [],_=>List.Pairwise.nil
 | x::r,h=>gY x r h
þ cA {a b:List Str}(ha:sortedS a=true)(hb:sortedS b=true)(h:a.Perm b):a=b :=
 List.Perm.eq_of_pairwise (fun x y _ _ h1 h2=>ul h1 h2) (hU a ha) (hU b hb) h
þ jg:∀ {l:List Value}{ks:List Str},l.length=ks.length→(∀ (i:Nat) v,l[i]?=some v→∃ x t,ks[i]?=some x∧v=.str x t)→StrsAre l ks
 | [],[],_,_=>.nil
 | [],_::_,h,_=>by simp at h
 | _::_,[],h,_=>by simp at h
 | v::l,k::ks,h,hv=>by
   o⟨x,t,hx,e⟩:=hv 0 v rfl;simp at hx;subst hx e;e .cons _ t (jg (by simpa using h) fun i u hu=>by simpa using hv (i+1) u (by simpa using hu))
section
variable {X:Cx}
þ fe:cv X (.builtin "sorted") (fun xs H Q=>∃ (a:Addr)(ss:List Str),xs=[.ref a]∧SqL X.K H a (ss.map V.str)∧ss.length < 64∧∀ p ss',H p=none→ss'.Perm ss→sortedS ss'=true→Q (.ref p) (upd H p (.lst (ss'.map V.str)))):=by
 intro pins s σ H xs us Q I r h;o⟨a,ss,rfl,ha,hn,q⟩:=h;o⟨u,rfl,ru⟩:=eA r;cases ru;o⟨its,rv,pl,_⟩:=I.list ha;h hl:=rv.length;rw[be] at hl;r sorted_strs pl.isList (gJ rv) (by m) fun out ss' a1 a2 a3=>?_;o⟨e,he⟩:=sortedAll_at s.heap its out;h hp:=a2.length_eq;r⟨.ref (s.heap.objs.size+1),_,I.laid (o:=.lst (ss'.map V.str)) (t':=s.toks) (fun b o x=>sortedAll_old x) (Cp _) ⟨by rw[be,sizeLine_eq];m,out.toList,e,iO a1,he⟩,rfl,q _ ss' (I.hok.fresh (Cp _)) a2 a3⟩
þ dW (hc:X.calm=true):cv X (.builtin "sorted") (fun xs H Q=>∃ (d:Addr)(ks:List Str)(kvs:List (Key×V)),xs=[.ref d]∧Rd H d (.dK kvs)∧kvs.map (·.1)=ks.map Sum.inr∧ks.length < 64∧∀ p ss',H p=none→ss'.Perm ks→sortedS ss'=true→Q (.ref p) (upd H p (.lst (ss'.map V.str)))):=by
 intro pins s σ H xs us Q I r h;o⟨d,ks,kvs,rfl,hd,hk,hn,q⟩:=h;o⟨u,rfl,ru⟩:=eA r;cases ru;o⟨z,lo,vs,rel,dd⟩:=jj I.hok hd;o⟨ep,hat⟩:=dd.dictAt
 h hlv:vs.length=ks.length:=by
   have:=congrArg B9 hk;rw[be,be] at this;rw[←rel.length];e this
 r Calls.call_function_entry kind_sorted plain_sorted entry_sorted (args_sorted1 _) ?_;unfold Builtin.«sorted»;r wpAny_bind (m:=checkCount "sorted" 1 1 _) (wpAny_pure ?_);r wpAny_bind (PySem.W.kdu_collect (A:=X.A.in1) (PySem.W.kdl_dict (knd:=bL X.prog X.w) (kvs:=vs) (ep:=ep) lo) (I.ok.hd hc) hat (by rw[hlv,sizeLine_eq];m) fun h' tk acc kk hacc=>?_)
 h hal:acc.toList.length=ks.length:=by rw[Ap,hacc.1,hlv]
 h hst:StrsAre acc.toList ks:=by
   r jg hal fun i v hv=>?_;o⟨k,x,hx,his⟩:=hacc.2 i v (by rw[←AY];e hv)
   h e1:(vs.map (·.1))[i]?=some k:=by rw[zK,hx];rfl
   rw[←rel.keys,hk,zK] at e1;o⟨y,hy,e2⟩:=Option.map_eq_some_iff.mp e1;subst e2
   rcases bH (show jd (Sum.inr y) v=true from his) with ⟨i',t,e,_⟩ | ⟨y',t,e,e'⟩
   . cases e
   . cases e;e⟨y,t,hy,e'⟩
 r wpAny_bind (wpAny_newList ?_ (by rw[hal,sizeLine_eq];m));h hoL:(h'.push (seqObj "list" acc.toList.toArray 0)).get? h'.objs.size=some (seqObj "list" acc.toList.toArray 0):=Heap.get?_push_size _ rfl;r wpAny_bind (wpAny_holding (wpAny_call_entry slot_list_sort ⟨_,hoL,rfl⟩ entry_list_sort (list_sort_treeK strKind_oneLt hoL hst.keysOf (fun v1 v2 cD e=>keyKind_strs (by rw[←e];e hst)) (by m) fun st' a1 a2=>⟨_,rfl,?_⟩) (args_list_sort _)));o⟨ss',b1,b2,b3⟩:=sorted_out_str hst a1 a2;h hp:=b2.length_eq;h I1:Inv X pins σ H { s with heap:=h',toks:=tk }:=I.kept kk;o⟨e,he⟩:=sortedHeap_at (out:=(arrOf st').map (·.2)) hoL;r wpAny_pure ⟨_,rfl,?_⟩;r⟨.ref h'.objs.size,_,I1.laid (o:=.lst (ss'.map V.str)) (t':=tk) (fun b o x=>?_) (zN _) ⟨by rw[be,sizeLine_eq];m,_,e,iO b1,he⟩,rfl,q _ ss' (I1.hok.fresh (zN _)) b2 b3⟩;h hlt:=Heap.lt_size x;rw[sortedHeap_old (z6 hlt) (by rw[Heap.size_push];e A2 hlt)];e Heap.get?_push_of_some _ x
noncomputable def Itd (d:Addr)(o:Obj)(kvs:List (Key×V)):It:=⟨fun i H=>H d=some (.frz o (.dK kvs))∧i < kvs.length,fun i H x H'=>H'=H∧∃ k v,kvs[i]?=some (k,v)∧x=kV k,fun i H=>H d=some (.frz o (.dK kvs))∧i=kvs.length⟩
þ jN {X:Cx}{pins:List (Addr×Obj)}{σ:St}{H:Hp}{s:Shared}{d:Addr}{o:Obj}{kvs:List (Key×V)}(I:Inv X pins σ H s)(h:H d=some (.frz o (.dK kvs))) :
   ∃ vs ep,(∃ es,o.data=.dict es ep)∧s.heap.DictAt (bL X.prog X.w) d vs ep∧KV kvs vs∧(d==sysModules)=false:=by
 o⟨e,z,lo,vs,rel,o',es,ep,ho,r1,r2,r3⟩:=(show bR X.prog X.w H s.heap d (.frz o (.dK kvs)) from I.hok d _ h);rw[e] at ho;cases ho;e⟨vs,ep,⟨es,r2⟩,⟨o,es,e,r1,r2,r3⟩,rel,lo⟩
þ xT {k:Key}{v:Value}(h:jd k v=true):bd (kV k) v:=by
 rcases bH h with ⟨i,t,rfl,rfl⟩ | ⟨x,t,rfl,rfl⟩
 . e⟨t,rfl⟩
 . e⟨t,rfl⟩
þ tT {P:Program}{w:World}{K:PySem.W.Frag}{tg:Expr}(d it:Addr)(o:Obj)(kvs:List (Key×V)) (ep:Nat)(hep:∃ es,o.data=.dict es ep)(hne:d≠it):nU P w K tg (Itd d o kvs) [it] it (fun i h=>h.IsKeyIter it d i kvs.length ep) where
 mem:=by simp
 obj:=fun i h st b hb=>by
   h e:b=it:=by simpa using hb
   subst e;o⟨o,e,c,dd⟩:=st;e⟨o,e,fun v z=>by rw[dd] at z;cases z⟩
 keep:=fun i h h' st k=>st.at fun o e=>k it (by simp) o e
 item:=by
   intro X hP hw hK hc i pins s σ H E I hf st hg;subst hP hw hK;o⟨hd,hi⟩:=hg;o⟨f0,f1,f2,f3,f4,f5⟩:=hf it (by simp);o⟨vs,ep',⟨es',h1⟩,hat,rel,lo⟩:=jN I hd;o⟨es,h2⟩:=hep;rw[h1] at h2;cases h2;h hl:=rel.length
   h st':s.heap.IsKeyIter it d i vs.length ep:=by rw[←hl];e st
   r(Walks.dictKeys (knd:=bL X.prog X.w) (I.ok.hd hc) it d hne vs ep).item i s _ _ (by m) ⟨st',hat⟩ fun v h' tk hv st2 kk=>?_;h I1:Inv X pins σ H { s with heap:=h',toks:=tk }:=I.turned (fun b o hb e=>kk b o (by simpa using hb) e) f0 f1 f3 f4 f5;o⟨k,x,hx,his⟩:=hv;o⟨oi,ei,ci,di⟩:=id st2.1
   h ek:∃ v0,kvs[i]?=some (k,v0):=by
     h e1:(vs.map (·.1))[i]?=some k:=by rw[zK,hx];rfl
     rw[←rel.keys,zK] at e1;o⟨p,hp,e2⟩:=Option.map_eq_some_iff.mp e1;e⟨p.2,by rw[hp,←e2]⟩
   o⟨v0,hv0⟩:=ek;r⟨_,rfl,nZ (s:={ s with heap:=h',toks:=tk }) ei ci di (by decide) ⟨kV k,H,I1,xT his,⟨rfl,k,v0,hv0,rfl⟩,?_,fun b hb=>(hf b hb).1⟩⟩;rw[hl];e st2.1
 done:=by
   intro X hP hw hK hc i pins s σ H E I hf st hg;subst hP hw hK;o⟨hd,rfl⟩:=hg;o⟨f0,f1,f2,f3,f4,f5⟩:=hf it (by simp);o⟨vs,ep',⟨es',h1⟩,hat,rel,lo⟩:=jN I hd;o⟨es,h2⟩:=hep;rw[h1] at h2;cases h2;h hl:=rel.length
   h st':s.heap.IsKeyIter it d vs.length vs.length ep:=by rw[←hl];e st
   e(Walks.dictKeys (knd:=bL X.prog X.w) (I.ok.hd hc) it d hne vs ep).done s _ _ ⟨st',hat⟩ fun h' tk kk=>⟨rfl,I.turned (fun b o hb e=>kk b o (by simpa using hb) e) f0 f1 f3 f4 f5⟩
 self:=fun _ _ _ _ _ st h=>wpAny_pyIter_keyiter st h
þ Inv.freeze {pins:List (Addr×Obj)}{σ:St}{H:Hp}{s:Shared}{d:Addr}{kvs:List (Key×V)}(I:Inv X pins σ H s)(h:H d=some (.dK kvs)):∃ o,s.heap.get? d=some o∧Inv X pins σ (upd H d (.frz o (.dK kvs))) s:=by
 o⟨z,lo,vs,rel,o,es,ep,ho,r⟩:=(show bR X.prog X.w H s.heap d (.dK kvs) from I.hok d _ h);r⟨o,ho,?_⟩;have:=I.write (x:=d) (e:=d) (o:=.frz o (.dK kvs)) (h':=s.heap) (t':=s.toks) (by rw[h];e True.intro) (.inl rfl) (fun b u _ e=>e) ⟨o,ho⟩ ⟨ho,z,lo,vs,rel,o,es,ep,ho,r⟩;e this
noncomputable def vW (td:TE):TI:=fun σ H R=>td σ H fun x H1=>∃ d kvs,x=.ref d∧((H1 d=some (.dK kvs)∧∀ o,R (Itd d o kvs) (upd H1 d (.frz o (.dK kvs))))∨∃ o,H1 d=some (.frz o (.dK kvs))∧R (Itd d o kvs) H1)
þ mz {tg l:Expr}{tl:TE}(hl:PE X l tl):PI X tg l (vW tl):=by
 intro pins s σ H R I h;r thn (hl s σ H _ I h) fun v s1 ⟨x,H1,I1,r1,d,kvs,e,q1⟩=>?_;subst e;cases r1
 h main:∀ (H2:Hp)(o:Obj),Inv X pins σ H2 s1→H2 d=some (.frz o (.dK kvs))→R (Itd d o kvs) H2→wpAny (model X.prog X.w) X.A (pyIter (.ref d)) (PIE X pins σ tg R) X.xe s1:=fun H2 o I2 hd q=>by
   o⟨vs,ep,hep,hat,rel,lo⟩:=jN I2 hd;r wpAny_pyIter_dict lo hat ?_;h hlt:d < s1.heap.objs.size:=I2.hok.lt hd;h hl:=rel.length;r⟨s1.heap.objs.size,[s1.heap.objs.size],_,_,H2,rfl,I2.kept (t':=s1.toks) fun b o e=>Heap.get?_push_of_some _ e,tT d _ o kvs ep hep (z6 hlt),⟨_,Heap.get?_push_size _ rfl,rfl,by rw[←hl];rfl⟩,fun b hb=>?_,q⟩
   h e:b=s1.heap.objs.size:=by simpa using hb
   subst e;e I2.fpOk (zN _) (I2.hok.fresh (zN _))
 rcases q1 with ⟨hd,q⟩ | ⟨o,hd,q⟩
 . o⟨o,ho,I2⟩:=I1.freeze hd;e main _ o I2 ac (q o)
 . e main _ o I1 hd q
þ fL {H1:Hp}{d:Addr}{o:Obj}{kvs:List (Key×V)}(h:H1 d=some (.frz o (.dK kvs))):d8 (Itd d o kvs) H1 kvs.length (fun i x=>∃ k v,kvs[i]?=some (k,v)∧x=kV k) :=
 ⟨fun i H' hi s=>⟨s _ _ h,hi⟩,fun i H' x H2 hi s y=>y,fun H' s=>⟨s _ _ h,rfl⟩⟩
end
section
variable {X:Cx}
noncomputable def yq:V→Option Int→Option Int→Hp→VK→Prop:=fun x lo hi H Q=>∃ z,x=.str z∧z.length≤sizeLine∧Q (.str (Txt.slice z lo hi)) H
þ yr:SlR X yq:=by
 intro pins s σ H x v vl vu lo hi sl Q I rx hs pl pu h;o⟨z,rfl,hz,q⟩:=h;o⟨t,rfl⟩:=rx;r⟨"str",_,slot_str_getitem.lookup,typeIs_str s z t,?_⟩
 obtain⟨l,hl1,hl2⟩:∃ l:Option (Int×Tok),vl=partValue l∧l.map (·.1)=lo:=by
   cases pl with
   | none=>e⟨none,rfl,rfl⟩
   | int i t=>e⟨some (i,t),rfl,rfl⟩
 obtain⟨u,hu1,hu2⟩:∃ u:Option (Int×Tok),vu=partValue u∧u.map (·.1)=hi:=by
   cases pu with
   | none=>e⟨none,rfl,rfl⟩
   | int i t=>e⟨some (i,t),rfl,rfl⟩
 subst hl1 hu1 hl2 hu2;r wpAny_getItem_str_slice (l:=l) (u:=u) (st:=none) hs rfl ?_;h key:∀ P:Prop,True:=fun _=>trivial;unfold sliceMade
 h e:Txt.slice z (l.map (·.1)) (u.map (·.1))=if(((none:Option (Int×Tok)).map (·.1)).getD 1==1&&(slicePicked z l u none).length==z.length)=true then z else⟨((slicePicked z l u none).filterMap (z.cps[·]?)).toArray⟩:=rfl
 by_cases hc:(((none:Option (Int×Tok)).map (·.1)).getD 1==1&&(slicePicked z l u none).length==z.length)=true
 . rw[if_pos hc] at e ⊢;rw[e] at q;e⟨.str z,H,I,⟨t,rfl⟩,q⟩
 . rw[if_neg hc] at e ⊢;h hle:=Txt.slice_le z (l.map (·.1)) (u.map (·.1));rw[e] at q hle;e⟨AB hle hz,⟨.str _,H,I.tok _,⟨_,rfl⟩,q⟩⟩
þ vj (hc:X.calm=true):MtR X "str.index" (fun x vs H Q=>∃ z y,x=.str z∧vs=[.str y]∧0≤Txt.find z y∧Q (.int (Txt.find z y)) H):=by
 intro pins s σ H x xs v us Q I rx rs h;o⟨z,y,rfl,rfl,h0,q⟩:=h;o⟨t,rfl⟩:=rx;o⟨u,rfl,ru⟩:=rs.one;o⟨t',rfl⟩:=ru;r index_or (I.ok.hd hc) (fun e _=>by m) fun _ _=>⟨.int _,H,I.tok _,⟨_,rfl⟩,q⟩
end
þ zc {X:Cx}{c0 c1 c2 c3 c4 c5 c6 c7:Str} {j0 j1 j2 j3 j4 j5 j6 j7}{p0 p1 p2 p3 p4 p5 p6 p7:Pos}:PA X [.Constant (.str c0) j0 p0,.Constant (.str c1) j1 p1,.Constant (.str c2) j2 p2,.Constant (.str c3) j3 p3,.Constant (.str c4) j4 p4,.Constant (.str c5) j5 p5,.Constant (.str c6) j6 p6,.Constant (.str c7) j7 p7] (fU (tC (.str c0)) (fU (tC (.str c1)) (fU (tC (.str c2)) (fU (tC (.str c3)) (fU (tC (.str c4)) (fU (tC (.str c5)) (fU (tC (.str c6)) (fU (tC (.str c7)) tw)))))))):=(aa aB (aa aB (aa aB (aa aB (aa aB (aa aB (aa aB (aa aB ae))))))))
þ su {X:Cx}:cv X (.builtin "isinstance") (fun xs H Q=>∃ x C t b,xs=[x,.ref C]∧cz X.K H x t∧Ab X.K t (.ref C)=some b∧Q (.bl b) H):=by
 intro pins s σ H xs us Q I r h;o⟨x,C,t,b,rfl,ty,e,q⟩:=h;o⟨u,w',rfl,r1,r2⟩:=lA r;cases r2;e lx I r1 ty e fun tk=>⟨.bl b,H,I.tok _,rfl,q⟩
þ oP {K:PySem.W.Frag}{C:Addr}:Ab K (.ref C) (.ref C)=some true:=by
 unfold Ab;rw[if_pos (by simp)]
þ qm {X:Cx}:cv X (.type "dict") (fun xs H Q=>∃ a kvs,xs=[.ref a]∧Rd H a (.dK kvs)∧∀ p,H p=none→Q (.ref p) (upd H p (.dK kvs))):=by
 intro pins s σ H xs us Q I r h;o⟨a,kvs,rfl,e,q⟩:=h;o⟨u,rfl,r1⟩:=eA r;cases r1;e vf I e fun p s' hp I'=>⟨.ref p,_,I',rfl,q p hp⟩
noncomputable def CX1 (P:Program)(w:World):CXT:=fun outer H s E ev s'=>∃ (e:Addr) (cls a0:Value)(H':Hp)(B:Heap),ev=.ref e∧s'.os=s.os∧AllBare s'.gens∧Un (frs outer) [] H H' s.heap s'.heap∧HOk P w H' s'.heap∧Heap.FlyingW B outer e cls a0 s'.heap ∧
 (∀ b o,s.heap.get? b=some o→b∉frs outer→∃ o',B.get? b=some o'∧(H b=none→o'=o))∧(∀ b u,H' b=some u→∀ o,s'.heap.get? b=some o→B.get? b=some o)∧E cls none H'
þ HOk.by {P:Program}{w:World}{H:Hp}{h h':Heap}(x:HOk P w H h)(k:∀ b u,H b=some u→∀ o,h.get? b=some o→h'.get? b=some o):HOk P w H h':=fun a o e =>
 (x a o e).stay (fun b u hb q=>by
   rcases hb with rfl | hb
   . e k b o e u q
   . e k b _ hb u q) (fun _ q=>q) fun _ _ q=>q
þ HOk.has {P:Program}{w:World}{H:Hp}{h:Heap}(x:HOk P w H h){a:Addr}{o:HO}(e:H a=some o):∃ ob,h.get? a=some ob:=by
 h y:=x a o e;clear e
 induction o with
 | lst xs=>o⟨_,_,_,_,e⟩:=y;e⟨_,e⟩
 | tup xs=>o⟨_,_,_,o,e,_⟩:=y;e⟨_,e⟩
 | dK kvs=>o⟨_,_,_,_,o,_,_,e,_⟩:=y;e⟨_,e⟩
 | dT kvs=>o⟨_,_,_,_,o,_,_,e,_⟩:=y;e⟨_,e⟩
 | set S n=>o⟨o,_,_,_,e,_⟩:=y;e⟨_,e⟩
 | ins C dx fs=>o⟨_,_,_,e,_⟩:=y;e⟨_,e⟩
 | own z=>o⟨_,e⟩:=y;e⟨_,e⟩
 | xd fs=>o⟨_,⟨_,_,_,e,_⟩,_⟩:=y;e⟨_,e⟩
 | rng lo hi=>o⟨_,_,_,e⟩:=y;e⟨_,e⟩
 | frz ob u ih=>o⟨e,_⟩:=y;e⟨_,e⟩
 | tbl ps=>e⟨_,y⟩
 | met f z=>e⟨_,y⟩
 | ext φ=>o⟨_,⟨o,e⟩,_⟩:=y;e⟨o,e⟩
section
variable {X:Cx}{pins:List (Addr×Obj)}{σ:St}{H:Hp}{s:Shared}{h' B:Heap}{e:Addr}{cls a0:Value}{E:XK}
þ u8 (I:Inv X pins σ H s)(hex:X.ex=[])(fl:Heap.FlyingW B X.outer e cls a0 h')(up:s.heap.UpToSlots h')
   (k1:∀ b o,X.s₀.heap.get? b=some o→b∉X.fs→∃ o',B.get? b=some o'∧(X.H₀ b=none→o'=o))(k2:∀ b u,H b=some u→∀ o,s.heap.get? b=some o→B.get? b=some o)(q:E cls none H) :
   CX1 X.prog X.w X.outer X.H₀ X.s₀ E (.ref e) { s with heap:=h' }:=by
 h nox:∀ b:Addr,b∉X.ex:=fun b=>by rw[hex];simp
 h k2':∀ b u,H b=some u→∀ o,s.heap.get? b=some o→h'.get? b=some o:=fun b u hb o ho=>fl.1 b o (k2 b u hb o ho);r⟨e,cls,a0,H,B,rfl,I.os,I.bare,⟨fun b o ho hn hf _=>?_,fun b o ho hn hf _=>?_,fun b o ho hn _=>I.base.free b o ho hn (nox b),fun b o ho _=>?_,I.base.tups,I.base.frzs,I.base.tbls⟩,I.hok.by k2',fl,k1,fun b u hb o ho=>?_,q⟩
 . o⟨o',e1,e2⟩:=k1 b o ho hf;rw[e2 hn] at e1;e fl.1 b o e1
 . o⟨sl,e1⟩:=I.base.slot b o ho hn hf (nox b);o⟨_,oo,e2,e3⟩:=I.ok.funs.mem hf;rw[ho] at e2;cases e2;o⟨sl2,e4⟩:=up b _ e1 e3;e⟨sl2,e4⟩
 . by_cases hf:b∈X.fs
   . o⟨_,oo,e2,e3⟩:=I.ok.funs.mem hf;rw[ho] at e2;cases e2;h hn:=I.ok.frf b hf;o⟨sl,e1⟩:=I.base.slot b o ho hn hf (nox b);o⟨sl2,e4⟩:=up b _ e1 e3;e⟨_,e4⟩
   . o⟨o',e1,_⟩:=k1 b o ho hf;e⟨o',fl.1 b o' e1⟩
 . o⟨ob,hob⟩:=I.hok.has hb;h e1:=k2 b u hb ob hob;h e2:=fl.1 b ob e1;h ho':h'.get? b=some o:=ho;rw[e2] at ho';cases ho';e e1
end
þ bE {P:Program}{w:World}{K:PySem.W.Frag}{mg:Str→Option Value}{base:Heap}{N:List Str}{qual:Str}{scope:Scope}{f:Addr}{cd:Value}{A:Around}{outer:List Env}{s0:Shared}{H0:Hp}{E:XK} :
   dA (CX1 P w) (fK (CX1 P w) P w K mg base N qual scope f cd A outer s0 H0 E) E:=by
 rintro pins σ H s ev s' I ⟨e,cls,a0,H',B,rfl,hos,hba,hun,hok,hfl,k1,k2,q⟩;h I':=I.call' (s':=s') (ch:=[]) hos hun hok hba (fun b z=>absurd z (by simp));show wpAny (model P w) (A.deeper (envOfC qual scope s0.heap.objs.size f cd)) (leaving (envOfC qual scope s0.heap.objs.size f cd) (.ref e)) _ _ s';r wpAny_leaves_onW (L:=s0.heap.objs.size) I.ok.frames rfl hfl fun h' fl up=>?_;r u8 I' rfl fl up (fun b o ho hf=>?_) k2 q;h hbl:b < s0.heap.objs.size:=Heap.lt_size ho;o⟨o1,ho1⟩:=I.base.there b o ho (by simp[fK])
 h hns:b∉frs (envOfC qual scope s0.heap.objs.size f cd::outer):=fun z=>by
   rcases List.mem_cons.mp (I.stkSub b z) with e1 | e1
   . h e2:b=s0.heap.objs.size:=e1;rw[e2] at hbl;e absurd hbl (A7 _)
   . e hf e1
 o⟨o',e1,e2⟩:=k1 b o1 ho1 hns;r⟨o',e1,fun hn=>?_⟩;h hn':H b=none:=I.base.free b o ho hn (by simp[fK]);have:=I.base.keep b o ho hn hf (by simp[fK]);rw[ho1] at this;cases this;e e2 hn'
þ ym {P:Program}{w:World}{K:PySem.W.Frag}{mg:Str→Option Value}{base:Heap}{N:List Str}{qual:Str}{scope:Scope}{f:Addr}{cd:Value}{A:Around}{outer:List Env}{s0:Shared}{H0:Hp}{E:XK}
   {pins:List (Addr×Obj)}{σ:St}{H:Hp}{s:Shared}{h1:Heap}{e:Addr}{cls:Value}{args:List Value}(I:Inv (fK (CX1 P w) P w K mg base N qual scope f cd A outer s0 H0 E) pins σ H s)(hx:Heap.MadeExcOf s.heap h1 e cls args)(q:E cls none H) :
   (fK (CX1 P w) P w K mg base N qual scope f cd A outer s0 H0 E).xe (.ref e) { s with heap:=h1 }:=by
 h I':=I.kept (t':=s.toks) hx.keeps;h hfrs:=I.stack;show wpAny (model P w) (A.deeper (envOfC qual scope s0.heap.objs.size f cd)) (leaving (envOfC qual scope s0.heap.objs.size f cd) (.ref e)) _ _ { s with heap:=h1 };h hin:∀ env∈(envOfC qual scope s0.heap.objs.size f cd::outer),∀ b,env.frame=some b→b∈frs (envOfC qual scope s0.heap.objs.size f cd::outer):=fun env he b hb=>List.mem_filterMap.mpr ⟨env,he,hb⟩;r wpAny_leaves_madeW (base:=PySem.W.hideAll s.heap (frs (envOfC qual scope s0.heap.objs.size f cd::outer))) (h:=s.heap) (L:=s0.heap.objs.size) I.ok.frames rfl (fun b o q=>PySem.W.of_hideAll _ q) (PySem.W.funFrames_hide hfrs hin) hx fun h' t fl _ _ up=>?_;r u8 I' rfl fl up (fun b o ho hf=>?_) (fun b u hb o ho=>?_) q
 . h hbl:b < s0.heap.objs.size:=Heap.lt_size ho;o⟨o1,ho1⟩:=I.base.there b o ho (by simp[fK])
   h hns:b∉frs (envOfC qual scope s0.heap.objs.size f cd::outer):=fun z=>by
     rcases List.mem_cons.mp (I.stkSub b z) with e1 | e1
     . h e2:b=s0.heap.objs.size:=e1;rw[e2] at hbl;e absurd hbl (A7 _)
     . e hf e1
   r⟨o1,BU _ ho1 hns,fun hn=>?_⟩;have:=I.base.keep b o ho hn hf (by simp[fK]);rw[ho1] at this;e Option.some.inj this
 . o⟨ob,hob⟩:=I.hok.has hb;h e1:h1.get? b=some ob:=hx.keeps b ob hob;h e2:h1.get? b=some o:=ho;rw[e1] at e2;cases e2;r BU _ hob fun z=>?_;have:=I.stkFree b z;rw[hb] at this;cases this
section
variable {P:Program}{w:World}{K:PySem.W.Frag}{mg:Str→Option Value}{base:Heap}
þ Fun.okX {x qual:Str}{st:Stmt}{f:Addr}{fd:FuncData}{N ps:List Str}{k:Nat}{sp:Sp}(F:Fun K x qual st f fd)(S:ay N ps (ar st))(len:∀ vs H Q E,sp vs H Q E→vs.length=ps.length)
   (hbody:∀ (cdv:Value)(A:Around)(outer:List Env)(s:Shared)(H:Hp)(vs:List V)(Q:VK)(E:XK),dc k (A.deeper (envOfC qual (ar st) s.heap.objs.size f cdv))→sp vs H Q E →
     ∃ t,PSs (fK (CX1 P w) P w K mg base N qual (ar st) f cdv A outer s H E) (eu st) t∧t { nx:=fun _ H'=>Q .non H',rt:=Q } (start N vs) H):aW P w K mg base (CX1 P w) (k+1) f fd ps sp:=by
 o⟨oc,od,kV,doc,pm,an,cdv,ct,osl,rfl,lk,hcd⟩:=F.ex;e xq lk hcd S len fun A outer s H vs Q E hr hsp=>hbody cdv A outer s H vs Q E hr hsp
end
þ wV {K:PySem.W.Frag}{h:Heap}{C:Addr}{bmB:List Value}{newId:String}(X:K.In h)(q:Cs K C bmB newId=true) :
   ∃ bm N nm qn bs hdct sn sub ab col dd k0 k1 k2 k3 k5 mN,h.get? C=some (excClassObj nm qn C N bs bm hdct sn sub ab col dd k0 k1 k2 k3 k5 newId)∧h.Ns N mN∧mN "__init__"=none∧OwnTail h bmB bm:=by
 simp only[Cs] at q
 split at q
 case h_2=>cases q
 case h_1 c0 sl0 lk0 =>
   split at q
   case h_2=>cases q
   case h_1 Cc tl z0 z1 z2 z3 nn z5 hmro hslo =>
     rename_i dd0;rw[Bool.and_eq_true,Bool.and_eq_true,Bool.and_eq_true,Bool.and_eq_true,Bool.and_eq_true] at q;o⟨⟨⟨⟨⟨q1,q2⟩,q3⟩,q4⟩,q5⟩,q6⟩:=q;obtain rfl:=beq_iff_eq.mp q1;obtain rfl:=beq_iff_eq.mp q2
     h q3':c0.hasDel=false:=by simpa using q3
     h q6':=beq_iff_eq.mp q6;o⟨c1,c2,c3,c4,c5,c6,c7,c8,c9,c10,c11⟩:=c0;dsimp only at hmro q3' q5 q6';subst hmro;subst q3'
     h hsl:sl0=#[z0,z1,z2,z3,some (.builtin nn),z5]:=by
       cases sl0;simp only at hslo;rw[hslo]
     subst hsl;e⟨tl,_,_,_,_,_,_,_,_,_,_,_,_,_,_,_,_,X _ _ lk0,.of_isNs (PySem.W.isNs_of_in X q5),PySem.W.nsMap_none_of_in X q5 q6',PySem.W.tail_of_in X q4⟩
noncomputable def qS (C:Addr)(E:XK)(ta:TA):TS:=fun D σ H=>ta σ H fun vs H1=>vs.length≤1000∧E (.ref C) none H1
noncomputable def yZ (X:Cx)(E:XK):Prop:=∀ (pins:List (Addr×Obj)) (σ:St)(H:Hp)(s:Shared)(h1:Heap)(e:Addr) (cls:Value)(args:List Value),Inv X pins σ H s→Heap.MadeExcOf s.heap h1 e cls args→E cls none H→X.xe (.ref e) { s with heap:=h1 }
þ dk {P:Program}{w:World}{K:PySem.W.Frag}{mg:Str→Option Value}{base:Heap}{N:List Str}{qual:Str}{scope:Scope}{f:Addr}{cd:Value}{A:Around}{outer:List Env}{s0:Shared}{H0:Hp}{E:XK} :
 yZ (fK (CX1 P w) P w K mg base N qual scope f cd A outer s0 H0 E) E:=fun pins σ H s h1 e cls args I hx q=>ym I hx q
þ bB {X:Cx}{x:Str}{C:Addr}{a1:Expr}{ta:TA}{E:XK}{bmB:List Value}{B newId initId:String}{np cpos pos:Pos}(hc:X.calm=true)(hg:Gl X x)(hm:X.mg x=§C)(he:Cs X.K C bmB newId=true)(FB:ExcBaseFacts B newId initId bmB)
   (ha:PA X [a1] ta)(hR:yZ X E)(hs:starEach [a1] X.env=[(false,eval a1 X.env)]:=by rfl)(hd:(x==("__debug__":Str))=false:=by decide) :
   PS X (.Raise (some (.Call (.Name x np) [a1] [] cpos)) none pos) (qS C E ta):=by
 intro pins s σ H D I h;o⟨tl,N,nm,q,bs,hdct,sn,sub,ab,col,dd,k0,k1,k2,k3,k5,mN,hC,hN,hni,T⟩:=wV I.mod.kin he;r wpAny_Raise_call_subT (C:=C) (nm:=nm) (q:=q) (N:=N) (bs:=bs) (bm:=tl) (hdct:=hdct) (sn:=sn) (sub:=sub) (ab:=ab) (col:=col) (dd:=dd) (k0:=k0) (k1:=k1) (k2:=k2) (k3:=k3) (k5:=k5) FB (mN:=mN) (T.hasType FB.hasBase) (I.ok.hd hc) (by rw[hs];rfl) hni (io I hg hm ⟨rfl,?_⟩ hd);h h2:=ha cpos s σ H _ I h;rw[hs] at h2 ⊢;r Calls.evalArgs_plain (wpAny_mono h2 (fun us s2 h3=>?_) fun _ _ y=>y);o⟨vs,H1,I1,rv,hl,q1⟩:=h3;r⟨rfl,?_,I1.bk _ _ hC,hN.keeps I1.bk,T.keeps I1.bk,fun h' e hx=>hR pins σ H1 s2 h' e _ _ I1 hx q1⟩;show us.length≤sizeLine;rw[←rv.length,sizeLine_eq];m
þ fh {X:Cx}{x:Str}{j:Nat}{value:Expr}{tv:TE}{p1 p2 pos:Pos}(hv:PE X value tv)(hx:x.length≤1000:=by decide)(hev:evalEach [.Constant (.str x) j p1,.FormattedValue value 114 none p2] X.env=[eval (.Constant (.str x) j p1) X.env,eval (.FormattedValue value 114 none p2) X.env]:=by rfl) :
   PE X (.JoinedStr [.Constant (.str x) j p1,.FormattedValue value 114 none p2] pos) (fun σ H Q=>tv σ H fun v H1=>∃ z:Str,v=.str z∧z.length≤1000∧(∀ c∈z.cps.toList,c < 1114112)∧∀ y,Q (.str y) H1):=by
 intro pins s σ H Q I h;r wpAny_JoinedStr ?_;rw[hev]
 h hS:(1000000:Nat)≤sizeLine:=by rw[sizeLine_eq];decide
 r Calls.Constant_str ⟨x,_,rfl,?_,?_⟩
 . h:(Str.empty++x).length=x.length:=by rw[PySem.Str.length_append];simp[Str.empty,PySem.Str.length]
   rw[this];m
 r wpAny_FormattedValue_repr (thn (hv _ σ H _ (I.tok _) h) fun u s1 h1=>?_);o⟨v,H1,I1,rv,z,rfl,hz,hzc,q⟩:=h1;o⟨t,rfl⟩:=(show ∃ t,u=Value.str z t from rv);h hl:(reprText z).length≤10*z.length+2:=StrLaws.reprText_len z (fun c hc=>z9 (hzc c hc) (by decide))
 h e0:(Str.empty++x).length=x.length:=by rw[PySem.Str.length_append];simp[Str.empty,PySem.Str.length]
 r pyReprObj_str ?_ (by m)
 h fin:∀ s2 t2,Inv X pins σ H1 s2→∃ y t,(Value.str (reprText z) t2)=.str y t∧(Str.empty++x++y).length≤sizeLine∧Joins (model X.prog X.w) X.A X.xe [] (Str.empty++x++y) (fun out s₁=>out.length≤sizeLine∧EP X pins σ Q (.str out s₁.toks) { s₁ with toks:=s₁.toks+1 }) s2:=fun s2 t2 I2=>by
   h hlen:(Str.empty++x++reprText z).length≤sizeLine:=by rw[PySem.Str.length_append,e0];m
   e⟨_,_,rfl,hlen,hlen,.str (Str.empty++x++reprText z),H1,I2.tok _,⟨_,rfl⟩,q _⟩
 e wpAny_formatField_str (fin _ _ (I1.tok _)) (fin _ _ ((I1.tok _).tok _)) (by m)
end L2
namespace L2
open PySem PySem.Spec PyProof.Rows PySem.W Builtin.Getset_descriptor
noncomputable def je (e C:Addr)(h:Heap):Prop:=∃ oo:Obj,h.get? e=some oo∧oo.cls=.ref C
þ je.ty {e C:Addr}{h:Heap}(c:je e C h)(M:Model):Looks M h (typeOf (.ref e)) (.ref C):=by
 o⟨oo,h1,h2⟩:=c;rw[←h2];e(Looks.ld h1).andThen .now
þ y7 {α:Type}{M:Model}{A:Around}{Q:α→Shared→Prop}{E:Value→Shared→Prop}{s:Shared}{t u:Sem α}(h:t=u)(k:wpAny M A u Q E s):wpAny M A t Q E s:=h▸k
section
variable {pg:Program}{wd:World}{Ar:Around}{Er:Value→Shared→Prop}{sh:Shared}{KK:Frag}{e C:Addr}
þ wn {h:Heap}{M:Model}{a g:Value}{nm:Str}(XX:KK.In h)(q1:findIn KK (.ref C) nm=some (some a))(q2:specialIn KK a "__get__"=some (some g))(q3:takesIn KK a=some true) :
   Looks M h (Builtin.ObjectAttr.find (.ref e) (.ref C) nm) (.bind g a):=by
 h l3:Looks M h (Builtin.ObjectAttr.dataDescriptor? (some a) (some g)) (some (g,a)):=(looks_takesIn (M:=M) XX q3).andThen .now;e(looks_findIn (M:=M) XX q1).andThen ((looks_specialIn (M:=M) XX q2).andThen (l3.andThen (Looks.tag .now)))
þ t5 {tp:Value}{RR:Result→Shared→Prop}(XX:KK.In sh.heap)(c:je e C sh.heap)(q5:mroIn KK C (.type "object")=some true)(go:RR (.ok (.ret (.ref C))) sh) :
   codeAny (model pg wd) Ar (.call (.builtin "getset_descriptor.__get__") ⟨[.builtin "object.__class__",.ref e,tp],[]⟩) RR sh:=by
 o⟨y1,y2,y3,y4,y5⟩:=sh;h t0:=c.ty (model pg wd);h t1:=looks_mroIn (M:=model pg wd) XX q5;r codeAny_call_builtin KF.slot_gs.plain KF.entry_gs ?_;r KF.slot_gs.check _ _ _ _ _ _ _ _ KF.type_class (KF.args_gs _ _ _) ?_;unfold Builtin.«getset_descriptor.__get__» descrGet;rw[dga_obj];r wpAny_bind (wpAny_pure ?_);unfold descrGetter descrCheckInstance descrNameAndClass isInstance;simp only[KF.owner_class]
 repeat lk
 r⟨Code.quiet_builtin _ (by d),codeAny_builtin KF.entry_class ?_⟩;unfold Builtin.«object.__class__» shownTypeOf
 repeat lk
 e go
þ pP {a g:Value}{nm:Str}{tk:Tok}{RR:Result→Shared→Prop}(XX:KK.In sh.heap)(c:je e C sh.heap)(q1:findIn KK (.ref C) nm=some (some a))(q2:specialIn KK a "__get__"=some (some g))(q3:takesIn KK a=some true)
   (qb:mroIn KK C (.type "BaseException")=some true)(go:∀ Er:Value→Shared→Prop,wpAny (model pg wd) Ar.in1 (call g [a,.ref e,.ref C]) (fun v s'=>RR (.ok (.ret v)) s') Er sh) :
   codeAny (model pg wd) Ar (.call (.builtin "BaseException.__getattribute__") ⟨[.ref e,.str nm tk],[]⟩) RR sh:=by
 o⟨y1,y2,y3,y4,y5⟩:=sh;h t0:=c.ty (model pg wd);h t1:=looks_mroIn (M:=model pg wd) XX qb;h t2:=wn (e:=e) (M:=model pg wd) XX q1 q2 q3
 h hk:builtinKind "BaseException.__getattribute__"=some .slot:=by d
 h hsplit:splitId "BaseException.__getattribute__"=some ("BaseException", "__getattribute__"):=by d
 h ha:=F.args_bexc_ga (.ref e) (.str nm tk);r codeAny_call_builtin F.attr_ValueError.ga.plain F.entry_bexc_ga ?_;simp only[checkBuiltinCall,hk,hsplit];r wpAny_bind ?_;unfold isInstance;r wpAny_bind (t0.at (t1.at ?_));unfold argsOk at ha
 with_unfolding_all r y7 ha ?_
 r wpAny_pure ?_;r wpAny_bind (wpAny_pure ?_);r wpAny_bind (wpAny_pure ?_);r wpAny_bind (t0.at ?_);r wpAny_bind (t2.at ?_);show wpAny _ _ (holding [a] (call g [a,.ref e,.ref C]) >>= ret) _ _ _;e wpAny_bind (wpAny_holding (wpAny_mono (go _) (fun v s' hz=>wpAny_pure hz) fun _ _ hz=>hz))
þ wl {W:Option Value→Shared→Prop}(XX:KK.In sh.heap)(c:je e C sh.heap)(q0:findIn KK (.ref C) "__getattribute__"=some (some (.builtin "BaseException.__getattribute__")))(q4:findIn KK (.ref C) "__getattr__"=some none)
   (q1:findIn KK (.ref C) "__class__"=some (some (.builtin "object.__class__")))(q2:specialIn KK (.builtin "object.__class__") "__get__"=some (some (.builtin "getset_descriptor.__get__")))(q3:takesIn KK (.builtin "object.__class__")=some true)
   (qb:mroIn KK C (.type "BaseException")=some true)(q5:mroIn KK C (.type "object")=some true)(go:W (§C) { sh with toks:=sh.toks+1 }) :
   wpAny (model pg wd) Ar (getAttr? (.ref e) "__class__") W Er sh:=by
 o⟨y1,y2,y3,y4,y5⟩:=sh;h t0:=c.ty (model pg wd);h t1:=looks_findIn (M:=model pg wd) XX q0;h t2:=looks_findIn (M:=model pg wd) XX q4
 h hx2:(Value.builtin "BaseException.__getattribute__"==Value.builtin "object.__getattribute__")=false:=by d
 unfold getAttr? getAttrBy? getAttrBy;r wpAny_bind (wpAny_mkText (wpAny_bind (wpAny_attempt ?_)));r wpAny_holding (wpAny_bind (t0.at (wpAny_bind (t1.at ?_))))
 h e1:(onTheHeap (.ref C)&&Value.builtin "BaseException.__getattribute__"==Value.builtin "object.__getattribute__")=false:=by rw[hx2];rfl
 show wpAny _ _ (if(onTheHeap (.ref C)&&Value.builtin "BaseException.__getattribute__"==Value.builtin "object.__getattribute__")=true then _ else getAttrByItsOwn _ _ _ _ _ _) _ _ _;rw[e1];show wpAny _ _ (getAttrByItsOwn _ _ _ _ _ _) _ _ _;unfold getAttrByItsOwn;r wpAny_bind ?_;show wpAny _ _ (typeLookup (.ref C) "__getattr__") _ _ _;r t2.at ?_;r wpAny_bind (wpAny_attempt (wpAny_holding ?_));show wpAny _ _ (boundAndCalled _ _ _) _ _ _;unfold boundAndCalled;rw[F.attr_ValueError.ga.bind];r wpAny_bind (wpAny_pure ?_);show wpAny _ _ (call (.builtin "BaseException.__getattribute__") [.ref e,.str "__class__" _]) _ _ _;r wpAny_call (pP (sh:=⟨y1,y2,y3,y4+1,y5⟩) XX c q1 q2 q3 qb fun Er'=>wpAny_call (t5 (sh:=⟨y1,y2,y3,y4+1,y5⟩) XX c q5 ?_));e handed_on rfl (wpAny_pure go)
end
structure ExcC (K:Frag)(C:Addr):Prop where
 exc:excIn K C [.type "ValueError",.type "Exception",.type "BaseException",.type "object"] "ValueError.__new__"=true
 ga:findIn K (.ref C) "__getattribute__"=some (some (.builtin "BaseException.__getattribute__"))
 gt:findIn K (.ref C) "__getattr__"=some none
 cl:(clsIn K C).isSome=true
 ha:findIn K (.ref C) "__class__"=some (some (.builtin "object.__class__"))
 hn:specialIn K (.builtin "object.__class__") "__get__"=some (some (.builtin "getset_descriptor.__get__"))
 ht:takesIn K (.builtin "object.__class__")=some true
 hm:mroIn K C (.type "object")=some true
 hb:mroIn K C (.type "BaseException")=some true
þ nG {K:Frag}{e C:Addr}(c:ExcC K C):KitX K (.ref e) (.ref C) (je e C) where
 ty:=fun M h _ p=>p.ty M
 it:=fun M h XX _=>by
   o⟨cd,hcd⟩:=Option.isSome_iff_exists.mp c.cl;unfold clsIn at hcd
   split at hcd
   case h_2=>cases hcd
   case h_1 lk0 =>
     intro A' Q' E' s' k q;unfold isType loadHead;e wpAny_bind (wpAny_loadPart (k _ _ (XX _ _ lk0)) (wpAny_pure q))
 ne:=fun h tp dd its n sl XX htp=>by
   o⟨cd,hcd⟩:=Option.isSome_iff_exists.mp c.cl;r Bool.eq_false_iff.mpr fun q=>?_;h q':C=tp:=Value.ref.inj (beq_iff_eq.mp q);subst q';unfold clsIn at hcd
   split at hcd
   case h_2=>cases hcd
   case h_1 lk0 =>
     h z:=(XX _ _ lk0).symm.trans htp;cases z
 ca:=fun {prog w A E Q s} XX p k=>wl XX p c.ga c.gt c.ha c.hn c.ht c.hb c.hm k
þ sq {X:Cx}{e C:Addr}{oe:Obj}(hp:(e,oe)∈X.pn)(hc:oe.cls=.ref C)(c:ExcC X.K C) :
   cv X (.builtin "isinstance") (fun xs H Q=>∃ D b,((xs=[.ref e,.ref D]∧kitOne X.K (.ref C) (.ref D)=some b)∨∃ T,xs=[.ref e,.ty T]∧kitOne X.K (.ref C) (.type T)=some b)∧Q (.bl b) H):=by
 intro pins s σ H xs us Q I r h;h hat:je e C s.heap:=⟨oe,(I.pin _ (AR _ hp)).1,hc⟩;o⟨D,b,h,q⟩:=h
 rcases h with ⟨rfl,k⟩ | ⟨T,rfl,k⟩
 . o⟨u,w',rfl,r1,r2⟩:=lA r;cases r1;cases r2;e kia_one (nG c) I.kIn hat k (fun z=>nomatch z) fun tk=>⟨.bl b,H,I.tok _,rfl,q⟩
 . o⟨u,w',rfl,r1,r2⟩:=lA r;cases r1;cases r2;e kia_one (nG c) I.kIn hat k (fun z=>nomatch z) fun tk=>⟨.bl b,H,I.tok _,rfl,q⟩
end L2
namespace L2
open PySem PySem.Spec PyProof.Rows PySem.W
abbrev Cx.bear (X:Cx)(pn:List (Addr×Obj))(W:Value→Shared→Prop):Cx:={ X with pn:=pn,xe:=W }
abbrev cxH (X:Cx)(e:Addr)(oe:Obj):Cx:={ X with A:=X.A.mark (§e),calm:=false,pn:=(e,oe)::X.pn,xe:=fun _ _=>False }
section
variable {X:Cx}{pins pins':List (Addr×Obj)}{σ:St}{H H':Hp}{s s':Shared}{W:Value→Shared→Prop}
þ Inv.toBear (I:Inv X pins σ H s)(W:Value→Shared→Prop):Inv (X.bear (X.pn++pins) W) [] σ H s :=
 ⟨⟨I.ok.mod,I.ok.kind,I.ok.glob,I.ok.blt,I.ok.above,I.ok.inj,I.ok.has,I.ok.cab,I.ok.hd,I.ok.frames,I.ok.stk,I.ok.exf,I.ok.bs,I.ok.bsz,I.ok.noex,I.ok.exfs,I.ok.funs,I.ok.frf⟩,I.os,I.bare,I.base,I.loc,I.cell,I.free,I.freeC,fun p hp=>I.pin p (by rw[AK] at hp;e hp),I.hok,I.len⟩
þ Inv.ofBear (I:Inv (X.bear (X.pn++pins) W) pins' σ H s):Inv X pins σ H s :=
 ⟨⟨I.ok.mod,I.ok.kind,I.ok.glob,I.ok.blt,I.ok.above,I.ok.inj,I.ok.has,I.ok.cab,I.ok.hd,I.ok.frames,I.ok.stk,I.ok.exf,I.ok.bs,I.ok.bsz,I.ok.noex,I.ok.exfs,I.ok.funs,I.ok.frf⟩,I.os,I.bare,I.base,I.loc,I.cell,I.free,I.freeC,fun p hp=>I.pin p (AR _ hp),I.hok,I.len⟩
þ SP.ofBear {D:gu}{f:Flow}(h:SP (X.bear (X.pn++pins) W) pins' D f s'):SP X pins D f s':=by
 cases f with
 | next=>o⟨σ',H',I,q⟩:=h;e⟨σ',H',I.ofBear,q⟩
 | brk=>o⟨σ',H',I,q⟩:=h;e⟨σ',H',I.ofBear,q⟩
 | cont=>o⟨σ',H',I,q⟩:=h;e⟨σ',H',I.ofBear,q⟩
 | ret u=>o⟨v,σ',H',I,r,q⟩:=h;e⟨v,σ',H',I.ofBear,r,q⟩
þ Inv.toH {e:Addr}{oe:Obj}(I:Inv X pins σ H s)(he:s.heap.get? e=some oe)(hn:H e=none)(hl:e≠X.env.locals)(hf:e∉X.fs)(hc:∀ v,oe.data≠.cell v):Inv (cxH X e oe) pins σ H s :=
 ⟨⟨I.ok.mod,I.ok.kind,I.ok.glob,I.ok.blt,I.ok.above,I.ok.inj,I.ok.has,I.ok.cab,fun z=>(nomatch z),I.ok.frames,I.ok.stk,I.ok.exf,I.ok.bs,I.ok.bsz,I.ok.noex,I.ok.exfs,I.ok.funs,I.ok.frf⟩,I.os,I.bare,I.base,I.loc,I.cell,I.free,I.freeC,fun p hp=>by
   rcases List.mem_cons.mp (show p∈(e,oe)::(X.pn++pins) from hp) with rfl | hp
   . e⟨he,hn,hl,hf,hc⟩
   . e I.pin p hp,I.hok,I.len⟩
þ Inv.ofH {e:Addr}{oe:Obj}(ok:X.Ok)(I:Inv (cxH X e oe) pins σ H s):Inv X pins σ H s :=
 ⟨ok,I.os,I.bare,I.base,I.loc,I.cell,I.free,I.freeC,fun p hp=>I.pin p (zX _ hp),I.hok,I.len⟩
þ ya {B h5:Heap}(I:Inv X pins σ H s)(hos:s'.os=s.os)(hba:AllBare s'.gens)(hun:Un (frs X.stack) [] H H' s.heap s'.heap)(hok:HOk X.prog X.w H' s'.heap)(hB:B.StaysIn h5)(up:s'.heap.UpToSlots h5)
   (k1:∀ b o,s.heap.get? b=some o→b∉frs X.stack→∃ o',B.get? b=some o'∧(H b=none→o'=o))(k2:∀ b u,H' b=some u→∀ o,s'.heap.get? b=some o→B.get? b=some o):Inv X pins σ H' { s' with heap:=h5 }:=by
 h no:∀ b:Addr,b∉([]:List Addr):=fun b z=>by cases z
 r I.call' (s':={ s' with heap:=h5 }) (ch:=[]) hos ⟨fun b o ho hn hf _=>?_,fun b o ho hn hf _=>?_,hun.free,fun b o ho _=>?_,hun.tups,hun.frzs,hun.tbls⟩ (hok.by fun b u hb o ho=>hB b o (k2 b u hb o ho)) hba (fun b z=>absurd z (no b))
 . o⟨o',e1,e2⟩:=k1 b o ho hf;rw[e2 hn] at e1;e hB b o e1
 . o⟨sl,e1⟩:=hun.slot b o ho hn hf (no b);o⟨_,oo,e2,e3⟩:=I.stack.mem hf;rw[ho] at e2;cases e2;o⟨sl2,e4⟩:=up b _ e1 e3;e⟨sl2,e4⟩
 . by_cases hf:b∈frs X.stack
   . o⟨_,oo,e2,e3⟩:=I.stack.mem hf;rw[ho] at e2;cases e2;o⟨sl,e1⟩:=hun.slot b o ho (I.stkFree b hf) hf (no b);o⟨sl2,e4⟩:=up b _ e1 e3;e⟨_,e4⟩
   . o⟨o',e1,_⟩:=k1 b o ho hf;e⟨o',hB b o' e1⟩
þ jC {M:Model}{A:Around}{E:Value→Shared→Prop}{i:Nat}{n:Str}{pos:Pos}{Q:Unit→Shared→Prop}(I:Inv X pins σ H s)(hN:X.N.Nodup)(hi:X.N[i]?=some n)(hk:X.env.scope.names.lookup n=some .local)
   (h:∀ s',Inv X pins (σ.set i none) H s'→Q () s'):wpAny M A (do bindName X.env n .none;unbindBehindTheSuite X.env n pos) Q E s:=by
 o⟨m,hn,hl⟩:=id I.loc
 h hcls:(X.env.scope.kind==.class||(X.env.scope.kind==.module&&X.env.locals != X.env.globals))=false:=by rw[I.ok.kind];rfl
 o⟨oL,_,_,hoL,_⟩:=id hn;r wpAny_nameGoes_keeps hk hn hcls fun h' v hn' hs=>h _ ?_
 h far:∀ b o,X.s₀.heap.get? b=some o→b≠X.env.locals:=fun b o e z=>by
   h h1:=Heap.lt_size e;h h2:=I.ok.above;rw[z] at h1;e absurd (z9 h1 h2) (A7 _)
 h keepH:∀ b u,H b=some u→b≠X.env.locals:=fun b u e z=>by rw[z,I.free] at e;cases e
 r⟨I.ok,I.os,I.bare,⟨fun b o e n hb hx=>(hs.2 b (far b o e)).trans (I.base.keep b o e n hb hx),fun b o e n hb hx=>?_,I.base.free,fun b o e hx=>?_,I.base.tups,I.base.frzs,I.base.tbls⟩,⟨_,hn',fun j y v' e1 e2 e3=>?_⟩,fun y c e=>?_,I.free,I.freeC,fun p hp=>?_,I.hok.by fun b u hb o ho=>(hs.2 b (keepH b u hb)).trans ho,by rw[Co];e I.len⟩
 . o⟨sl,e1⟩:=I.base.slot b o e n hb hx;e⟨sl,(hs.2 b (far b o e)).trans e1⟩
 . o⟨o',e1⟩:=I.base.there b o e hx;e⟨o',(hs.2 b (far b o e)).trans e1⟩
 . h hij:i≠j:=fun z=>by
     subst z
     h hlt:i < σ.length:=by rw[I.len];e(List.getElem?_eq_some_iff.mp hi).1
     rw[BF hlt] at e2;cases e2
   rw[BO hij] at e2;o⟨u,r,lk⟩:=hl j y v' e1 e2 e3;r⟨u,r,?_⟩
   rcases lk with ⟨q1,q2⟩ | ⟨q1,c,q2,q3⟩
   . r .inl ⟨q1,?_⟩;h hne:y≠n:=fun z=>hij (kP hN hi (by rw[←z];e e1));show(if y=n then v else m y)=some u;rw[if_neg hne];e q2
   . r .inr ⟨q1,c,q2,?_⟩;o⟨oc,h1,h2⟩:=q3;e⟨oc,(hs.2 c (I.cne _ _ q2)).trans h1,h2⟩
 . o⟨w',oc,h1,h2⟩:=I.cell y c e;e⟨w',oc,(hs.2 c (I.cne _ _ e)).trans h1,h2⟩
 . o⟨p1,p2,p3,p4,p5⟩:=I.pin p hp;e⟨(hs.2 _ p3).trans p1,p2,p3,p4,p5⟩
end
noncomputable def u0 (i:Nat)(D:gu):gu:={ nx:=fun σ2 H2=>D.nx (σ2.set i none) H2,rt:=D.rt,bk:=fun σ2 H2=>D.bk (σ2.set i none) H2,ct:=fun σ2 H2=>D.ct (σ2.set i none) H2 }
noncomputable def wM (K:Frag) (dip:Value) (len i:Nat)(th:Addr→Addr→TS)(D:gu):XK:=fun cls _ H'=>∃ C,cls=.ref C∧ExcC K C∧exmOne K (.ref C) dip=some true∧∀ (e:Addr) (σ':St),σ'.length=len→th C e (u0 i D) (σ'.set i (§e)) H'
noncomputable def xr (K:Frag) (dip:Value) (len i:Nat)(tb:XK→TS)(th:Addr→Addr→TS):TS:=fun D σ H=>tb (wM K dip len i th D) D σ H
þ yx {X:Cx}{body suite:List Stmt}{b0:Stmt}{x n:Str}{i:Nat}{dip:Value}{np hpos pos:Pos}{tb:XK→TS}{th:Addr→Addr→TS}(hN:X.N.Nodup)(hi:X.N[i]?=some n)(hk:X.env.scope.names.lookup n=some .local)
   (hst:X.stack=X.env::X.outer)(hfr:X.env.frame=some X.env.locals)(hg:Gl X x)(hm:X.mg x=some dip)(hdb:(x==("__debug__":Str))=false)
   (hb:∀ (pn:List (Addr×Obj))(W:Value→Shared→Prop)(E1:XK),dA (CX1 X.prog X.w) (X.bear pn W) E1→PSs (X.bear pn W) body (tb E1))
   (hh:∀ (C e:Addr)(oe:Obj),oe.cls=.ref C→ExcC X.K C→PSs (cxH X e oe) (b0::suite) (th C e)) :
   PS X (.Try body [.ExceptHandler (some (.Name x np)) (some n) (b0::suite) hpos] [] [] pos) (xr X.K dip X.N.length i tb th):=by
 intro pins s σ H D I h;r wpAny_Try_except ?_;r wpAny_mono (hb (X.pn++pins) _ _ ?_ s σ H D (I.toBear _) h) (fun f s1 q=>?_) (fun _ _ z=>z)
 case refine_2 =>
   h q':SP X pins D f s1:=SP.ofBear q
   cases f with
   | next=>e wpAny_execs_nil q'
   | brk=>e q'
   | cont=>e q'
   | ret u=>e q'
 rintro pins' σ' H0 s0 ev s' I0 ⟨e,cls,a0,H',B,rfl,hos,hba,hun,hok,hfl,k1,k2,C,rfl,hC,hx,hth⟩;h I1:Inv X pins σ' H0 s0:=I0.ofBear
 h hfl':Heap.FlyingW B (X.env::X.outer) e (.ref C) a0 s'.heap:=by rw[←hst];e hfl
 h hfrs:X.A.frames=some (X.env::X.outer):=by rw[←hst];e I.ok.frames
 h eff:∀ {h6:Heap},Heap.FlyingW B (X.env::X.outer) e (.ref C) a0 h6→s'.heap.UpToSlots h6→∃ oe,h6.get? e=some oe∧oe.cls=.ref C∧Inv (cxH X e oe) pins σ' H' { s' with heap:=h6 }:=fun {h6} fl up=>by
   h I5:=ya (H':=H') I1 hos hba hun hok fl.1 up k1 k2;o⟨oe,vs,g1,g2,g3,_⟩:=fl.first
   h hne:H' e=none:=by
     cases q:H' e with
     | none=>rfl
     | some u =>
       o⟨ob,hob⟩:=hok.has q;have:=k2 e u q ob hob;rw[fl.2.1] at this;cases this
   r⟨oe,g1,g2,I5.toH g1 hne (fun z=>?_) (fun z=>?_) (fun v z=>by rw[g3] at z;cases z)⟩
   . o⟨m,⟨oL,es,ep,ho,hd,_⟩,_⟩:=I5.loc;h ho':h6.get? X.env.locals=some oL:=ho;rw[←z,g1] at ho';cases ho';rw[hd] at g3;cases g3
   . h hm2:e∈frs (X.env::X.outer):=by
       unfold frs;rw[Bz,hfr];e zX _ z
     o⟨_,oo,ho,hd⟩:=fl.2.2.1.mem hm2;rw[g1] at ho;cases ho;e hd _ g3
 show wpAny (model X.prog X.w) X.A (noteFrame (.ref e) X.env) _ _ s';r wpAny_looks_onW hfrs hfr hfl' fun h4 held4 up4=>?_;r wpAny_landsW held4 fun h5 fl5 up5=>?_;o⟨oe5,g1,g2,IH5⟩:=eff fl5 (up4.trans up5);r wpAny_handleBy_cons (codeAny_handlers_test ?_) (by intro q;cases q);r io (X:=cxH X e oe5) IH5 hg hm ?_ hdb;h LM:=exm_one (M:=model X.prog X.w) (IH5.ofH I.ok).kIn (je.ty ⟨oe5,g1,g2⟩ _) hx;r LM.at ?_;r codeAny_handlers_suite_as ?_;r lands_againW fl5 fun h6 fl6 up6=>?_;o⟨oe,g3,g4,IH6⟩:=eff fl6 ((up4.trans up5).trans up6);r ku (X:=cxH X e oe) (v:=.ref e) (u:=.ref e) IH6 hN hi (.inl hk) rfl (fun s7 IH7=>?_) (.inr hk);h run:=hh C e oe g4 hC s7 (σ'.set i (§e)) H' (u0 i D) IH7 (hth e σ' IH6.len);r wpAny_mono run (fun f s8 q=>?_) (fun _ _ z=>z.elim);show wpAny (model X.prog X.w) X.A (do bindName X.env n .none;unbindBehindTheSuite X.env n hpos) (fun _ s9=>SP X pins D f s9) X.xe s8
 cases f with
 | next =>
   o⟨σ2,H2,J,q⟩:=q;e jC (J.ofH I.ok) hN hi hk fun s9 J9=>⟨_,H2,J9,q⟩
 | brk =>
   o⟨σ2,H2,J,q⟩:=q;e jC (J.ofH I.ok) hN hi hk fun s9 J9=>⟨_,H2,J9,q⟩
 | cont =>
   o⟨σ2,H2,J,q⟩:=q;e jC (J.ofH I.ok) hN hi hk fun s9 J9=>⟨_,H2,J9,q⟩
 | ret u =>
   o⟨v,σ2,H2,J,r,q⟩:=q;e jC (J.ofH I.ok) hN hi hk fun s9 J9=>⟨v,_,H2,J9,r,q⟩
end L2
namespace L2
open PySem PySem.Spec PyProof.Rows
þ nR {prog:Program}{w:World}{A:Around}{R:Result→Shared→Prop}{s:Shared}{elt target iter cnd:Expr}{scope:Scope}{pos:Pos}{it acc:Value}{env:Env}(I:Nat→Shared→Prop)
   (turn:∀ n s,I n s→∀ E:Value→Shared→Prop,wpAny (model prog w) A (pyNext it) (fun r s₁=>match r with
     | none=>R (.ok .next) s₁
     | some v=>wpAny (model prog w) A (letOwnedTupleGo target it v) (fun _ s₁'=>wpAny (model prog w) A (assign target env v) (fun _ s₂=>wpAny (model prog w) A (isTrue cnd env (eval cnd env)) (fun ok s₂' =>
       if ok=true then wpAny (model prog w) A (eval elt env) (fun x s₃=>wpAny (model prog w) A (call (.builtin "list.append") [acc,x]) (fun _ s₄=>∃ m,m < n∧I m s₄) E s₃) E s₂' else ∃ m,m < n∧I m s₂') E s₂) E s₁') E s₁) E s)
   (n:Nat)(h:I n s) :
   codeAny (model prog w) A (.compLoop (.ListComp elt [⟨target,iter,[cnd],0⟩] scope pos) 0 it acc env) R s:=by
 r codeAny_loop rfl I (fun n s hI=>?_) n h;show wpAny _ _ ((compTurn (.ListComp elt [⟨target,iter,[cnd],0⟩] scope pos) 0 it acc env).onRaise _) _ _ s;r wpAny_noted ?_;rw[compTurn_list];r wpAny_bind (wpAny_standAt (wpAny_bind (wpAny_mono (turn n s hI _) (fun r s₁ h₁=>?_) fun _ _ h'=>h')))
 cases r with
 | none=>e wpAny_pure h₁
 | some v =>
   r wpAny_bind (wpAny_mono h₁ (fun _ s₁' h₁=>?_) fun _ _ h'=>h');r wpAny_bind (wpAny_mono h₁ (fun _ s₂ h₂=>?_) fun _ _ h'=>h');r wpAny_bind (wpAny_tests_one (wpAny_mono h₂ (fun ok s₃ h₃=>?_) fun _ _ h'=>h'))
   cases ok with
   | false=>e wpAny_pure ⟨rfl,h₃⟩
   | true =>
     rw[if_pos rfl] at h₃ ⊢;e wpAny_bind (wpAny_bind (wpAny_mono h₃ (fun x s₄ h₄=>wpAny_bind (wpAny_mono h₄ (fun _ s₅ h₅=>wpAny_pure (wpAny_pure ⟨rfl,h₅⟩)) fun _ _ h'=>h')) fun _ _ h'=>h'))
noncomputable def my (J:It)(g:TG)(tc:TT)(te:TE)(D:Addr)(Q:Hp→Prop) (σ:St)(H:Hp):Prop :=
 ∃ W:Nat→Nat→St→Hp→Prop,(∃ m,W 0 m σ H)∧∀ i m σ' H',W i m σ' H' →
   (J.stop i H'∧Q H')∨(J.go i H'∧∃ N:St→Hp→Prop,(∀ σ'' H'',N σ'' H''→∃ m',m' < m∧W (i+1) m' σ'' H'') ∧
     ∀ x H2,J.yld i H' x H2→g x σ' H2 fun σ2 H3=>tc σ2 H3 fun b H3'=>if b=true then te σ2 H3' fun v H4=>∃ xs,H4 D=some (.lst xs)∧xs.length < sizeLine∧N σ2 (upd H4 D (.lst (xs++[v]))) else N σ2 H3')
section
variable {X:Cx}{pins:List (Addr×Obj)}{σ:St}{H:Hp}{s:Shared}{scope:Scope}{N':List Str}{pk:List (Option Nat)}{fp:List Addr}
þ lC {elt tg iter cnd:Expr}{g:TG}{tc:TT}{te:TE}{J:It}{it:Addr}{tn:Nat→Heap→Prop}{pos:Pos}{QD:Addr→Hp→Prop}{E:Value→Shared→Prop}{RR:Value→Addr→Result→Shared→Prop}
   (I:Inv X pins σ H s)(B:bZ X.N X.env scope N' pk)(hc:X.calm=true)(T:nU X.prog X.w X.K tg J fp it tn)(st:tn 0 s.heap)(hf:∀ b∈fp,fw X pins H b)
   (hg:∀ s H ex,PG (cxB X N' scope s H ex) tg g)(ht:∀ s H ex,PT (cxB X N' scope s H ex) cnd tc)(he:∀ s H ex,PE (cxB X N' scope s H ex) elt te)
   (hW:∀ D,H D=none→my J g tc te D (QD D) (fY pk σ) (upd H D (.lst [])))
   (fin:∀ D C s' H' m,Inv X pins σ H' s'→fw X pins H' C→s'.heap.Ns C m→QD D H'→RR (.ref D) C (.ok .next) s') :
   wpAny (model X.prog X.w) X.A (newList []) (fun acc s₃=>wpAny (model X.prog X.w) X.A (newFunctionEnv scope X.env.globals (jp scope X.env) [] X.env.qual none .none (some X.env)) (fun cenv s₄ =>
     codeAny (model X.prog X.w) X.A (.compStart (.ListComp elt [⟨tg,iter,[cnd],0⟩] scope pos) 0 (.ref it) acc { cenv with scope:=relabel scope X.env }) (RR acc cenv.locals) s₄) E s₃) E s:=by
 h hD0:H s.heap.objs.size=none:=I.hok.fresh (zN _);r wpAny_newObj_type (wpAny_newFunctionEnv B.nocell (by intro y hy;simp at hy) (fun h₁ hns₁ hsb₁=>?_) B.kind);dsimp only at hns₁ hsb₁ ⊢;h I3:Inv X pins σ (upd H s.heap.objs.size (.lst [])) { s with heap:=s.heap.push { cls:=.type "list",dict:=none,data:=.seq ([]:List Value).toArray } }:=I.lnew (t':=s.toks) .nil (AA _);o⟨W,⟨m0,w0⟩,turn⟩:=hW _ hD0;generalize hs3:({ s with heap:=s.heap.push { cls:=.type "list",dict:=none,data:=.seq ([]:List Value).toArray } }:Shared)=s3 at I3
 h eh:s.heap.push { cls:=.type "list",dict:=none,data:=.seq ([]:List Value).toArray }=s3.heap:=by rw[←hs3]
 h hold:∀ b o,s.heap.get? b=some o→s3.heap.get? b=some o:=fun b o e=>by rw[←eh];e Heap.get?_push_of_some _ e
 rw[eh] at hns₁ hsb₁;h hs:∀ b o,s3.heap.get? b=some o→h₁.get? b=some o:=fun b o e=>hsb₁.extBut b o (z6 (Heap.lt_size e)) (Heap.get?_push_of_some _ e)
 h hf3:∀ b∈fp,fw X pins (upd H s.heap.objs.size (.lst [])) b:=fun b hb=>by
   r⟨?_,(hf b hb).2⟩;o⟨o,e,_⟩:=T.obj 0 _ st b hb;rw[ai (z6 (Heap.lt_size e))];e(hf b hb).1
 h ho3:∀ b∈fp,∃ o,s3.heap.get? b=some o:=fun b hb=>by
   o⟨o,e,_⟩:=T.obj 0 _ st b hb;e⟨o,hold _ _ e⟩
 h st1:tn 0 h₁:=T.keep 0 _ _ st fun b hb o e=>hs b o (hold b o e)
 h esh:∀ t,({ s with heap:=h₁,toks:=t }:Shared)={ s3 with heap:=h₁,toks:=t }:=fun t=>by rw[←hs3]
 h loop:∀ t,codeAny (model X.prog X.w) X.A (.compLoop (.ListComp elt [⟨tg,iter,[cnd],0⟩] scope pos) 0 (.ref it) (.ref s.heap.objs.size) (compEnvC scope (jp scope X.env) s3.heap.objs.size X.env))
     (RR (.ref s.heap.objs.size) s3.heap.objs.size) { s with heap:=h₁,toks:=t }:=fun t=>by
   rw[esh t];h IB:Inv (cxB X N' scope s3 (upd H s.heap.objs.size (.lst [])) fp) [] (fY pk σ) (upd H s.heap.objs.size (.lst [])) { s3 with heap:=h₁,toks:=t }:=rO I3 B hf3 ho3 hns₁ hs
   h f2:∀ b∈fp,fw (cxB X N' scope s3 (upd H s.heap.objs.size (.lst [])) fp) [] (upd H s.heap.objs.size (.lst [])) b:=fun b hb =>
     ⟨(hf3 b hb).1,(IB.ok.exf b hb).1,IB.ok.exfs b hb,.inl hb,(IB.ok.exf b hb).2,fun p hp=>absurd (show p∈([]:List (Addr×Obj)) from hp) (by simp)⟩
   h stat:∀ {H':Hp},(∀ b∈fp,H' b=none)→∀ b∈fp,fw (cxB X N' scope s3 (upd H s.heap.objs.size (.lst [])) fp) [] H' b:=fun hn b hb=>⟨hn b hb,(f2 b hb).2⟩;r nR (fun n s'=>∃ i σ' H',Inv (cxB X N' scope s3 (upd H s.heap.objs.size (.lst [])) fp) [] σ' H' s'∧tn i s'.heap∧(∀ b∈fp,H' b=none)∧W i n σ' H') ?_ m0 ⟨0,_,_,IB,st1,fun b hb=>(f2 b hb).1,w0⟩;rintro n s4 ⟨i,σ4,H4,I4,st4,fr4,w4⟩ E'
   rcases turn i n σ4 H4 w4 with ⟨stop,qn⟩ | ⟨go,N,hN,step⟩
   . r thn (T.done (cxB X N' scope s3 (upd H s.heap.objs.size (.lst [])) fp) rfl rfl rfl hc i [] s4 σ4 H4 E' I4 (stat fr4) st4 stop) fun r s5 ⟨hr,I5⟩=>?_;subst hr;o⟨m5,hn5,_⟩:=I5.loc;h IX:Inv X pins σ H4 s5:=I3.call' (ch:=fp) I5.os I5.base I5.hok I5.bare fun b hb=>⟨(hf3 b hb).2.2.2.1,(hf3 b hb).2.1,(hf3 b hb).2.2.2.2.1,(hf3 b hb).2.2.2.2.2⟩;e fin _ _ s5 H4 m5 IX (I3.fpOk (zN _) I5.free) hn5 qn
   . r thn (T.item (cxB X N' scope s3 (upd H s.heap.objs.size (.lst [])) fp) rfl rfl rfl hc i [] s4 σ4 H4 E' I4 (stat fr4) st4 go) fun r s5 ⟨u,hr,h5⟩=>?_;subst hr;r thn h5 fun _ s6 ⟨x,H6,I6,r6,y6,st6,fr6⟩=>?_;h I6':=I6.pinned (stat fr6) (T.obj _ _ st6);r wpAny_mono (hg _ _ _ s6 σ4 H6 x u _ I6' r6 (step x H6 y6)) (fun _ s7 ⟨σ7,H7,I7,q7⟩=>?_) fun _ _ z=>False.elim z;r wpAny_mono (ht _ _ _ s7 σ7 H7 _ I7 q7) (fun bb s7' ⟨H7',I7',q7'⟩=>?_) fun _ _ z=>False.elim z
     h back:∀ H9 s9,Inv (cxB X N' scope s3 (upd H s.heap.objs.size (.lst [])) fp) ([]++kQ fp s6.heap) σ7 H9 s9→N σ7 H9→∃ m,m < n∧∃ i σ' H',Inv (cxB X N' scope s3 (upd H s.heap.objs.size (.lst [])) fp) [] σ' H' s9∧tn i s9.heap∧(∀ b∈fp,H' b=none)∧W i m σ' H':=fun H9 s9 I9 n9=>by
       o⟨m',hm,w9⟩:=hN σ7 H9 n9;r⟨m',hm,i+1,σ7,H9,I9.unpinned,T.keep _ _ _ st6 fun b hb o e=>(I9.pin (b,o) (Ae _ (Ae _ (dD hb e)))).1,fun b hb=>?_,w9⟩;o⟨o,e,d⟩:=T.obj _ _ st6 b hb;e(I9.pin (b,o) (Ae _ (Ae _ (dD hb e)))).2.1
     cases bb with
     | false=>e back H7' s7' I7' q7'
     | true =>
       r wpAny_mono (he _ _ _ s7' σ7 H7' _ I7' q7') (fun w s8 ⟨v,H8,I8,r8,xs,hx8,hl8,n8⟩=>?_) fun _ _ z=>False.elim z;r wpAny_mono (bT (X:=cxB X N' scope s3 (upd H s.heap.objs.size (.lst [])) fp) _ s8 σ7 H8 (.ref s.heap.objs.size) [v] (.ref s.heap.objs.size) [w] (fun _ H9=>N σ7 H9) I8 rfl (.cons r8 .nil) ⟨_,xs,v,rfl,rfl,hx8,hl8,n8⟩) (fun _ s9 ⟨_,H9,I9,_,n9⟩=>?_) fun _ _ z=>False.elim z;e back H9 s9 I9 n9
 rw[←eh] at loop;e codeAny_compStart_list (loop _) (T.self _ _ _ _ _ st1 (loop _))
noncomputable def ni (pk:List (Option Nat))(wi:TI)(g:TG)(tc:TT)(te:TE):TE:=fun σ H Q=>wi σ H fun J H1=>∀ D,H1 D=none→my J g tc te D (fun H'=>Q (.ref D) H') (fY pk σ) (upd H1 D (.lst []))
þ eX {elt tg iter cnd:Expr}{wi:TI}{g:TG}{tc:TT}{te:TE}{pos:Pos}(hc:X.calm=true)(B:bZ X.N X.env scope N' pk)(hi:PI X tg iter wi)
   (hg:∀ s H ex,PG (cxB X N' scope s H ex) tg g)(ht:∀ s H ex,PT (cxB X N' scope s H ex) cnd tc)(he:∀ s H ex,PE (cxB X N' scope s H ex) elt te)(hs:∀ x,foldedSetIterable iter X.env x=pure x:=by intro _;rfl) :
   PE X (.ListComp elt [⟨tg,iter,[cnd],0⟩] scope pos) (ni pk wi g tc te):=by
 intro pins s σ H Q I h;rw[eval_ListComp];h hclos:=ff (ib I B);r wpAny_comprehension_free (use:=none) rfl hs hclos B.kind B.names (thn (hi s σ H _ I h) fun v s1 h1=>thn h1 fun itv s2 h2=>?_);o⟨it,fp,tn,J,H2,e,I2,T,st2,f2,hW⟩:=h2;subst e;r lC (QD:=fun D H'=>Q (.ref D) H') (RR:=fun acc C=>compPost (model X.prog X.w) X.A X.xe none (EP X pins σ Q) acc C) I2 B hc T st2 f2 hg ht he hW fun D C s' H' m I' f' hn q=>?_;e⟨m,hn,fun h' hs'=>⟨.ref D,H',I'.gone f' hs',rfl,q⟩⟩
end
end L2
namespace L2
open PySem
section
variable {X:Cx}
end
end L2
namespace L2
open PySem PySem.Spec PyProof.Rows PySem.W
end L2
namespace L2
open PySem PySem.Spec PyProof.Rows
noncomputable def xv (cs:List Int):TA:=fun _ H Q=>Q (cs.map V.int) H
noncomputable def xt (cs:List Str):TA:=fun _ H Q=>Q (cs.map V.str) H
abbrev rl (K:PySem.W.Frag):List V→Hp→VK→Prop:=fun xs H Q=>∃ p ys,xs=[.ref p]∧(SqL K H p ys∨SqT K H p ys)∧∀ l,H l=none→Q (.ref l) (upd H l (.lst ys))
þ gA {P:Program}{w:World}{X:Cx}:dA (CX1 P w) X (fun _ _ _=>False):=fun _ _ _ _ _ _ _ ⟨_,_,_,_,_,_,_,_,_,_,_,_,_,h⟩=>h.elim
þ im (L:List Int){x:Int}(h0:0≤x)(h1:x < L.length):∃ y∈L,atI (L.map V.int) x=some (V.int y):=by
 o⟨j,rfl⟩:=A3 h0
 h hj:j < L.length:=by m
 e⟨L[j],AM hj,bU (by rw[zK,zJ hj];rfl)⟩
þ cY {t u:TS}{D:gu}{σ:St}{H:Hp}(Pv:St→Hp→Prop)(h:∀ R:St→Hp→Prop,(∀ σ' H',Pv σ' H'→R σ' H')→t { D with nx:=R } σ H)(k:∀ σ' H',Pv σ' H'→u D σ' H'):xU t u D σ H:=⟨Pv,h Pv (fun _ _ x=>x),k⟩
þ ms {ns:List Int}:∀ {us:List Value},Vals (ns.map V.int) us→IntsAre us ns:=by
 induction ns with
 | nil=>intro us r;rw[Bf] at r;cases r;e .nil
 | cons n ns ih =>
   intro us r;rw[z8] at r
   cases r with
   | cons r1 r2 =>
     o⟨t,e⟩:=r1;cases e;e .cons n t (ih r2)
section
variable {X:Cx}
þ tq (hc:X.calm=true):cv X (.builtin "max") (fun xs H Q=>∃ (a:Addr)(ns:List Int),xs=[.ref a]∧SqL X.K H a (ns.map V.int)∧0 < ns.length∧∀ M,M∈ns→(∀ a∈ns,a≤M)→Q (.int M) H):=by
 intro pins s σ H xs us Q I r h;o⟨a,ns,rfl,ha,hne,q⟩:=h;o⟨u,rfl,ru⟩:=eA r;cases ru;o⟨its,rv,pl,_⟩:=I.list ha;h hl:=pl.isList;h hi:=ms rv;o⟨xs,e⟩:=hi.allInts.items
 h hns:ns=xs.toList.map (·.1):=by
   rw[←hi.numsOf,←nums_intItems,←e]
 h hsz:0 < xs.size:=by
   h h3:=hne;rw[hns,be,Ap] at h3;e h3
 rw[e] at hl;r max_intList (I.ok.hd hc) hl hsz fun v h' tk hv hk=>?_;o⟨t,rfl⟩:=intItems_at hv;o⟨h1,h2⟩:=argBest_gt (numAt xs) (xs.size - 1);r⟨.int _,H,I.kept hk,⟨t,rfl⟩,q _ ?_ fun a ha=>?_⟩
 . rw[hns,numAt_eq];e getD_mem (by rw[be,Ap];m)
 . rw[hns] at ha;o⟨j,hj,rfl⟩:=mem_getD ha;rw[be,Ap] at hj;rw[←numAt_eq];e h2 j (by m)
end
þ bo {J:It}{H0:Hp}{n:Nat}{vs:Nat→V→Prop}{g:TG}{tb:TS}{D:gu}{σ:St}{H:Hp}(S:d8 J H0 n vs)(Pv:Nat→St→Hp→Prop)(h0:Pv 0 σ H)(hsame:∀ i σ H,i≤n→Pv i σ H→af H0 H)
   (hs:∀ i x σ H,i < n→vs i x→Pv i σ H→∀ R:St→Hp→Prop,(∀ σ' H',Pv (i+1) σ' H'→R σ' H')→g x σ H fun σ2 H2=>tb { D with nx:=R,ct:=R,bk:=D.nx } σ2 H2)(hd:∀ σ H,Pv n σ H→D.nx σ H):t6 J g tb D σ H :=
 bj S Pv h0 hsame (fun i x σ H hi hx p=>hs i x σ H hi hx p _ fun _ _ z=>z) hd
section
variable {X:Cx}
þ Inv.thaw {pins:List (Addr×Obj)}{σ:St}{H:Hp}{s:Shared}{d:Addr}{o:Obj}{kvs:List (Key×V)}(I:Inv X pins σ H s)(h:H d=some (.frz o (.dK kvs)))(h0:∀ o u,X.H₀ d≠some (.frz o u)):Inv X pins σ (upd H d (.dK kvs)) s:=by
 h ne:∀ b,H b=none→b≠d:=fun b e z=>by rw[z,h] at e;cases e
 r⟨I.ok,I.os,I.bare,⟨I.base.keep,I.base.slot,fun b ob e n hx=>?_,I.base.there,fun b xs e=>?_,fun b ob u e=>?_,fun b ps e=>?_⟩,I.loc,I.cell,?_,fun x c e=>?_,fun p hp=>?_,fun a u e=>?_,I.len⟩
 . have:=I.base.free b ob e n hx;rw[ai (ne b this)];e this
 . have:=I.base.tups b xs e
   h hb:b≠d:=fun z=>by rw[z,h] at this;cases this
   rw[ai hb];e this
 . have:=I.base.frzs b ob u e
   h hb:b≠d:=fun z=>by rw[z] at e;e h0 _ _ e
   rw[ai hb];e this
 . o⟨more,this⟩:=I.base.tbls b ps e
   h hb:b≠d:=fun z=>by rw[z,h] at this;cases this
   e⟨more,by rw[ai hb];e this⟩
 . rw[ai (ne _ I.free)];e I.free
 . rw[ai (ne _ (I.freeC x c e))];e I.freeC x c e
 . o⟨e1,n,r⟩:=I.pin p hp;e⟨e1,by rw[ai (ne _ n)];e n,r⟩
 . h ho:∀ b y,H b=some (.own y)→upd H d (.dK kvs) b=some (.own y):=fun b y q=>by
     h hb:b≠d:=fun z=>by rw[z,h] at q;cases q
     rw[ai hb];e q
   h ht:∀ b xs,H b=some (.tup xs)→upd H d (.dK kvs) b=some (.tup xs):=fun b xs q=>by
     h hb:b≠d:=fun z=>by rw[z,h] at q;cases q
     rw[ai hb];e q
   by_cases ha:a=d
   . subst ha;rw[ac] at e;cases e;have:=I.hok a _ h;e bR.stay this.2 (fun _ _ _ q=>q) (fun b q=>ho b _ q) ht
   . rw[ai ha] at e;e bR.stay (I.hok a _ e) (fun _ _ _ q=>q) (fun b q=>ho b _ q) ht
noncomputable def ui (H0:Hp)(te:TE):TE:=fun σ H Q=>te σ H fun v H'=>Q v H'∨∃ d o kvs,H' d=some (.frz o (.dK kvs))∧(∀ o u,H0 d≠some (.frz o u))∧Q v (upd H' d (.dK kvs))
þ wL {e:Expr}{te:TE}(h:PE X e te):PE X e (ui X.H₀ te):=by
 intro pins s σ H Q I q;r thn (h s σ H _ I q) fun v s1 ⟨x,H1,I1,r1,q1⟩=>?_
 rcases q1 with q1 | ⟨d,o,kvs,hd,h0,q1⟩
 . e⟨x,H1,I1,r1,q1⟩
 . e⟨x,_,I1.thaw hd h0,r1,q1⟩
end
þ q9 {CX:CXT}{P:Program}{w:World}{K:PySem.W.Frag}{mg:Str→Option Value}{base:Heap}{N:List Str}{qual:Str}{scope:Scope}{f:Addr}{cd:Value}{A:Around}{outer:List Env}{s:Shared}{H:Hp}{E:XK}:(fK CX P w K mg base N qual scope f cd A outer s H E).H₀=H:=rfl
þ ut {X:Cx}:X.nox.H₀=X.H₀:=rfl
section
variable {X:Cx}
þ r9:∀ (xs ys:List V),xs.length=ys.length→((zS xs.length).all fun j=>eqV (xs.getD j .non) (ys.getD j .non))=(xs.zip ys).all fun p=>eqV p.1 p.2:=by
 intro xs
 induction xs with
 | nil=>intro ys _;rfl
 | cons x xs ih =>
   intro ys h
   cases ys with
   | nil=>simp at h
   | cons y ys =>
     rw[Av,List.range_succ_eq_map,Ce,Cv,A1,Ce]
     h h':xs.length=ys.length:=by simpa using h
     rw[←ih ys h'];rfl
þ nS {its its2:List Value}{xs ys:List V}{A:Around}{s:Shared}(r1:Vals xs its)(r2:Vals ys its2)(f1:xs.all dN=true)(f2:ys.all dN=true)(hl:xs.length=ys.length) :
   ∀ j (h1:j < its.toArray.size)(h2:j < its2.toArray.size),SeqAt.EqAt A s its.toArray[j] its2.toArray[j] (eqV (xs.getD j .non) (ys.getD j .non)):=by
 intro j h1 h2;h l1:=r1.length;h l2:=r2.length
 h hj1:j < xs.length:=by rw[l1];simpa using h1
 h hj2:j < ys.length:=by rw[l2];simpa using h2
 o⟨u1,hu1,ru1⟩:=r1.get (zJ hj1);o⟨u2,hu2,ru2⟩:=r2.get (zJ hj2)
 h e1:its.toArray[j]=u1:=by
   have:=(List.getElem?_eq_some_iff.mp hu1).2
   simpa using this
 h e2:its2.toArray[j]=u2:=by
   have:=(List.getElem?_eq_some_iff.mp hu2).2
   simpa using this
 rw[e1,e2,zM,zM,zJ hj1,zJ hj2];e vz ru1 ru2 (List.all_eq_true.mp f1 _ (AM hj1)) (List.all_eq_true.mp f2 _ (AM hj2))
noncomputable def jY (xs ys:List V):Bool:=decide (xs.length=ys.length)&&(xs.zip ys).all fun p=>eqV p.1 p.2
noncomputable def wk (K:PySem.W.Frag)(neg:Bool):R2:=fun x y H Q=>∃ a b xs ys,x=.ref a∧y=.ref b∧SqL K H a xs∧SqL K H b ys∧((xs.all dN=true∧ys.all dN=true)∨xs.length≠ys.length∨xs=[])∧Q (.bl (neg^^jY xs ys)) H
þ uR (hu:X.A.units < cLine):OpR X (compareOp .Eq) (wk X.K false):=by
 intro pins s σ H x y v u Q I rx ry h;o⟨a,b,xs,ys,rfl,rfl,ha,hb,hf,q⟩:=h;cases rx;cases ry;o⟨its,r1,t1,_⟩:=I.list ha;o⟨its2,r2,t2,_⟩:=I.list hb;h l1:=r1.length;h l2:=r2.length;by_cases hl:xs.length=ys.length
 . h hf':xs.all dN=true∧ys.all dN=true:=by
     rcases hf with h | h | h
     . e h
     . e absurd hl h
     . rw[h];rw[h] at hl;rw[show ys=[] from List.length_eq_zero_iff.mp hl.symm];e⟨rfl,rfl⟩
   r SeqAt.eq_listAt t1.isList t2.isList (by simp;m) hu (nS r1 r2 hf'.1 hf'.2 hl) ?_
   h e:((zS its.toArray.size).all fun j=>eqV (xs.getD j .non) (ys.getD j .non))=jY xs ys:=by
     unfold jY;rw[decide_eq_true hl,Bool.true_and,←r9 xs ys hl,l1];simp
   rw[e];rw[Bool.false_xor] at q;e⟨.bl _,H,I,rfl,q⟩
 . h e:jY xs ys=false:=by unfold jY;rw[decide_eq_false hl,Bool.false_and]
   rw[e] at q;e SeqAt.eq_list_lengthsAt t1.isList t2.isList (by simp;m) hu ⟨.bl _,H,I,rfl,q⟩
þ v4 (hu:X.A.units < cLine):OpR X (compareOp .NotEq) (wk X.K true):=by
 intro pins s σ H x y v u Q I rx ry h;o⟨a,b,xs,ys,rfl,rfl,ha,hb,hf,q⟩:=h;cases rx;cases ry;o⟨its,r1,t1,_⟩:=I.list ha;o⟨its2,r2,t2,_⟩:=I.list hb;h l1:=r1.length;h l2:=r2.length;by_cases hl:xs.length=ys.length
 . h hf':xs.all dN=true∧ys.all dN=true:=by
     rcases hf with h | h | h
     . e h
     . e absurd hl h
     . rw[h];rw[h] at hl;rw[show ys=[] from List.length_eq_zero_iff.mp hl.symm];e⟨rfl,rfl⟩
   r SeqAt.RcNeAt.lists t1.isList t2.isList (by simp;m) hu (nS r1 r2 hf'.1 hf'.2 hl) _ _ _ _ ?_
   h e:((zS its.toArray.size).all fun j=>eqV (xs.getD j .non) (ys.getD j .non))=jY xs ys:=by
     unfold jY;rw[decide_eq_true hl,Bool.true_and,←r9 xs ys hl,l1];simp
   rw[e];rw[Bool.true_xor] at q;e⟨.bl _,H,I,rfl,q⟩
 . h e:jY xs ys=false:=by unfold jY;rw[decide_eq_false hl,Bool.false_and]
   rw[e] at q;e SeqAt.RcNeAt.lists_lengths t1.isList t2.isList (by simp;m) hu _ _ _ _ ⟨.bl _,H,I,rfl,q⟩
þ hJ (xs:List V):jY xs []=decide (xs=[]):=by
 cases xs with
 | nil=>rfl
 | cons x xs=>simp[jY]
end
section
variable {prog:Program}{w:World}{A:Around}{E:Value→Shared→Prop}{s:Shared}
end
section
variable {prog:Program}{w:World}{κ:Type} [DecidableEq κ]{knd:KeyKind prog w κ}
end
section
variable {X:Cx}
end
section
variable {X:Cx}{pins:List (Addr×Obj)}{σ:St}{H:Hp}{s:Shared}{h':Heap}
end
noncomputable def Ite (K:PySem.W.Frag)(a:Addr):It :=
 ⟨fun i H=>∃ xs x,SqL K H a xs∧xs[i]?=some x,fun i H v H'=>∃ T x,H T=none∧v=.ref T∧H'=upd H T (.tup [.int i,x])∧∀ xs,SqL K H a xs→xs[i]?=some x,fun i H=>∃ xs,SqL K H a xs∧xs.length≤i⟩
noncomputable def xk (K:PySem.W.Frag)(ta:TA):TI:=fun σ H R=>ta σ H fun vs H1=>∃ a,vs=[.ref a]∧(∃ xs,SqL K H1 a xs)∧R (Ite K a) H1
section
variable {X:Cx}
end
noncomputable def Itz (K:PySem.W.Frag)(a b:Addr):It :=
 ⟨fun i H=>∃ xs x ys y,SqL K H a xs∧xs[i]?=some x∧SqL K H b ys∧ys[i]?=some y,fun i H v H'=>∃ T x y,H T=none∧v=.ref T∧H'=upd H T (.tup [x,y])∧(∀ xs,SqL K H a xs→xs[i]?=some x)∧∀ ys,SqL K H b ys→ys[i]?=some y,
   fun i H=>∃ xs ys,SqL K H a xs∧SqL K H b ys∧(xs.length≤i∨ys.length≤i)⟩
noncomputable def xx (K:PySem.W.Frag)(ta:TA):TI:=fun σ H R=>ta σ H fun vs H1=>∃ a b,vs=[.ref a,.ref b]∧(∃ xs,SqL K H1 a xs)∧(∃ ys,SqL K H1 b ys)∧R (Itz K a b) H1
section
variable {X:Cx}
end
section
variable {X:Cx}
end
noncomputable def Up (xs:Array Nat):Prop:=xs.toList.Pairwise (· < ·)
þ Up.lt {xs:Array Nat}(u:Up xs){i k:Nat}(h:i < k)(hk:k < xs.size):xs.getD i 0 < xs.getD k 0:=by
 have:=(List.pairwise_iff_getElem.mp u) i k (by rw[Ap];m) (by rw[Ap];e hk) h;simp only[Array.getElem_toList] at this;rw[Au,Au,z7 (by m),z7 hk];e this
þ Up.le {xs:Array Nat}(u:Up xs){i k:Nat}(h:i≤k)(hk:k < xs.size):xs.getD i 0≤xs.getD k 0:=by
 rcases Nat.lt_or_eq_of_le h with h | h
 . e Ci (u.lt h hk)
 . rw[h];e zN _
þ j9 {xs:Array Nat}(u:Up xs) (j:Nat):∀ fuel lo hi,hi≤xs.size→lo≤hi→hi - lo≤fuel→(∀ i,i < lo→xs.getD i 0 < j)→(∀ i,hi≤i→i < xs.size→j≤xs.getD i 0) →
   SetTable.below.go xs j fuel lo hi≤xs.size∧(∀ i,i < SetTable.below.go xs j fuel lo hi→xs.getD i 0 < j)∧∀ i,SetTable.below.go xs j fuel lo hi≤i→i < xs.size→j≤xs.getD i 0
 | 0,lo,hi,h1,h2,h3,h4,h5=>by
   h e:lo=hi:=by m
   subst e;e⟨h1,h4,h5⟩
 | fuel+1,lo,hi,h1,h2,h3,h4,h5=>by
   show(if lo < hi then _ else lo)≤_∧(∀ i,i < (if lo < hi then _ else lo)→_)∧∀ i,(if lo < hi then _ else lo)≤i→_;by_cases hl:lo < hi
   . rw[if_pos hl];dsimp only;by_cases hm:xs.getD ((lo+hi) / 2) j < j
     . rw[if_pos hm]
       h hm':xs.getD ((lo+hi) / 2) 0 < j:=by
         h hlt:(lo+hi) / 2 < xs.size:=by m
         simp only[Au,z7 hlt] at hm ⊢;e hm
       e j9 u j fuel _ hi h1 (by m) (by m) (fun i hi'=>B3 (u.le (by m) (by m)) hm') h5
     . rw[if_neg hm]
       h hm':j≤xs.getD ((lo+hi) / 2) 0:=by
         h hlt:(lo+hi) / 2 < xs.size:=by m
         simp only[Au,z7 hlt] at hm ⊢
         simpa using hm
       e j9 u j fuel lo _ (by m) (by m) (by m) h4 fun i a b=>AB hm' (u.le a b)
   . rw[if_neg hl]
     h e:lo=hi:=by m
     subst e;e⟨h1,h4,h5⟩
þ pA {xs:Array Nat}(u:Up xs) (j:Nat):SetTable.below xs j≤xs.size∧(∀ i,i < SetTable.below xs j→xs.getD i 0 < j)∧∀ i,SetTable.below xs j≤i→i < xs.size→j≤xs.getD i 0 :=
 j9 u j xs.size 0 xs.size (zN _) (AA _) (by m) (fun _ h=>absurd h (Nat.not_lt_zero _)) (fun i a b=>absurd b (by m))
þ sX {xs:Array Nat}(u:Up xs){j:Nat}(hj:xs[SetTable.below xs j]?≠some j):Up (SetTable.insertAt xs (SetTable.below xs j) j):=by
 unfold Up;rw[SetTable.toList_insertAt];o⟨h1,h2,h3⟩:=pA u j
 h g:∀ i (h:i < xs.toList.length),xs.toList[i]=xs.getD i 0:=fun i h=>by
   rw[Au,z7 (by simpa using h)];simp
 h a1:∀ x∈xs.toList.take (SetTable.below xs j),x < j:=by
   intro x hx;o⟨i,hi,e⟩:=List.mem_iff_getElem.mp hx;rw[Aa] at hi;rw[List.getElem_take,g i (by m)] at e;rw[←e];e h2 i (by m)
 h a2:∀ x∈xs.toList.drop (SetTable.below xs j),j < x:=by
   intro x hx;o⟨i,hi,e⟩:=List.mem_iff_getElem.mp hx;rw[AU] at hi;rw[List.getElem_drop,g _ (by m)] at e;rw[←e];rw[Ap] at hi;h b1:=h3 (SetTable.below xs j) (zN _) (by m)
   h b2:xs.getD (SetTable.below xs j) 0≠j:=by
     intro z;rw[Au,z7 (by m)] at z;rw[z7 (by m)] at hj;e hj (congrArg some z)
   e z9 (Nat.lt_of_le_of_ne b1 (Ne.symm b2)) (u.le (by m) (by m))
 h uu:(xs.toList.take (SetTable.below xs j)++xs.toList.drop (SetTable.below xs j)).Pairwise (· < ·):=by rw[List.take_append_drop];e u
 rw[Bt] at uu ⊢;r⟨uu.1,List.pairwise_cons.mpr ⟨a2,uu.2.1⟩,fun a ha b hb=>?_⟩
 rcases List.mem_cons.mp hb with rfl | hb
 . e a1 a ha
 . e uu.2.2 a ha b hb
þ g9 (n:Nat):Up (Array.range n):=by
 unfold Up;rw[Array.toList_range];e List.pairwise_lt_range
þ jL (t:SetTable)(ha:Nat→Int) (h:Int):∀ (fuel:Nat)(p:SetTable.Probe) (j:Nat)(dm:Option Nat),(∀ d,p.dummy=some d→t.slot d=.dummy)→SetTable.probe.go t ha h fuel p=some (.empty j dm)→t.slot j=.empty∧∀ d,dm=some d→t.slot d=.dummy
 | 0,_,_,_,_,e=>by cases e
 | fuel+1,p,j,dm,hp,e=>by
   h adv:∀ q:SetTable.Probe,(t.advance q).dummy=q.dummy:=fun q=>by unfold SetTable.advance;split<;>rfl
   unfold SetTable.probe.go at e
   cases hs:t.slot p.j with
   | empty =>
     rw[hs] at e;simp only[Option.some.injEq,SetTable.Met.empty.injEq] at e;o⟨rfl,rfl⟩:=e;e⟨hs,hp⟩
   | dummy =>
     rw[hs] at e;r jL t ha h fuel _ j dm (fun d hd=>?_) e;rw[adv] at hd;cases hd;e hs
   | live i =>
     rw[hs] at e;dsimp only at e;by_cases hc:(ha i==h)=true
     . rw[if_pos hc] at e;cases e
     . rw[if_neg hc] at e;e jL t ha h fuel _ j dm (fun d hd=>by rw[adv] at hd;e hp d hd) e
þ lz {t:SetTable}{j:Nat}(h:t.slot j=.empty∨t.slot j=.dummy):t.place[SetTable.below t.place j]?≠some j:=by
 intro z;unfold SetTable.slot at h;dsimp only at h;rw[z] at h;simp at h
þ tK {t:SetTable}{h:Int}{j:Nat}{b:Bool}(e:t.freeSlot h=some (j,b)):t.place[SetTable.below t.place j]?≠some j:=by
 unfold SetTable.freeSlot at e
 cases hp:t.probe (fun _=>h+1) h (t.probeStart h) with
 | none=>rw[hp] at e;cases e
 | some m =>
   rw[hp] at e
   cases m with
   | candidate a b c=>cases e
   | empty j' dm =>
     o⟨h1,h2⟩:=jL t _ h _ _ j' dm (fun d hd=>by cases hd) hp;simp only[Option.some.injEq,Prod.mk.injEq] at e
     cases dm with
     | none=>simp only[Cf] at e;rw[←e.1];e lz (.inl h1)
     | some d=>simp only[Bx] at e;rw[←e.1];e lz (.inr (h2 d rfl))
þ nb {t:SetTable} (n:Nat)(u:Up t.place):Up (t.orStandIn n).place:=by
 unfold SetTable.orStandIn
 split
 . e u
 . e g9 n
þ k9 {t:SetTable} (n:Nat):(t.orStandIn n).led=t.led:=by
 unfold SetTable.orStandIn
 split<;>rfl
þ sY {t:SetTable}(es:Array (Int×Value)) (h:Int) (x:Value)(u:Up t.place):Up (layNew t es h x).2.1.place∧(layNew t es h x).2.1.led=t.led:=by
 unfold layNew
 split
 . rename_i j b e;e⟨nb _ (sX u (tK e)),k9 _⟩
 . e⟨g9 _,rfl⟩
þ wm {mask finger moves:Nat}{led plain:Bool}{hs:Array Int}{t:SetTable}{o:Array Nat}(e:SetTable.laid mask finger moves led plain hs=some (t,o)):Up t.place∧t.led=led:=by
 unfold SetTable.laid at e
 cases hl:SetTable.layClean mask hs with
 | none=>rw[hl] at e;cases e
 | some ow =>
   rw[hl] at e;simp only[Option.bind_eq_bind,Option.bind_some,Option.pure_def,Option.some.injEq,Prod.mk.injEq] at e;o⟨rfl,_⟩:=e;r⟨?_,rfl⟩;unfold Up;simp only[List.toList_toArray];rw[List.pairwise_map,List.pairwise_filterMap];r List.pairwise_lt_range.imp ?_;intro a b hab x hx y hy;o⟨_,_,rfl⟩:=Option.map_eq_some_iff.mp hx;o⟨_,_,rfl⟩:=Option.map_eq_some_iff.mp hy;e hab
þ nK {t:SetTable}(es:Array (Int×Value)) (wanted:Nat):Up (relayAll t es wanted).2.1.place∧(relayAll t es wanted).2.1.led=t.led:=by
 unfold relayAll
 split
 . rename_i t' o e;dsimp only
   split
   . e wm e
   . e⟨g9 _,rfl⟩
 . e⟨g9 _,rfl⟩
section
variable {prog:Program}{w:World}{K:Type} [DecidableEq K](knd:KeyKind prog w K)
noncomputable def de (led:Bool)(h:Heap)(a:Addr)(S:K→Bool) (n:Nat):Prop :=
 ∃ o es ep t,h.get? a=some o∧o.ExactSet∧o.data=.set es ep t∧ElemsOf knd es.toList∧(∀ k,S k=true↔∃ e∈es.toList,knd.is k e.2=true)∧es.size < scanBound∧t.fits es.size=true∧es.size=n∧Up t.place∧t.led=led
variable {knd}
þ de.congr {led:Bool}{h:Heap}{a:Addr}{S S':K→Bool}{n n':Nat}(x:de knd led h a S n)(e:∀ k,S k=S' k)(en:n=n'):de knd led h a S' n':=by
 o⟨o,es,ep,t,h1,h2,h3,h4,h5,r⟩:=x;subst en;e⟨o,es,ep,t,h1,h2,h3,h4,fun k=>by rw[←e k];e h5 k,r⟩
þ de.at_ {led:Bool}{h h':Heap}{a:Addr}{S:K→Bool}{n:Nat}(x:de knd led h a S n)(k:∀ o,h.get? a=some o→h'.get? a=some o):de knd led h' a S n:=by
 o⟨o,es,ep,t,ho,r⟩:=x;e⟨o,es,ep,t,k _ ho,r⟩
þ ke {h:Heap}{a:Addr}{o:Obj}{es:Array (Int×Value)}{ep:Nat}{t:SetTable}(ho:h.get? a=some o)(hex:o.ExactSet)(hd:o.data=.set es ep t)
   {es':Array (Int×Value)}{t':SetTable}{S':K→Bool}(hel:ElemsOf knd es'.toList)(hmem:∀ k,S' k=true↔∃ e∈es'.toList,knd.is k e.2=true)(hb:es'.size < scanBound)(hf:t'.fits es'.size=true)(hu:Up t'.place){led:Bool}(hl:t'.led=led) :
   (h.update a (Obj.putSet es' t')).get? a=some { o with data:=.set es' (ep+1) t' }∧de knd led (h.update a (Obj.putSet es' t')) a S' es'.size:=by
 o⟨h1,_⟩:=SetOf_store (knd:=knd) ho hex hd hel hmem hb hf;e⟨h1,_,es',ep+1,t',h1,hex,rfl,hel,hmem,hb,hf,rfl,hu,hl⟩
variable {A:Around}{E:Value→Shared→Prop}{s:Shared}
þ dZ {a:Addr}{o:Obj}{es es1:Array (Int×Value)}{ep:Nat}{t t2:SetTable}{S':K→Bool}{led:Bool}{c:Bool}{gave:Bool→Sem Unit}(hgave:∀ b,(∃ r,gave b=rule r)∨gave b=pure ())
   (ho:s.heap.get? a=some o)(hex:o.ExactSet)(hd:o.data=.set es ep t)(el:ElemsOf knd es1.toList)(mm:∀ k,S' k=true↔∃ e∈es1.toList,knd.is k e.2=true)(hb:es1.size < scanBound)(hf:t2.fits es1.size=true)(hu:Up t2.place)(hl:t2.led=led)
   {R:Option Bool→Shared→Prop}(q:∀ h',Heap.SameBut a s.heap h'→de knd led h' a S' es1.size→R (some true) { s with heap:=h' }) :
   wpAny (model prog w) A (storeSet a es1 t2 >>= fun _=>if c=true then(gave (relayAll t2 es1 (SetTable.grown es1.size)).2.2 >>= fun _=>storeSet a (relayAll t2 es1 (SetTable.grown es1.size)).1 (relayAll t2 es1 (SetTable.grown es1.size)).2.1 >>= fun _=>pure (some true)) else pure (some true)) R E s:=by
 h st1:=ke (knd:=knd) ho hex hd el mm hb hf hu hl;h sb1:=Heap.SameBut.update s.heap a (Obj.putSet es1 t2);r wpAny_bind (wpAny_storeSet_of ho hd ?_ (fits_of_scanBound hb));by_cases e:c=true
 rotate_left
 . rw[if_neg e];e wpAny_pure (q _ sb1 st1.2)
 rw[if_pos e];h pr:=relayAll_perm t2 es1 (SetTable.grown es1.size)
 h sz:(relayAll t2 es1 (SetTable.grown es1.size)).1.size=es1.size:=by simpa using pr.length_eq
 h ur:=nK (t:=t2) es1 (SetTable.grown es1.size);h st2:=ke (knd:=knd) (S':=S') st1.1 hex rfl (el.perm pr) (fun k=>by rw[mm k];e exists_congr fun e=>and_congr_left fun _=>pr.mem_iff.symm) (by rw[sz];e hb) (relayAll_fits t2 es1 (SetTable.grown es1.size)) ur.1 (ur.2.trans hl);rw[sz] at st2
 h on:wpAny (model prog w) A (storeSet a (relayAll t2 es1 (SetTable.grown es1.size)).1 (relayAll t2 es1 (SetTable.grown es1.size)).2.1 >>= fun _=>pure (some true)) R E { s with heap:=s.heap.update a (Obj.putSet es1 t2) } :=
   wpAny_bind (wpAny_storeSet_of st1.1 rfl (wpAny_pure (q _ (sb1.trans (Heap.SameBut.update _ a _)) st2.2)) (fits_of_scanBound (by rw[sz];e hb)))
 rcases hgave (relayAll t2 es1 (SetTable.grown es1.size)).2.2 with ⟨r,e⟩ | e
 . rw[e];e wpAny_bind (wpAny_rule on)
 . rw[e];e wpAny_bind (wpAny_pure on)
þ xg {a:Addr}{S:K→Bool}{n:Nat}{k:K}{x:Value}{led:Bool}{Q:Bool→Shared→Prop}(hk:knd.is k x=true)(hx:x.scannable=true)(hS:de knd led s.heap a S n)(room:n+1 < scanBound)
   (q:∀ h',Heap.SameBut a s.heap h'→de knd led h' a (fun y=>S y||decide (y=k)) (if S k then n else n+1)→Q (!S k) { s with heap:=h' }):wpAny (model prog w) A (setAddHashed a x (knd.hash k)) Q E s:=by
 h hS0:=hS;o⟨o,es,ep,t,ho,hex,hd,el,mm,hb,hf,rfl,hu,hl⟩:=hS;unfold setAddHashed setAddHashedIn setAddByScan;r wpAny_holding (wpAny_bind (wpAny_setState_of ho hd hf ?_));dsimp only;rw[if_pos (byScan_of hx hb el)];r wpAny_bind (wpAny_bind (wpAny_rule (wpAny_bind (wpAny_setScan_of hk ho hd hf el ?_))))
 cases hr:List.findIdx? (fun e=>knd.is k e.2) es.toList with
 | none =>
   h no:S k=false:=by
     r Bool.eq_false_iff.mpr fun yes=>?_;o⟨e,he,ie⟩:=(mm k).mp yes;e absurd ie (Bool.eq_false_iff.mp (List.findIdx?_eq_none_iff.mp hr e he))
   h pr:List.Perm (layNew t es (knd.hash k) x).1.toList (es.toList++[(knd.hash k,x)]):=by rw[←Array.toList_push];e layNew_perm t es (knd.hash k) x
   h fi:=layNew_fits t es (knd.hash k) x;h up:=sY (t:=t) es (knd.hash k) x hu
   h sz:(layNew t es (knd.hash k) x).1.size=es.size+1:=by simpa using pr.length_eq
   generalize layNew t es (knd.hash k) x=L at pr fi up sz ⊢;o⟨es1,t1,wd,gv⟩:=L;dsimp only at pr fi up sz ⊢
   h fin:∀ h',Heap.SameBut a s.heap h'→de knd led h' a (fun y=>S y||decide (y=k)) es1.size→Q true { s with heap:=h' }:=fun h' sb st=>by
     rw[sz] at st;have:=q h' sb;rw[no] at this;e this st
   cases gv<;>cases e:t1.plain
   . r wpAny_bind (wpAny_pure ?_);rw[if_neg Bool.false_ne_true];r wpAny_bind (wpAny_pure ?_);r dZ (led:=led) (fun c=>by cases c;e .inr rfl;e .inl ⟨_,rfl⟩) ho hex hd ((el.push hk hx).perm pr) (mem_push_iff hk mm pr) (by rw[sz];e room) (by first | e fi | (split;e fi;e SetTable.fits_plain_off fi)) (by first | e up.1 | (split<;>e up.1)) (by first | e up.2.trans hl | (split<;>e up.2.trans hl)) fun h' sb st=>wpAny_pure (fin h' sb st)
   . r wpAny_bind (wpAny_pure ?_);rw[if_pos rfl,hashByValue_scannable 8 hx];r wpAny_bind (wpAny_pure ?_);r dZ (led:=led) (fun c=>by cases c;e .inr rfl;e .inl ⟨_,rfl⟩) ho hex hd ((el.push hk hx).perm pr) (mem_push_iff hk mm pr) (by rw[sz];e room) (by first | e fi | (split;e fi;e SetTable.fits_plain_off fi)) (by first | e up.1 | (split<;>e up.1)) (by first | e up.2.trans hl | (split<;>e up.2.trans hl)) fun h' sb st=>wpAny_pure (fin h' sb st)
   . r wpAny_bind (wpAny_rule ?_);rw[if_neg Bool.false_ne_true];r wpAny_bind (wpAny_pure ?_);r dZ (led:=led) (fun c=>by cases c;e .inr rfl;e .inl ⟨_,rfl⟩) ho hex hd ((el.push hk hx).perm pr) (mem_push_iff hk mm pr) (by rw[sz];e room) (by first | e fi | (split;e fi;e SetTable.fits_plain_off fi)) (by first | e up.1 | (split<;>e up.1)) (by first | e up.2.trans hl | (split<;>e up.2.trans hl)) fun h' sb st=>wpAny_pure (fin h' sb st)
   . r wpAny_bind (wpAny_rule ?_);rw[if_pos rfl,hashByValue_scannable 8 hx];r wpAny_bind (wpAny_pure ?_);r dZ (led:=led) (fun c=>by cases c;e .inr rfl;e .inl ⟨_,rfl⟩) ho hex hd ((el.push hk hx).perm pr) (mem_push_iff hk mm pr) (by rw[sz];e room) (by first | e fi | (split;e fi;e SetTable.fits_plain_off fi)) (by first | e up.1 | (split<;>e up.1)) (by first | e up.2.trans hl | (split<;>e up.2.trans hl)) fun h' sb st=>wpAny_pure (fin h' sb st)
 | some j =>
   o⟨hj,ij,_⟩:=List.findIdx?_eq_some_iff_getElem.mp hr;h yes:S k=true:=(mm k).mpr ⟨_,AM hj,ij⟩;r wpAny_pure (wpAny_pure ?_);have:=q s.heap (Heap.SameBut.refl a s.heap);rw[yes] at this;r this (hS0.congr (fun y=>?_) rfl);by_cases hy:y=k
   . subst hy;rw[yes];rfl
   . simp[hy]
end
section
variable {K:Type} [DecidableEq K]
noncomputable def iZ (acc:List K)(x:K):List K:=if x∈acc then acc else acc++[x]
noncomputable def dR (l:List K):List K:=l.foldl iZ []
þ lH (l:List K)(x:K):dR (l++[x])=iZ (dR l) x:=by unfold dR;rw[Cb];rfl
þ vE (acc:List K)(x:K):(iZ acc x).length≤acc.length+1:=by unfold iZ;split<;>simp
þ eE (l:List K):∀ i,(dR (l.take i)).length≤i
 | 0=>by simp[dR]
 | i+1=>by
   h ih:=eE l i
   cases h:l[i]? with
   | none =>
     h:l.length≤i:=List.getElem?_eq_none_iff.mp h;rw[AC (by m)];rw[AC this] at ih;m
   | some x =>
     rw[Bs,h];show(dR (l.take i++[x])).length≤i+1;rw[lH];have:=vE (dR (l.take i)) x;m
þ oG (l:List K):(dR l).length≤l.length:=by
 have:=eE l l.length
 rwa [AE] at this
þ qX (l:List K):(dR l).Nodup:=by
 suffices ∀ (l acc:List K),acc.Nodup→(l.foldl iZ acc).Nodup from this l [] .nil
 intro l
 induction l with
 | nil=>e fun _ h=>h
 | cons x l ih =>
   intro acc h;r ih _ ?_;unfold iZ
   split
   . e h
   . rename_i hx;e List.nodup_append.mpr ⟨h,by simp,fun a ha b hb=>by rw[List.mem_singleton.mp hb];e fun e=>hx (e▸ha)⟩
þ uy (l:List K)(x:K):x∈dR l↔x∈l:=by
 suffices ∀ (l acc:List K),x∈l.foldl iZ acc↔x∈acc∨x∈l by have:=this l [];simpa [dR] using this
 intro l
 induction l with
 | nil=>intro acc;simp
 | cons y l ih =>
   intro acc;rw[BB,ih];unfold iZ;by_cases hy:y∈acc
   . rw[if_pos hy];constructor
     . rintro(h | h)
       . e .inl h
       . e .inr (.tail _ h)
     . rintro(h | h)
       . e .inl h
       . rcases List.mem_cons.mp h with rfl | h
         . e .inl hy
         . e .inr h
   . rw[if_neg hy,List.mem_append,List.mem_singleton,Az];constructor
     . rintro((h | h) | h)
       . e .inl h
       . e .inr (.inl h)
       . e .inr (.inr h)
     . rintro(h | h | h)
       . e .inl (.inl h)
       . e .inl (.inr h)
       . e .inr h
noncomputable def mr {prog:Program}{w:World}(knd:KeyKind prog w K)(items:Array Value)(ks:List K):Prop:=items.size=ks.length∧∀ (i:Nat)(k:K),ks[i]?=some k→∃ v,items[i]?=some v∧knd.is k v=true∧v.scannable=true
end
section
variable {prog:Program}{w:World}{K:Type} [DecidableEq K]{knd:KeyKind prog w K}{led:Bool}
þ tL {h:Heap}{S:Addr}{acc:List K}{x:K}(hs:de knd led h S (fun k=>decide (k∈acc)||decide (k=x)) (if decide (x∈acc)=true then acc.length else acc.length+1)) :
   de knd led h S (fun k=>decide (k∈iZ acc x)) (iZ acc x).length:=by
 r de.congr hs (fun k=>?_) ?_
 . unfold iZ;by_cases hx:x∈acc
   . rw[if_pos hx];by_cases hk:k=x
     . subst hk;simp[hx]
     . simp[hk]
   . rw[if_neg hx];rw[Bool.eq_iff_iff];simp
 . unfold iZ;by_cases hx:x∈acc
   . rw[if_pos hx,if_pos (by simpa using hx)]
   . rw[if_neg hx,if_neg (by simpa using hx),zL];rfl
þ tJ {A:Around}{R:Result→Shared→Prop}{I S l:Addr}{items:Array Value}{ss:List K}(hh:A.in1.handled=none)(hIl:l≠I)(hSI:S≠I)(hSl:S≠l)(hss:mr knd items ss)(hb:items.size+1 < scanBound) :
   ∀ (k i:Nat)(s:Shared),items.size - i=k→i≤items.size→s.heap.IsListIter I l i→s.heap.IsList l items→de knd led s.heap S (fun x=>decide (x∈dR (ss.take i))) (dR (ss.take i)).length →
     (∀ h' tk,(∀ b o,b≠S→b≠I→s.heap.get? b=some o→h'.get? b=some o)→de knd led h' S (fun x=>decide (x∈dR ss)) (dR ss).length→R (.ok (.ret .none)) { s with heap:=h',toks:=tk }) →
     codeAny (model prog w) A (.builtin "set.update.loop" ⟨[.ref S,.ref I],[]⟩) R s:=by
 h hlen:items.size=ss.length:=hss.1;intro k
 induction k with
 | zero =>
   intro i s hk hi hit hl hS hR
   h e:i=items.size:=by m
   subst e;r codeAny_builtin PyProof.Rows.F.entry_set_update_loop ?_;rw[Around.under_plainId PyProof.Rows.F.plain_set_update_loop _];r wpAny_bind (wpAny_pyNext_list_end hh hit hl (by simp) fun h' eb=>?_);rw[hlen,AE] at hS;r wpAny_pure (hR h' s.toks (fun b o _ hb e=>eb b o hb e) ?_);o⟨o,es,ep,t,ho,cD⟩:=hS;e⟨o,es,ep,t,eb S o hSI ho,cD⟩
 | succ k ih =>
   intro i s hk hi hit hl hS hR
   h hlt:i < items.size:=by m
   obtain⟨x,hx⟩:∃ x,ss[i]?=some x:=⟨ss[i]'(by m),zJ (by m)⟩;o⟨v,ht,hv,hsc⟩:=hss.2 i x hx;r codeAny_builtin PyProof.Rows.F.entry_set_update_loop ?_;rw[Around.under_plainId PyProof.Rows.F.plain_set_update_loop _];r wpAny_bind (wpAny_pyNext_list_item hit hl ht fun h' hit' sb=>?_)
   h hS':de knd led h' S (fun x=>decide (x∈dR (ss.take i))) (dR (ss.take i)).length:=by
     o⟨o,es,ep,tb,ho,cD⟩:=hS;e⟨o,es,ep,tb,(sb.2 S hSI).trans ho,cD⟩
   show wpAny _ A.in1 (holding [v] (setAdd S (v)) >>= _) _ _ _;r wpAny_bind (wpAny_holding ?_);unfold setAdd;r wpAny_holding (wpAny_bind (knd.pyHash (k:=x) hv ?_))
   h hroom:(dR (ss.take i)).length+1 < scanBound:=by have:=eE ss i;m
   r xg (knd:=knd) hv hsc hS' hroom fun h2 hsb hS2=>?_;h hS3:=tL hS2
   h et:dR (ss.take (i+1))=iZ (dR (ss.take i)) x:=by rw[Bs,hx];e lH _ _
   rw[←et] at hS3;r wpAny_pure ⟨plainId_quiet PyProof.Rows.F.plain_set_update_loop _,ih (i+1) _ (by m) hlt ?_ ?_ hS3 fun h3 tk kk hS4=>?_⟩
   . e hit'.at fun o e=>(hsb.2 I (Ne.symm hSI)).trans e
   . e hl.at fun o e=>(hsb.2 l (Ne.symm hSl)).trans ((sb.2 l hIl).trans e)
   . e hR h3 tk (fun b o h1 h2' e=>kk b o h1 h2' ((hsb.2 b h1).trans ((sb.2 b h2').trans e))) hS4
end
noncomputable def eB (w:World):Bool:=!w.params.followText "set-order"
section
variable {prog:Program}{w:World}{A:Around}{E:Value→Shared→Prop}{s:Shared}
þ jq (a:Value){G:Value→Shared→Prop}(g:G (.ref s.heap.objs.size) { s with heap:=s.heap.push { cls:=.type "set",dict:=none,data:=.set #[] 0 (.fresh 0 0 (eB w)) } }) :
   codeAny (model prog w) A (.call (.builtin "set.__new__") ⟨[.type "set",a],[]⟩) (wants G E) s:=by
 h made:wpAny (model prog w) A.in1 (Builtin.«set.__new__» ⟨[.type "set",a],[]⟩) (fun fin s'=>match fin with | .done f=>wants G E (.ok f) s' | .again c=>c.quiet=true∧codeAny (model prog w) A.in1 c (wants G E) s') (fun e s'=>wants G E (.error e) s') s:=by
   h up:=sub_set_self;o⟨hp,gs,d,tk,os⟩:=s;unfold Builtin.«set.__new__» Builtin.Frozenset.newClass;dsimp only
   wp_walk
   r wpAny_askSetting (wpAny_pure ?_);simp only[newObj];e wpAny_bind (wpAny_alloc (wpAny_pure (wpAny_pure g)))
 r codeAny_of_tree (wpAny_bind (wpAny_of_eq (F.newCall_set_1 a) (wpAny_pure ⟨plainId_quiet F.plain_set_new _,?_⟩)));r codeAny_builtin F.entry_set_new ?_;rw[Around.under_plainId F.plain_set_new _];e made
þ sN {K:Type} [DecidableEq K]{knd:KeyKind prog w K}{l:Addr}{items:Array Value}{ss:List K}{Q:Value→Shared→Prop}(hh:A.handled=none)(hl:s.heap.IsList l items)(hss:mr knd items ss)(hb:items.size+1 < scanBound)
   (h:∀ h' tk,(∀ b o,s.heap.get? b=some o→h'.get? b=some o)→de knd (eB w) h' s.heap.objs.size (fun x=>decide (x∈dR ss)) (dR ss).length→Q (.ref s.heap.objs.size) { s with heap:=h',toks:=tk }) :
   wpAny (model prog w) A (call (.type "set") [.ref l]) Q E s:=by
 r l4 (Q1:=fun obj s1=>∃ led:Bool,led=eB w∧obj=.ref s.heap.objs.size∧s1={ s with heap:=s.heap.push { cls:=.type "set",dict:=none,data:=.set #[] 0 (.fresh 0 0 led) } }) F.called_set (F.typeCall_set_1 _) F.entry_set_init (jq (.ref l) ⟨eB w,rfl,rfl,rfl⟩) ?_ ?_
 . rintro obj s1 ⟨led,hled,rfl,rfl⟩;h hT:Shared.TypeIs { s with heap:=s.heap.push { cls:=.type "set",dict:=none,data:=.set #[] 0 (.fresh 0 0 led) } } (.ref s.heap.objs.size) "set":=⟨_,Heap.get?_push_size _ rfl,rfl⟩;e⟨hT,fun E'=>check_set_init_1 hT rfl⟩
 . rintro obj s1 ⟨led,hled,rfl,rfl⟩
   h hlt:l < s.heap.objs.size:=by o⟨_,e,_⟩:=hl;e Heap.lt_size e
   o⟨⟨oc,od,odt,osl⟩,hol,hcl,nl,hdl⟩:=id hl;simp only at hcl hdl;subst hcl;subst hdl;h hol':(s.heap.push { cls:=.type "set",dict:=none,data:=.set #[] 0 (.fresh 0 0 led) }).get? l=some { cls:=.type "list",dict:=od,data:=.seq items nl,slots:=osl }:=Heap.get?_push_of_some _ hol;h hS:(s.heap.push { cls:=.type "set",dict:=none,data:=.set #[] 0 (.fresh 0 0 led) }).get? s.heap.objs.size=some { cls:=.type "set",dict:=none,data:=.set #[] 0 (.fresh 0 0 led) }:=Heap.get?_push_size _ rfl;h hl1:(s.heap.push { cls:=.type "set",dict:=none,data:=.set #[] 0 (.fresh 0 0 led) }).IsList l items:=⟨_,hol',rfl,nl,rfl⟩;h hsls:=F.sub_list_set;h hslf:=F.sub_list_frozenset
   h hne:(Value.type "list"==Value.type "dict")=false:=by decide
   unfold Builtin.«set.__init__» noKeywords Builtin.Frozenset.updateFrom;generalize hPI:pyIter=PI
   wp_walk
   subst hPI;r wpAny_pyIter_list hl1 (wpAny_bind (wpAny_runValue ?_));h hz:(s.heap.push { cls:=.type "set",dict:=none,data:=.set #[] 0 (.fresh 0 0 led) }).objs.size=s.heap.objs.size+1:=Heap.size_push ..;r tJ (knd:=knd) (led:=led) (l:=l) (items:=items) (ss:=ss) (by simp[hh]) (by rw[hz];e z6 (A2 hlt)) (by rw[hz];e z6 (Bj _)) (BG hlt) hss hb (items.size - 0) 0 _ (by m) (AA _) ⟨_,Heap.get?_push_size _ rfl,rfl,rfl⟩ (hl1.push _) ?_ ?_
   . e⟨_,#[],0,_,Heap.get?_push_of_some _ hS,⟨rfl,rfl,rfl⟩,rfl,fun e he=>by simp at he,fun k=>by simp[dR],by decide,by rfl,rfl,List.Pairwise.nil,rfl⟩
   . intro h' tk kk hS';subst hled;r wpAny_pure (wpAny_pure ⟨rfl,h h' tk (fun b o e=>?_) hS'⟩);h hlb:=Heap.lt_size e;e kk b o (z6 hlb) (by rw[hz];e z6 (A2 hlb)) (Heap.get?_push_of_some _ (Heap.get?_push_of_some _ e))
end
þ bu:Slot "set_iterator" "__next__" "set_iterator.__next__" :=
 .of (owner:="set_iterator") (n:="__next__") (by rw[typeLookup_type,builtinLookup_eq_fast];kernel_rfl) (by d) (by d) (by d)
   (by first | e .inl (by d) | e .inr (by d)) (by rw[isSubtype_type];kernel_rfl)
þ g0:Slot "set_iterator" "__iter__" "set_iterator.__iter__" :=
 .of (owner:="set_iterator") (n:="__iter__") (by rw[typeLookup_type,builtinLookup_eq_fast];kernel_rfl) (by d) (by d) (by d)
   (by first | e .inl (by d) | e .inr (by d)) (by rw[isSubtype_type];kernel_rfl)
þ dF:entryFor table "set_iterator.__next__"=some Builtin.«set_iterator.__next__»:=entryFor_of_tree (by kernel_rfl)
þ k8:entryFor table "set_iterator.__iter__"=some Builtin.«dict_keyiterator.__iter__» :=
 entryFor_alias (id':="dict_keyiterator.__iter__") (by kernel_rfl) rfl (by d) (by kernel_rfl)
þ ik:entryFor table "set.__iter__"=some Builtin.«frozenset.__iter__» :=
 entryFor_alias (id':="frozenset.__iter__") (by kernel_rfl) rfl (by d) (by kernel_rfl)
þ oy:Manifest.owners.lookup (String.ofList ['r','o','t','a','r','e','t','i','_','t','e','s'].reverse)=some Manifest.sig_set_iterator:=by kernel_rfl
þ dU (a:Value):argsOk "set_iterator.__next__" ⟨[a],[]⟩:=by
 unfold argsOk;rw[signature?_of (id:="set_iterator.__next__") (n:=['_','_','t','x','e','n','_','_']) (o:=['r','o','t','a','r','e','t','i','_','t','e','s']) (by kernel_rfl) oy];kernel_rfl
þ mL (a:Value):argsOk "set_iterator.__iter__" ⟨[a],[]⟩:=by
 unfold argsOk;rw[signature?_of (id:="set_iterator.__iter__") (n:=['_','_','r','e','t','i','_','_']) (o:=['r','o','t','a','r','e','t','i','_','t','e','s']) (by kernel_rfl) oy];kernel_rfl
þ gH {α:Type}:∀ (l:List α) (i:Nat)(h:i < l.length),(l[i]::l.eraseIdx i).Perm l
 | x::l,0,h=>List.Perm.refl _
 | x::l,i+1,h=>by
   show(l[i]'(by simpa using h)::x::l.eraseIdx i).Perm (x::l);e(List.Perm.swap x _ _).trans ((gH l i (by simpa using h)).cons x)
þ rR {α:Type}(next:Nat→Nat):∀ (fuel k:Nat)(left:List α)(out:Array α),left.length=fuel→(pickOrder.go next fuel k left out).toList.Perm (out.toList++left)
 | 0,k,left,out,h=>by
   h e:left=[]:=List.length_eq_zero_iff.mp h;subst e;show out.toList.Perm _;rw[AK]
 | fuel+1,k,left,out,h=>by
   h hlt:next k % left.length < left.length:=Nat.mod_lt _ (by m);show(match left[next k % left.length]? with | some x=>pickOrder.go next fuel (k+1) (left.eraseIdx (next k % left.length)) (out.push x) | none=>out).toList.Perm _;rw[zJ hlt];dsimp only;r(rR next fuel (k+1) _ _ (by rw[List.length_eraseIdx_of_lt hlt];m)).trans ?_;rw[Array.toList_push,Be];e List.Perm.append_left _ (gH _ _ hlt)
þ li {α:Type}(next:Nat→Nat)(xs:Array α):(pickOrder next xs).toList.Perm xs.toList:=by
 have:=rR next xs.size 0 xs.toList #[] (by simp)
 simpa [pickOrder] using this
section
variable {prog:Program}{w:World}{A:Around}{E:Value→Shared→Prop}{s:Shared}
þ k6 {M:Model}{src:Source}{n:Nat}(hn:n≠0){Q:Nat→Shared→Prop}(h:∀ i d,i < n→Q i { s with drawn:=d }):wpAny M A (choose src n) Q E s:=by
 intro Γ p hΓ;show Sem.wp M Γ (.choose src n .pure) _ _ p s;rw[Sem.wp_choose];e⟨hn,h _ _ (Nat.mod_lt _ (by m))⟩
þ fH {M:Model}{α:Type}:∀ (n:Nat)(xs:List α)(s:Shared)(Q:List α→Shared→Prop),xs.length=n→(∀ ys d,ys.Perm xs→Q ys { s with drawn:=d })→wpAny M A (drawOrder n xs) Q E s
 | 0,xs,s,Q,h,q=>by
   h e:xs=[]:=List.length_eq_zero_iff.mp h;subst e;e wpAny_pure (q [] s.drawn (List.Perm.refl _))
 | n+1,[],s,Q,h,q=>by cases h
 | n+1,x::xs,s,Q,h,q=>by
   show wpAny M A (choose .order (x::xs).length >>= fun i=>match (x::xs)[i]? with | some y=>(do return y::(←drawOrder n ((x::xs).eraseIdx i))) | none=>unsupported "internal:drawOrder") Q E s;r wpAny_bind (k6 (by simp) fun i d hi=>?_);rw[zJ hi];dsimp only;r wpAny_bind (fH n _ _ _ (by rw[List.length_eraseIdx_of_lt hi];m) fun ys d' hp=>?_);e wpAny_pure (q _ d' ((hp.cons _).trans (gH _ _ hi)))
end
noncomputable def i5 (h:Heap)(I:Addr) (first:Value) (i:Nat)(a:Addr) (n ep:Nat):Prop:=∃ o,h.get? I=some o∧o.cls=.type "set_iterator"∧o.data=.fields #[first,.int i 0,.ref a,.int n 0,.int ep 0]
þ i5.typeIs {s:Shared}{I:Addr}{f:Value}{i:Nat}{a:Addr}{n ep:Nat}(x:i5 s.heap I f i a n ep):s.TypeIs (.ref I) "set_iterator":=let ⟨o,ho,hc,_⟩:=x;⟨o,ho,hc⟩
þ i5.at_ {h h':Heap}{I:Addr}{f:Value}{i:Nat}{a:Addr}{n ep:Nat}(x:i5 h I f i a n ep)(e:∀ o,h.get? I=some o→h'.get? I=some o):i5 h' I f i a n ep:=let ⟨o,ho,r⟩:=x;⟨o,e _ ho,r⟩
section
variable {prog:Program}{w:World}{A:Around}{E:Value→Shared→Prop}{s:Shared}{I a:Addr}{n ep k:Nat}{oS:Obj}{es:Array (Int×Value)}{t:SetTable}
þ rE {f:Value}{i:Nat}{Q:Value→Shared→Prop}(hit:i5 s.heap I f i a n ep)(h:Q (.ref I) s):wpAny (model prog w) A (pyIter (.ref I)) Q E s:=by
 r wpAny_pyIter_slot hit.typeIs g0 (wpAny_call_entry g0 hit.typeIs k8 ?_ (mL _));show wpAny _ _ (ret (.ref I)) _ _ s;e wpAny_pure ⟨_,rfl, "set_iterator",_,hit.typeIs,bu.lookup,h⟩
þ nz {sl sl':Nat}{x:Value}{Q:Option Value→Shared→Prop}(hit:i5 s.heap I (.int sl 0) k a n ep)(ho:s.heap.get? a=some oS)(hd:oS.data=.set es ep t)(hf:t.fits es.size=true)(hn:es.size=n)
   (hN:∀ (A:Around)(E:Value→Shared→Prop)(Q:Option (Value×Nat)→Shared→Prop),Q (some (x,sl')) s→wpAny (model prog w) A (setNext a sl k ep) Q E s)
   (hQ:∀ h',i5 h' I (.int sl' 0) (k+1) a n ep→Heap.SameBut I s.heap h'→Q (some x) { s with heap:=h' }) :
   wpAny (model prog w) A (pyNext (.ref I)) Q E s:=by
 o⟨o,hoI,hc,hdI⟩:=id hit;unfold pyNext
 r wpAny_bind (wpAny_attempt (wpAny_callSpecial?_slot (name:=¶"__next__") hit.typeIs bu
   (wpAny_call_entry bu hit.typeIs dF ?_ (dU _))))
 show wpAny _ _ (fieldsOf (.ref I) >>= _) _ _ s;r wpAny_bind (wpAny_fieldsOf hoI hdI ?_);show wpAny _ _ (setEntries a >>= _) _ _ s;r wpAny_bind (wpAny_setEntries_of ho hd hf ?_);rw[if_neg (by rw[hn];simp)];show wpAny _ _ (setNext a (Bm (sl:Int)) (Bm (k:Int)) (Bm (ep:Int)) >>= _) _ _ s;simp only[An];r wpAny_bind (hN _ _ _ ?_);dsimp only;r wpAny_bind (wpAny_setField hoI hdI (by simp) ?_);h ho1:=Heap.get?_update_self (Obj.mapFields (·.setIfInBounds 0 (rawInt (sl':Int)))) hoI (Obj.isFreed_of_fields (Obj.data_mapFields hdI _));r wpAny_bind (wpAny_setField ho1 (Obj.data_mapFields hdI _) (by simp) ?_);r wpAny_pure ⟨x,rfl,wpAny_pure (hQ _ ?_ ((Heap.SameBut.update ..).trans (Heap.SameBut.update ..)))⟩
 e⟨_,Heap.get?_update_self _ ho1 (Obj.isFreed_of_fields (Obj.data_mapFields (Obj.data_mapFields hdI _) _)),(Obj.cls_mapFields ..).trans ((Obj.cls_mapFields ..).trans hc),by
   rw[Obj.data_mapFields (Obj.data_mapFields hdI _)];simp[rawInt]⟩
þ oA {sl:Nat}{Q:Option Value→Shared→Prop}(hh:A.handled=none)(hit:i5 s.heap I (.int sl 0) k a n ep)(ho:s.heap.get? a=some oS)(hd:oS.data=.set es ep t)(hf:t.fits es.size=true)(hn:es.size=n)
   (hN:∀ (A:Around)(E:Value→Shared→Prop)(Q:Option (Value×Nat)→Shared→Prop),Q none s→wpAny (model prog w) A (setNext a sl k ep) Q E s)
   (hQ:∀ h',Heap.ExtBut I s.heap h'→Q none { s with heap:=h' }) :
   wpAny (model prog w) A (pyNext (.ref I)) Q E s:=by
 o⟨o,hoI,hc,hdI⟩:=id hit;unfold pyNext
 r wpAny_bind (wpAny_attempt (wpAny_callSpecial?_slot (name:=¶"__next__") hit.typeIs bu
   (wpAny_call_entry bu hit.typeIs dF ?_ (dU _))))
 show wpAny _ _ (fieldsOf (.ref I) >>= _) _ _ s;r wpAny_bind (wpAny_fieldsOf hoI hdI ?_);show wpAny _ _ (setEntries a >>= _) _ _ s;r wpAny_bind (wpAny_setEntries_of ho hd hf ?_);rw[if_neg (by rw[hn];simp)];show wpAny _ _ (setNext a (Bm (sl:Int)) (Bm (k:Int)) (Bm (ep:Int)) >>= _) _ _ s;simp only[An];r wpAny_bind (hN _ _ _ ?_);dsimp only;r wpAny_bind (wpAny_setField hoI hdI (by simp) ?_);show wpAny _ _ (newExc (.type "StopIteration") [] >>= _) _ _ _;r wpAny_bind ?_;simp only[newExc,newTuple];r wpAny_bind (wpAny_newObj_type ?_ (by size_fits));r wpAny_bind (m:=firstArgMember _ _) (wpAny_of_eq (a:=Value.none) (by first | rfl | (simp only[firstArgMember];rfl)) ?_);r wpAny_newObj_type ?_ (by size_fits);simp only[raiseNew];r wpAny_bind (wpAny_handled ?_);rw[show A.in1.handled=none from hh];r wpAny_bind (wpAny_pure (wpAny_throw ?_));r wpAny_bind (wpAny_isInstance (T:="StopIteration") (b:=true) ⟨_,Heap.get?_push_size _ rfl,rfl⟩ isSubtype_stop ?_);e wpAny_pure (hQ _ (((Heap.SameBut.update ..).extBut.push _).push _))
þ oW {T:Addr}{ps:Array Value}{j:Nat}{x:Value}{hx:Int}{oT:Obj}{nT:Nat}{Q:Option Value→Shared→Prop}(hit:i5 s.heap I (.ref T) k a n ep)(hT:s.heap.get? T=some oT)(hdT:oT.data=.seq ps nT)
   (ho:s.heap.get? a=some oS)(hd:oS.data=.set es ep t)(hf:t.fits es.size=true)(hn:es.size=n)(hp:ps[k]?=some (rawInt (j:Int)))(he:es[j]?=some (hx,x))
   (hQ:∀ h',i5 h' I (.ref T) (k+1) a n ep→Heap.SameBut I s.heap h'→Q (some x) { s with heap:=h' }) :
   wpAny (model prog w) A (pyNext (.ref I)) Q E s:=by
 o⟨o,hoI,hc,hdI⟩:=id hit;unfold pyNext
 r wpAny_bind (wpAny_attempt (wpAny_callSpecial?_slot (name:=¶"__next__") hit.typeIs bu
   (wpAny_call_entry bu hit.typeIs dF ?_ (dU _))))
 show wpAny _ _ (fieldsOf (.ref I) >>= _) _ _ s;r wpAny_bind (wpAny_fieldsOf hoI hdI ?_);show wpAny _ _ (setEntries a >>= _) _ _ s;r wpAny_bind (wpAny_setEntries_of ho hd hf ?_);rw[if_neg (by rw[hn];simp)];show wpAny _ _ (seqItems? (.ref T) >>= _) _ _ s;r wpAny_bind (wpAny_seqItems hT hdT ?_);simp only[An,hp,rawInt];unfold setNextDrawn;r wpAny_bind (wpAny_bind (wpAny_setState_of ho hd hf ?_));simp only[bne_self_eq_false,Bool.false_eq_true,↓reduceIte,he];r wpAny_bind (wpAny_pure ?_);r wpAny_pure ?_;r wpAny_bind (wpAny_setField hoI hdI (by simp) ?_);r wpAny_pure ⟨x,rfl,wpAny_pure (hQ _ ?_ (Heap.SameBut.update ..))⟩
 e⟨_,Heap.get?_update_self _ hoI (Obj.isFreed_of_fields (Obj.data_mapFields hdI _)),(Obj.cls_mapFields ..).trans hc,by
   rw[Obj.data_mapFields hdI];simp[rawInt]⟩
þ qW {T:Addr}{ps:Array Value}{oT:Obj}{nT:Nat}{Q:Option Value→Shared→Prop}(hh:A.handled=none)(hit:i5 s.heap I (.ref T) k a n ep)(hT:s.heap.get? T=some oT)(hdT:oT.data=.seq ps nT)
   (ho:s.heap.get? a=some oS)(hd:oS.data=.set es ep t)(hf:t.fits es.size=true)(hn:es.size=n)(hp:ps[k]?=none)
   (hQ:∀ h',Heap.ExtBut I s.heap h'→Q none { s with heap:=h' }) :
   wpAny (model prog w) A (pyNext (.ref I)) Q E s:=by
 o⟨o,hoI,hc,hdI⟩:=id hit;unfold pyNext
 r wpAny_bind (wpAny_attempt (wpAny_callSpecial?_slot (name:=¶"__next__") hit.typeIs bu
   (wpAny_call_entry bu hit.typeIs dF ?_ (dU _))))
 show wpAny _ _ (fieldsOf (.ref I) >>= _) _ _ s;r wpAny_bind (wpAny_fieldsOf hoI hdI ?_);show wpAny _ _ (setEntries a >>= _) _ _ s;r wpAny_bind (wpAny_setEntries_of ho hd hf ?_);rw[if_neg (by rw[hn];simp)];show wpAny _ _ (seqItems? (.ref T) >>= _) _ _ s;r wpAny_bind (wpAny_seqItems hT hdT ?_);simp only[An,hp];r wpAny_bind (wpAny_setField hoI hdI (by simp) ?_);h ho1:=Heap.get?_update_self (Obj.mapFields (·.setIfInBounds 0 (rawInt 0))) hoI (Obj.isFreed_of_fields (Obj.data_mapFields hdI _));r wpAny_bind (wpAny_setField ho1 (Obj.data_mapFields hdI _) (by simp) ?_);show wpAny _ _ (newExc (.type "StopIteration") [] >>= _) _ _ _;r wpAny_bind ?_;simp only[newExc,newTuple];r wpAny_bind (wpAny_newObj_type ?_ (by size_fits));r wpAny_bind (m:=firstArgMember _ _) (wpAny_of_eq (a:=Value.none) (by first | rfl | (simp only[firstArgMember];rfl)) ?_);r wpAny_newObj_type ?_ (by size_fits);simp only[raiseNew];r wpAny_bind (wpAny_handled ?_);rw[show A.in1.handled=none from hh];r wpAny_bind (wpAny_pure (wpAny_throw ?_));r wpAny_bind (wpAny_isInstance (T:="StopIteration") (b:=true) ⟨_,Heap.get?_push_size _ rfl,rfl⟩ isSubtype_stop ?_);e wpAny_pure (hQ _ ((((Heap.SameBut.update ..).trans (Heap.SameBut.update ..)).extBut.push _).push _))
end
þ gz {K:Type} [DecidableEq K]:∀ (L ks:List K),L.Nodup→(∀ x∈L,x∈ks)→ks.length≤L.length→ks.Perm L
 | [],ks,_,_,h=>by
   h e:ks=[]:=List.length_eq_zero_iff.mp (by simpa using h);rw[e]
 | x::L,ks,hn,hs,h=>by
   h hx:x∈ks:=hs x (.head _);h hp:=List.perm_cons_erase hx;r hp.trans (List.Perm.cons x (gz L _ (List.nodup_cons.mp hn).2 (fun y hy=>?_) ?_))
   . e(BP (fun e=>(List.nodup_cons.mp hn).1 (by rw[←e];e hy))).mpr (hs y (.tail _ hy))
   . rw[BA hx];simp only[Av] at h;m
section
variable {prog:Program}{w:World}{A:Around}{E:Value→Shared→Prop}{s:Shared}{I a:Addr}{n ep k:Nat}{oS:Obj}{es:Array (Int×Value)}{t:SetTable}
þ mW (hw:eB w=false)(ho:s.heap.get? a=some oS)(hd:oS.data=.set es ep t)(hf:t.fits es.size=true){sl:Nat}{Q:Option (Value×Nat)→Shared→Prop}
   (h:Q (((pickOrder (w.params.setOrder a ep) es)[k]?).map fun e=>(e.2,sl)) s):wpAny (model prog w) A (setNext a sl k ep) Q E s:=by
 h hb:w.params.followText "set-order"=true:=by unfold eB at hw;simpa using hw
 unfold setNext setsByText;r wpAny_bind (wpAny_setState_of ho hd hf ?_);r wpAny_bind (wpAny_bind (wpAny_askSetting (wpAny_pure ?_)));show wpAny _ _ (if w.params.followText "set-order"=true then _ else _) _ _ s;rw[if_pos hb];simp only[bne_self_eq_false,Bool.false_eq_true,↓reduceIte];unfold setWalk setsByText;r wpAny_bind (wpAny_bind (wpAny_setState_of ho hd hf ?_));r wpAny_bind (wpAny_bind (wpAny_askSetting (wpAny_pure ?_)));show wpAny _ _ (if w.params.followText "set-order"=true then _ else _) _ _ s;rw[if_pos hb];r wpAny_bind (wpAny_askSetting (wpAny_pure ?_));e wpAny_pure h
þ oU (hw:eB w=true)(hl:t.led=true)(hnd:(!t.plain&&decide (es.size > 1))=false)(ho:s.heap.get? a=some oS)(hd:oS.data=.set es ep t)(hf:t.fits es.size=true){sl:Nat}{Q:Option (Value×Nat)→Shared→Prop}
   (h:Q (match es[SetTable.below t.place sl]?,t.place[SetTable.below t.place sl]? with | some (_,x),some j=>some (x,j+1) | _,_=>none) s):wpAny (model prog w) A (setNext a sl k ep) Q E s:=by
 h hb:w.params.followText "set-order"=false:=by unfold eB at hw;simpa using hw
 unfold setNext setsByText;r wpAny_bind (wpAny_setState_of ho hd hf ?_);r wpAny_bind (wpAny_bind (wpAny_askSetting (wpAny_pure ?_)));show wpAny _ _ (if w.params.followText "set-order"=true then _ else _) _ _ s;rw[if_neg (by rw[hb];e Bool.false_ne_true)];show wpAny _ _ (if(!t.plain&&decide (es.size > 1))=true then _ else _) _ _ s;rw[if_neg (by rw[hnd];e Bool.false_ne_true)];show wpAny _ _ ((if(!t.led&&!es.isEmpty)=true then unsupported "set:maker-not-led" else pure ()) >>= _) _ _ s;rw[if_neg (by rw[hl];simp)];r wpAny_bind (wpAny_pure ?_);e wpAny_pure h
noncomputable def SIt (I a:Addr)(oS:Obj)(f:Nat→Value) (n ep:Nat) (i:Nat)(h:Heap):Prop:=i5 h I (f i) i a n ep∧h.get? a=some oS
þ kj (hh:A.handled=none)(hne:a≠I)(hd:oS.data=.set es ep t)(hf:t.fits es.size=true)(hn:es.size=n)(sl:Nat→Nat)(vs:List Value)(hv:vs.length=n)
   (hN:∀ (k:Nat)(s:Shared)(A:Around)(E:Value→Shared→Prop)(Q:Option (Value×Nat)→Shared→Prop),k≤n→s.heap.get? a=some oS→Q ((vs[k]?).map fun v=>(v,sl (k+1))) s→wpAny (model prog w) A (setNext a (sl k) k ep) Q E s) :
   Walks prog w A I [I,a] [I] n (fun k v=>vs[k]?=some v) (SIt I a oS (fun i=>.int (sl i) 0) n ep) where
 sub:=fun b hb=>by simp at hb;simp[hb]
 frame:=fun i h h' st hk=>⟨st.1.at_ fun o e=>hk I (by simp) o e,hk a (by simp) _ st.2⟩
 item:=fun i s Q E hi st hQ=>by
   h hx:vs[i]?=some (vs[i]'(by m)):=zJ (by m);r nz st.1 st.2 hd hf hn (sl':=sl (i+1)) (x:=vs[i]'(by m)) (fun A E Q q=>hN i s A E Q (by m) st.2 (by rw[hx];e q)) fun h' hit' sb=>?_;e hQ _ h' s.toks hx ⟨hit',(sb.2 a hne).trans st.2⟩ fun b o hb e=>(sb.2 b (fun h=>hb (by simp[h]))).trans e
 done:=fun s Q E st hQ=>by
   h hx:vs[n]?=none:=List.getElem?_eq_none_iff.mpr (by m);e oA hh st.1 st.2 hd hf hn (fun A E Q q=>hN n s A E Q (zN _) st.2 (by rw[hx];e q)) fun h' eb=>hQ h' s.toks fun b o hb e=>eb b o (fun h=>hb (by simp[h])) e
 self:=fun _ _ _ _ st hQ=>rE st.1 hQ
þ sK {T:Addr}{oT:Obj}{nT:Nat}{ps:List Nat}(hh:A.handled=none)(hne:a≠I)(hTne:T≠I)(hd:oS.data=.set es ep t)(hf:t.fits es.size=true)(hn:es.size=n)(hdT:oT.data=.seq (ps.map fun(i:Nat)=>rawInt i).toArray nT)(hp:ps.length=n)(hlt:∀ p∈ps,p < n) :
   Walks prog w A I [I,a,T] [I] n (fun k v=>(ps.filterMap fun p=>(es[p]?).map (·.2))[k]?=some v) (fun i h=>SIt I a oS (fun _=>.ref T) n ep i h∧h.get? T=some oT) where
 sub:=fun b hb=>by simp at hb;simp[hb]
 frame:=fun i h h' st hk=>⟨⟨st.1.1.at_ fun o e=>hk I (by simp) o e,hk a (by simp) _ st.1.2⟩,hk T (by simp) _ st.2⟩
 item:=fun i s Q E hi st hQ=>by
   obtain⟨p,hx⟩:∃ p,ps[i]?=some p:=⟨_,zJ (by m)⟩
   h hj:p < es.size:=by rw[hn];e hlt _ (zO hx)
   obtain⟨e,he⟩:∃ e,es[p]?=some e:=⟨_,z7 hj⟩;o⟨e1,e2⟩:=e
   h hfm:∀ (l:List Nat),(∀ p∈l,p < es.size)→∀ (k p:Nat),l[k]?=some p→(l.filterMap fun p=>(es[p]?).map (·.2))[k]?=(es[p]?).map (·.2):=by
     intro l
     induction l with
     | nil=>intro _ k p h;cases h
     | cons q l ih =>
       intro hl k p h;obtain⟨eq,hq⟩:∃ e,es[q]?=some e:=⟨_,z7 (hl q (.head _))⟩;rw[List.filterMap_cons_some (b:=eq.2) (by rw[hq];rfl)]
       cases k with
       | zero=>cases h;rw[hq];rfl
       | succ k=>e ih (fun p hp=>hl p (.tail _ hp)) k p h
   r oW st.1.1 st.2 hdT st.1.2 hd hf hn (j:=p) (by simp[hx]) he fun h' hit' sb=>?_;r hQ _ h' s.toks ?_ ⟨⟨hit',(sb.2 a hne).trans st.1.2⟩,(sb.2 T hTne).trans st.2⟩ fun b o hb e=>(sb.2 b (fun h=>hb (by simp[h]))).trans e;rw[hfm ps (fun p hp=>by rw[hn];e hlt p hp) i _ hx,he];rfl
 done:=fun s Q E st hQ=>by
   r qW hh st.1.1 st.2 hdT st.1.2 hd hf hn ?_ fun h' eb=>hQ h' s.toks fun b o hb e=>eb b o (fun h=>hb (by simp[h])) e;simp[hp]
 self:=fun _ _ _ _ st hQ=>rE st.1.1 hQ
end
end L2
namespace L2
open PySem PySem.Spec PyProof.Rows PySem.W
section
variable {prog:Program}{w:World}{A:Around}{E:Value→Shared→Prop}{s:Shared}{a:Addr}{n:Nat}{K:Type} [DecidableEq K]{knd:KeyKind prog w K}{S:K→Bool}
noncomputable def k4 (knd:KeyKind prog w K)(S:K→Bool) (n:Nat)(vs:List Value):Prop:=vs.length=n∧(∀ v∈vs,∃ k,knd.is k v=true∧S k=true)∧∀ k,S k=true→∃ v∈vs,knd.is k v=true
þ k4.perm {vs vs':List Value}(d:k4 knd S n vs)(p:vs'.Perm vs):k4 knd S n vs' :=
 ⟨p.length_eq.trans d.1,fun v hv=>d.2.1 v (p.mem_iff.mp hv),fun k hk=>let ⟨v,hv,e⟩:=d.2.2 k hk;⟨v,p.mem_iff.mpr hv,e⟩⟩
þ u3 (hh:A.handled=none)(hS:de knd (eB w) s.heap a S n){Q:Value→Shared→Prop}
   (h:∀ (I:Addr)(h':Heap) d (St:Nat→Heap→Prop)(vs:List Value)(fp:List Addr),s.heap.objs.size≤I→(∀ b o,s.heap.get? b=some o→h'.get? b=some o)→(∀ b∈fp,b=a∨s.heap.objs.size≤b)→Walks prog w A I fp [I] n (fun k v=>vs[k]?=some v) St→St 0 h' →
     k4 knd S n vs→Q (.ref I) { s with heap:=h',drawn:=d }):wpAny (model prog w) A (pyIter (.ref a)) Q E s:=by
 o⟨oS,es,ep,t,ho,hex,hd,hel,hmem,hb,hf,hn,hup,hled⟩:=hS;h hT:s.TypeIs (.ref a) "set":=⟨oS,ho,hex.1⟩;h hlt:=Heap.lt_size ho
 h hdr:k4 knd S n (es.toList.map (·.2)):=by
   r⟨by rw[be,Ap];e hn,fun v hv=>?_,fun k hk=>?_⟩
   . o⟨e,he,rfl⟩:=List.mem_map.mp hv;o⟨⟨k,hk,_⟩,_⟩:=hel e he;e⟨k,hk,(hmem k).mpr ⟨e,he,hk⟩⟩
   . o⟨e,he,hk'⟩:=(hmem k).mp hk;e⟨e.2,List.mem_map.mpr ⟨e,he,rfl⟩,hk'⟩
 r wpAny_pyIter_slot hT F.slot_set_iter (wpAny_call_entry F.slot_set_iter hT ik ?_ (F.args_set_iter_1 _));unfold Builtin.«frozenset.__iter__»;r wpAny_bind (wpAny_pure ?_);unfold Builtin.Frozenset.sizeOf;r wpAny_bind (wpAny_bind (wpAny_setEntries_of ho hd hf (wpAny_pure ?_)));unfold setDrawn setsByText;r wpAny_bind (wpAny_bind (wpAny_setState_of ho hd hf ?_));r wpAny_bind (wpAny_bind (wpAny_askSetting (wpAny_pure ?_)));r wpAny_pure ?_;show wpAny _ _ (if(!(w.params.followText "set-order")&&(!t.plain&&decide (es.size > 1)))=true then _ else _) _ _ s;by_cases hdw:(!(w.params.followText "set-order")&&(!t.plain&&decide (es.size > 1)))=true
 . rw[if_pos hdw];r wpAny_bind (fH _ _ _ _ (by simp) fun ps d hp=>?_);r wpAny_bind (wpAny_newTuple ?_ (by rw[be,hp.length_eq,AW];e fits_of_scanBound hb));r wpAny_bind (wpAny_setEpoch_of (o:=oS) (Heap.get?_push_of_some _ ho) hd hf ?_);r wpAny_bind (wpAny_newObj_type ?_)
   h hps:ps.length=n:=by rw[hp.length_eq,AW];e hn
   r wpAny_pure ⟨_,rfl, "set_iterator",_,⟨_,Heap.get?_push_size _ rfl,rfl⟩,bu.lookup,?_⟩;h hz1:(s.heap.push { cls:=.type "tuple",data:=.seq (ps.map fun(i:Nat)=>rawInt i).toArray }).objs.size=s.heap.objs.size+1:=Heap.size_push ..
   r h _ _ d (fun i h=>SIt _ a oS (fun _=>.ref s.heap.objs.size) n ep i h∧h.get? s.heap.objs.size=some _) _ _ (by rw[hz1];m) (fun b o e=>Heap.get?_push_of_some _ (Heap.get?_push_of_some _ e)) ?_
     (sK (oT:={ cls:=.type "tuple",data:=.seq (ps.map fun(i:Nat)=>rawInt i).toArray }) hh (by rw[hz1];e z6 (A2 hlt)) (by rw[hz1];e z6 (Bj _)) hd hf hn rfl hps (fun p hp'=>by have:=List.mem_range.mp (hp.mem_iff.mp hp');m)) ?_ ?_
   . intro b hb;simp only[Az,Aq,or_false] at hb
     rcases hb with rfl | rfl | rfl
     . e .inr (by rw[hz1];m)
     . e .inl rfl
     . e .inr (zN _)
   . r⟨⟨⟨_,Heap.get?_push_size _ rfl,rfl,?_⟩,Heap.get?_push_of_some _ (Heap.get?_push_of_some _ ho)⟩,Heap.get?_push_of_some _ (Heap.get?_push_size _ rfl)⟩;simp[rawInt,hn]
   . r hdr.perm ?_;have:=(hp.filterMap fun p=>(es[p]?).map (·.2));r this.trans ?_
     h e:(zS es.size).filterMap (fun p=>(es[p]?).map (·.2))=es.toList.map (·.2):=by
       rw[←filterMap_getElem?_range es,List.map_filterMap]
     rw[e]
 . rw[if_neg hdw];r wpAny_bind (wpAny_pure ?_);r wpAny_bind (wpAny_setEpoch_of (o:=oS) ho hd hf ?_);r wpAny_bind (wpAny_newObj_type ?_);r wpAny_pure ⟨_,rfl, "set_iterator",_,⟨_,Heap.get?_push_size _ rfl,rfl⟩,bu.lookup,?_⟩
   h hfp:∀ b∈[s.heap.objs.size,a],b=a∨s.heap.objs.size≤b:=fun b hb=>by
     simp only[Az,Aq,or_false] at hb
     rcases hb with rfl | rfl
     . e .inr (zN _)
     . e .inl rfl
   cases hw:eB w with
   | false =>
     r h _ _ s.drawn (SIt _ a oS (fun i=>.int ((fun _=>0:Nat→Nat) i) 0) n ep) _ _ (zN _) (fun b o e=>Heap.get?_push_of_some _ e) hfp
       (kj hh (z6 hlt) hd hf hn (fun _=>0) ((pickOrder (w.params.setOrder a ep) es).toList.map (·.2)) (by rw[be,(li _ es).length_eq,Ap];e hn) fun k s A E Q _ ho' q=>mW hw ho' hd hf (by simpa [zK,Option.map_map,Function.comp_def] using q)) ?_ (hdr.perm ((li _ es).map _))
     e⟨⟨_,Heap.get?_push_size _ rfl,rfl,by simp[rawInt,hn]⟩,Heap.get?_push_of_some _ ho⟩
   | true =>
     h hb':w.params.followText "set-order"=false:=by unfold eB at hw;simpa using hw
     h hnd:(!t.plain&&decide (es.size > 1))=false:=by rw[hb'] at hdw;simpa using hdw
     h hps:t.place.size=n:=by simp only[SetTable.fits,Bool.and_eq_true,beq_iff_eq] at hf;m
     h hbel:∀ k,k≤n→SetTable.below t.place (if k=0 then 0 else t.place.getD (k - 1) 0+1)=k:=by
       intro k hk;generalize hsl:(if k=0 then 0 else t.place.getD (k - 1) 0+1)=sl;o⟨b1,b2,b3⟩:=pA hup sl;r Nat.le_antisymm (Cg fun hlt=>?_) (Cg fun hlt=>?_)
       . have:=b2 k hlt;by_cases h0:k=0
         . rw[if_pos h0] at hsl;m
         . rw[if_neg h0] at hsl;have:=hup.lt (i:=k - 1) (k:=k) (by m) (by m);m
       . by_cases h0:k=0
         . m
         . rw[if_neg h0] at hsl;have:=b3 (k - 1) (by m) (by m);m
     r h _ _ s.drawn (SIt _ a oS (fun i=>.int ((fun k=>if k=0 then 0 else t.place.getD (k - 1) 0+1:Nat→Nat) i) 0) n ep) _ _ (zN _) (fun b o e=>Heap.get?_push_of_some _ e) hfp
       (kj hh (z6 hlt) hd hf hn (fun k=>if k=0 then 0 else t.place.getD (k - 1) 0+1) (es.toList.map (·.2)) (by rw[be,Ap];e hn) fun k s A E Q hk ho' q=>oU hw (hled.trans hw) hnd ho' hd hf (by
         rw[hbel k hk];by_cases hkn:k < n
         . obtain⟨e,he⟩:∃ e,es[k]?=some e:=⟨_,z7 (by m)⟩;obtain⟨p,hp⟩:∃ p,t.place[k]?=some p:=⟨_,z7 (by m)⟩;rw[he,hp]
           h e1:(es.toList.map (·.2))[k]?=some e.2:=by rw[zK,AY,he];rfl
           rw[e1] at q;simp only[BC,Nat.add_sub_cancel,Nat.succ_ne_zero,Nat.add_eq_zero_iff,Nat.one_ne_zero,and_false,↓reduceIte,Au,hp,Bx] at q;e q
         . h e0:es[k]?=none:=Array.getElem?_eq_none_iff.mpr (by m);rw[e0]
           h e1:(es.toList.map (·.2))[k]?=none:=by rw[zK,AY,e0];rfl
           rw[e1] at q
           e q)) ?_ hdr
     e⟨⟨_,Heap.get?_push_size _ rfl,rfl,by simp[rawInt,hn]⟩,Heap.get?_push_of_some _ ho⟩
end
þ kU:typeLookup (.type "set") "__len__"=pure (some (.builtin "set.__len__")):=by rw[typeLookup_type,builtinLookup_eq_fast];kernel_rfl
section
variable {prog:Program}{w:World}{A:Around}{E:Value→Shared→Prop}{s:Shared}{a:Addr}{n:Nat}{K:Type} [DecidableEq K]{knd:KeyKind prog w K}{S:K→Bool}
þ xi {r:Addr}{Q:Bool→Shared→Prop}(hT:s.TypeIs (.ref r) "set")(h:Q false s):wpAny (model prog w) A (Builtin.List.listLengthHint (.ref r)) Q E s:=by
 unfold Builtin.List.listLengthHint;r wpAny_bind (wpAny_specialOf hT kU ?_);generalize hid:("set.__len__":String)=id0
 wp_delta
 rw[show splitId id0=some ("set", "__len__") from by subst hid;d];subst hid;r wpAny_bind (wpAny_isInstance (T:="set") (b:=true) hT (by rw[isSubtype_type];kernel_rfl) ?_);r wpAny_ite_split (fun hab=>absurd hab (by decide)) (fun _=>?_);r wpAny_ite_split (fun _=>?_) (fun hab=>absurd (by d) hab);r wpAny_bind (wpAny_typeOf hT ?_);e wpAny_pure h
þ de.typeIs {led:Bool}(x:de knd led s.heap a S n):s.TypeIs (.ref a) "set":=let ⟨o,_,_,_,ho,hex,_⟩:=x;⟨o,ho,hex.1⟩
þ de.lt {led:Bool}{h:Heap}(x:de knd led h a S n):a < h.objs.size:=let ⟨o,_,_,_,ho,_⟩:=x;Heap.lt_size ho
þ de.bound {led:Bool}{h:Heap}(x:de knd led h a S n):n≤sizeLine:=let ⟨_,_,_,_,_,_,_,_,_,hb,_,hn,_⟩:=x;by rw[←hn];e fits_of_scanBound hb
þ tU {R:Result→Shared→Prop}(hh:A.handled=none)(hS:de knd (eB w) s.heap a S n)(D:Addr)(hDa:D≠a) (res:Value) (c₀:Nat)(hD:s.heap.get? D=some { cls:=.type "list",data:=.seq #[] c₀ })
   (hR:∀ h' tk d acc' c',(∀ b o,b≠D→s.heap.get? b=some o→h'.get? b=some o)→h'.get? D=some { cls:=.type "list",dict:=none,data:=.seq acc' c',slots:=#[] }→k4 knd S n acc'.toList→R (.ok (.ret res)) { s with heap:=h',toks:=tk,drawn:=d }) :
   wpAny (model prog w) A.in1 (Builtin.List.listExtendWith (.ref D) (.ref a) res)
     (fun fin s'=>match fin with | .done f=>R (.ok f) s' | .again c'=>c'.quiet=true∧codeAny (model prog w) A c' R s') (fun e s'=>R (.error e) s') s:=by
 unfold Builtin.List.listExtendWith;r wpAny_bind (wpAny_typeOf (T:="set") hS.typeIs ?_)
 h h1:Builtin.List.listSameRef (.ref D) (.ref a)=false:=by simp[Builtin.List.listSameRef,hDa]
 h h2:(Value.type "set"==Value.type "list")=false:=by decide
 h h3:(Value.type "set"==Value.type "tuple")=false:=by decide
 simp only[h1,h2,h3,Bool.or_false,Bool.false_eq_true,if_false];r wpAny_bind (u3 (A:=A.in1) (by e hh) hS fun I h1 d St vs fp hI hk1 hfp W st hdr=>?_);h hDlt:=Heap.lt_size hD
 h hDf:D∉fp:=fun hm=>by
   rcases hfp D hm with e | e
   . e hDa e
   . e absurd hDlt (Nat.not_lt.mpr e)
 h key:∀ (h:Heap) (c₁ tk:Nat),St 0 h→(∀ b o,b≠D→s.heap.get? b=some o→h.get? b=some o) →
     h.get? D=some { cls:=.type "list",data:=.seq #[] c₁ }→codeAny (model prog w) A (.builtin "list.extend.loop" ⟨[.ref D,.ref I,res],[]⟩) R { s with heap:=h,toks:=tk,drawn:=d }:=by
   intro h c₁ tk hst hk hD₁;r codeAny_extend_loopS W.toS hS.bound D hDf res n 0 _ #[] c₁ rfl (AA _) hst hD₁ (ItemsOf.nil _) fun s' acc' c' hm hD' hacc=>?_;rw[Moved.eq_with hm];r hR s'.heap s'.toks d acc' c' (fun b o hb e=>hm.heap b o (fun hmem=>?_) (hk b o hb e)) hD' ?_
   . rcases List.mem_cons.mp hmem with e' | hmem
     . e hb e'
     . e absurd (Heap.lt_size e) (by rw[List.mem_singleton.mp hmem];e Nat.not_lt.mpr hI)
   . h e:acc'.toList=vs:=by
       r Cd fun i=>?_
       rcases Nat.lt_or_ge i n with hi | hi
       . h hi':i < acc'.size:=by rw[hacc.1];e hi
         rw[AY,z7 hi'];e(hacc.2 i _ (z7 hi')).symm
       . rw[List.getElem?_eq_none_iff.mpr (by rw[Ap,hacc.1];e hi),List.getElem?_eq_none_iff.mpr (by rw[hdr.1];e hi)]
     rw[e];e hdr
 h hD₁:=hk1 _ _ hD;r wpAny_bind (wpAny_holding (xi (s:={ s with heap:=h1,drawn:=d }) (let ⟨o,ho,hc⟩:=hS.typeIs;⟨o,hk1 _ _ ho,hc⟩) ?_));r wpAny_ite_split (fun _=>?_) (fun _=>wpAny_pure ⟨plainId_quiet PySem.F.plain_extend_loop _,key _ c₀ _ st (fun b o _ e=>hk1 b o e) hD₁⟩);r wpAny_bind (wpAny_rule ?_);r wpAny_bind ?_;show wpAny _ _ (updateSeq D (·.push .none) >>= fun _=>updateSeq D (·.pop)) _ _ _;r wpAny_bind (wpAny_updateSeq hD₁ rfl ?_);h hD₂:=Heap.get?_update_self (Obj.mapSeq (·.push Value.none)) hD₁ rfl;r wpAny_updateSeq (hz:=by seq_fits) hD₂ rfl ?_;h hD₃:=Heap.get?_update_self (Obj.mapSeq (·.pop)) hD₂ rfl;r wpAny_pure ⟨plainId_quiet PySem.F.plain_extend_loop _,key _ _ _ ?_ (fun b o hb e=>?_) hD₃⟩
 . r W.frame 0 _ _ st fun b hb o e=>?_;h hbD:b≠D:=fun h=>hDf (h▸hb);e(Heap.get?_update_other _ _ (Ne.symm hbD)).trans ((Heap.get?_update_other _ _ (Ne.symm hbD)).trans e)
 . e(Heap.get?_update_other _ _ (Ne.symm hb)).trans ((Heap.get?_update_other _ _ (Ne.symm hb)).trans (hk1 b o e))
þ qC {R:List Value→Shared→Prop}(hh:A.handled=none)(hS:de knd (eB w) s.heap a S n)
   (h:∀ (h':Heap) (tk:Nat) d (acc:Array Value),(∀ b o,s.heap.get? b=some o→h'.get? b=some o)→k4 knd S n acc.toList→R acc.toList { s with heap:=h',toks:=tk,drawn:=d }) :
   wpAny (model prog w) A (collect (.ref a)) R E s:=by
 h hlt:=hS.lt;unfold collect;r wpAny_bind (wpAny_runValue (codeAny_builtin entry_proto_collect' ?_));rw[Around.under_plainId PySem.F.plain_proto_collect _];show wpAny _ A.in1 (newList [] >>= fun l=>again (.builtin "list.__iadd__" ⟨[l,.ref a],[]⟩)) _ _ s;r wpAny_bind (wpAny_newObj_type ?_);r wpAny_pure ⟨plainId_quiet PySem.F.plain_list_iadd _,codeAny_builtin entry_list_iadd' ?_⟩;rw[Around.under_plainId PySem.F.plain_list_iadd _];h hS₁:(s.heap.push { cls:=.type "list",data:=.seq ([]:List Value).toArray }).get? s.heap.objs.size=some { cls:=.type "list",data:=.seq #[] }:=Heap.get?_push_size _ rfl;show wpAny _ A.in1 (Builtin.List.listExtendWith (.ref s.heap.objs.size) (.ref a) (.ref s.heap.objs.size)) _ _ _
 h key:=tU (A:=A) (s:={ s with heap:=s.heap.push { cls:=.type "list",data:=.seq ([]:List Value).toArray } })
   (R:=fun(q:Result)(s':Shared)=>∃ (h':Heap) (tk:Nat)(d:PySem.Drawn)(acc':Array Value) (c':Nat),q=.ok (.ret (.ref s.heap.objs.size))∧s'={ s with heap:=h',toks:=tk,drawn:=d } ∧
     (∀ b o,s.heap.get? b=some o→h'.get? b=some o)∧h'.get? s.heap.objs.size=some { cls:=.type "list",dict:=none,data:=.seq acc' c',slots:=#[] }∧k4 knd S n acc'.toList)
   hh (hS.at_ fun o e=>Heap.get?_push_of_some _ e) s.heap.objs.size (BG hlt) (.ref s.heap.objs.size) 0 hS₁
   (fun h' tk d acc' c' hk hS' hacc=>⟨h',tk,d,acc',c',rfl,rfl,fun b o e=>hk b o (z6 (Heap.lt_size e)) (Heap.get?_push_of_some _ e),hS',hacc⟩)
 r wpAny_mono key (fun fin s' x=>?_) fun e s' x=>?_
 . cases fin with
   | done f =>
     o⟨h',tk,d,acc',c',e,rfl,hk,hS',hacc⟩:=x;cases e;show wpAny _ A (load s.heap.objs.size >>= _) _ _ _;r wpAny_bind (wpAny_load hS' ?_);e wpAny_pure (h h' tk d acc' hk hacc)
   | again c₁ =>
     r⟨x.1,codeAny_mono x.2 fun q s₂ y=>?_⟩;o⟨h',tk,d,acc',c',rfl,rfl,hk,hS',hacc⟩:=y;show wpAny _ A (load s.heap.objs.size >>= _) _ _ _;r wpAny_bind (wpAny_load hS' ?_);e wpAny_pure (h h' tk d acc' hk hacc)
 . o⟨_,_,_,_,_,e',_⟩:=x;cases e'
end
noncomputable def xL (P:Program)(w:World)(p:Addr)(L:List Int):HO:=.ext fun h=>de (PySem.intKind P w) (eB w) h p (fun k=>decide (k∈L)) L.length
þ k4.keys {prog:Program}{w:World}{K:Type} [DecidableEq K]{knd:KeyKind prog w K}{L:List K}{vs:List Value}(hn:L.Nodup)(d:k4 knd (fun k=>decide (k∈L)) L.length vs):∃ ks:List K,ks.Perm L∧ks.length=vs.length∧∀ (i:Nat) v,vs[i]?=some v→∃ k,ks[i]?=some k∧knd.is k v=true:=by
 o⟨d1,d2,d3⟩:=d
 h h:∀ us:List Value,(∀ v∈us,∃ k,knd.is k v=true∧k∈L)→∃ ks:List K,ks.length=us.length∧(∀ (i:Nat) (v:Value),us[i]?=some v→∃ k,ks[i]?=some k∧knd.is k v=true)∧∀ v∈us,∀ k,knd.is k v=true→k∈ks:=by
   intro us
   induction us with
   | nil=>e fun _=>⟨[],rfl,(fun i v h=>by cases h),fun v hv=>by cases hv⟩
   | cons u us ih =>
     intro hu;o⟨k,hk,_⟩:=hu u (.head _);o⟨ks,h1,h2,h3⟩:=ih fun v hv=>hu v (.tail _ hv);r⟨k::ks,by simp[h1],fun i v hv=>?_,fun v hv k' hk'=>?_⟩
     . cases i with
       | zero=>cases hv;e⟨k,rfl,hk⟩
       | succ i=>e h2 i v hv
     . rcases List.mem_cons.mp hv with rfl | hv
       . rw[knd.inj _ _ _ hk' hk];e .head _
       . e .tail _ (h3 v hv k' hk')
 o⟨ks,h1,h2,h3⟩:=h vs fun v hv=>let ⟨k,a,b⟩:=d2 v hv;⟨k,a,by simpa using b⟩
 r⟨ks,gz L ks hn (fun x hx=>?_) (by m),h1,h2⟩;o⟨v,hv,e⟩:=d3 x (by simpa using hx);e h3 v hv x e
section
variable {X:Cx}
þ sv (hc:X.calm=true):cv X (.type "set") (fun xs H Q=>∃ (a:Addr)(ss:List Int),xs=[.ref a]∧SqL X.K H a (ss.map V.int)∧ss.length≤1000∧∀ p,H p=none→Q (.ref p) (upd H p (xL X.prog X.w p (dR ss)))):=by
 intro pins s σ H xs us Q I r h;o⟨a,ss,rfl,ha,hn,q⟩:=h;o⟨u,rfl,ru⟩:=eA r;cases ru;o⟨its,rv,pl,_⟩:=I.list ha;h hl:=rv.length;rw[be] at hl
 h hk:mr (PySem.intKind X.prog X.w) its.toArray ss:=by
   r⟨by rw[zW];m,fun i k hi=>?_⟩;o⟨u,hu,t,rfl⟩:=rv.get (i:=i) (x:=V.int k) (by rw[zK,hi];rfl);e⟨.int k t,by simpa using hu,intKind_is _ _ _ _,rfl⟩
 r sN (I.ok.hd hc) pl.isList hk (by rw[zW];unfold scanBound;m) fun h' tk kk hS=>?_
 h he:∃ o,h'.get? s.heap.objs.size=some o:=by o⟨o,_,_,_,e,_⟩:=hS;e⟨o,e⟩
 e⟨.ref s.heap.objs.size,_,I.laid (o:=xL X.prog X.w s.heap.objs.size (dR ss)) kk (zN _) ⟨hS,he,fun h1 h2 x k=>de.at_ x k⟩,rfl,q _ (I.hok.fresh (zN _))⟩
þ Inv.drew {pins:List (Addr×Obj)}{σ:St}{H:Hp}{s:Shared}{d:PySem.Drawn}(I:Inv X pins σ H s):Inv X pins σ H { s with drawn:=d } :=
 ⟨I.ok,I.os,I.bare,I.base,I.loc,I.cell,I.free,I.freeC,I.pin,I.hok,I.len⟩
þ jf:∀ {l:List Value}{ks:List Int},l.length=ks.length→(∀ (i:Nat) v,l[i]?=some v→∃ x t,ks[i]?=some x∧v=.int x t)→IntsAre l ks
 | [],[],_,_=>.nil
 | [],_::_,h,_=>by simp at h
 | _::_,[],h,_=>by simp at h
 | v::l,k::ks,h,hv=>by
   o⟨x,t,hx,e⟩:=hv 0 v rfl;simp at hx;subst hx e;e .cons _ t (jf (by simpa using h) fun i u hu=>by simpa using hv (i+1) u (by simpa using hu))
þ nr (hc:X.calm=true):cv X (.builtin "sorted") (fun xs H Q=>∃ (d:Addr)(L:List Int),xs=[.ref d]∧H d=some (xL X.prog X.w d L)∧L.Nodup∧L.length < 64∧∀ p (ss':List Int),H p=none→ss'.Perm L→ss'.Pairwise (·≤·)→Q (.ref p) (upd H p (.lst (ss'.map V.int)))):=by
 intro pins s σ H xs us Q I r h;o⟨d,L,rfl,hd,hnd,hn,q⟩:=h;o⟨u,rfl,ru⟩:=eA r;cases ru;o⟨hS,_⟩:=I.hok d _ hd;r Calls.call_function_entry kind_sorted plain_sorted entry_sorted (args_sorted1 _) ?_;unfold Builtin.«sorted»;r wpAny_bind (m:=checkCount "sorted" 1 1 _) (wpAny_pure ?_);r wpAny_bind (qC (A:=X.A.in1) (I.ok.hd hc) hS fun h' tk d' acc kk hacc=>?_);o⟨ks,k1,k2,k3⟩:=hacc.keys hnd
 h hst:IntsAre acc.toList ks:=by
   r jf k2.symm fun i v hv=>?_;o⟨k,hk,his⟩:=k3 i v hv;o⟨t,rfl⟩:=Value.isInt_shape his;e⟨k,t,hk,rfl⟩
 h hal:acc.toList.length < 64:=by rw[←k2,k1.length_eq];e hn
 r wpAny_bind (wpAny_newList ?_ (by rw[sizeLine_eq];m));h hoL:(h'.push (seqObj "list" acc.toList.toArray 0)).get? h'.objs.size=some (seqObj "list" acc.toList.toArray 0):=Heap.get?_push_size _ rfl;r wpAny_bind (wpAny_holding (wpAny_call_entry slot_list_sort ⟨_,hoL,rfl⟩ entry_list_sort (list_sort_tree hoL hst (by m) fun out ns' a1 a2 a3=>⟨_,rfl,?_⟩) (args_list_sort _)));h hp:=a2.length_eq;h I1:Inv X pins σ H { s with heap:=h',toks:=tk,drawn:=d' }:=(I.kept (t':=tk) kk).drew;o⟨e,he⟩:=sortedHeap_at (out:=out) hoL;r wpAny_pure ⟨_,rfl,?_⟩;r⟨.ref h'.objs.size,_,I1.laid (o:=.lst (ns'.map V.int)) (t':=tk) (fun b o x=>?_) (zN _) ⟨by rw[be,sizeLine_eq];m,_,e,iT a1,he⟩,rfl,q _ ns' (I1.hok.fresh (zN _)) (a2.trans k1) a3⟩;h hlt:=Heap.lt_size x;rw[sortedHeap_old (z6 hlt) (by rw[Heap.size_push];e A2 hlt)];e Heap.get?_push_of_some _ x
end
end L2
namespace L2
open PySem PySem.Spec PyProof.Rows
section
variable {X:Cx}{N':List Str}{pk:List (Option Nat)}{scope:Scope}
þ vv {i:Nat}{y:Str}{elt tg iter cnd:Expr}{wi:TI}{g:TG}{tc:TT}{te:TE}{pos spos py:Pos}(hN:X.N.Nodup)(hiy:X.N[i]?=some y)(hy:Loc X.env.scope y)(hc:X.calm=true)(B:bZ X.N X.env scope N' pk)(hi:PI X tg iter wi)
   (hg:∀ s H ex,PG (cxB X N' scope s H ex) tg g)(ht:∀ s H ex,PT (cxB X N' scope s H ex) cnd tc)(he:∀ s H ex,PE (cxB X N' scope s H ex) elt te)
   (hsw:swapsWith (.ListComp elt [⟨tg,iter,[cnd],0⟩] scope pos) (some (.Name y py)) spos.line X.env=pure true:=by rfl)
   (hs:∀ x,foldedSetIterable iter X.env x=pure x:=by intro _;rfl)(hf:X.fn y=true∨X.env.scope.names.lookup y=some .local:=by first | e .inl rfl | e .inr rfl | assumption) :
   PS X (.Assign [.Name y py] (.ListComp elt [⟨tg,iter,[cnd],0⟩] scope pos) spos) (sr (ni pk wi g tc te) (bG i)):=by
 intro pins s σ H D0 I h;rw[exec_Assign_Name_used _ _ _ _ hsw];r wpAny_bind (wpAny_standAt (wpAny_bind ?_));show wpAny _ X.A (do let _ ←comprehension (.ListComp elt [⟨tg,iter,[cnd],0⟩] scope pos) scope X.env _ (newList []) false (eval iter X.env) (some (assign (.Name y py) X.env))) _ _ s
 r wpAny_bind (wpAny_mono (wpAny_comprehension_free (use:=some (assign (.Name y py) X.env)) (Q:=fun _ s'=>SP X pins D0 .next s') rfl hs (ff (ib I B)) B.kind B.names
   (thn (hi s σ H _ I h) fun v s1 h1=>thn h1 fun itv s2 ⟨it,fp,tn,J,H2,e,I2,T,st2,f2,hW⟩=>?_)) (fun _ s' hq=>wpAny_pure (wpAny_pure hq)) fun _ _ e=>e)
 subst e;r lC (QD:=fun D H'=>D0.nx (σ.set i (§D)) H') (RR:=fun acc C=>compPost (model X.prog X.w) X.A X.xe (some (assign (.Name y py) X.env)) (fun _ s'=>SP X pins D0 .next s') acc C) I2 B hc T st2 f2 hg ht he hW fun D C s' H' m I' f' hn q=>?_;r wpAny_assign_Name (iC (v:=.ref D) I' hN hiy hy rfl (fun s3 I3 ⟨a,hsa,ha⟩=>?_) hf)
 h hCa:C≠a:=by
   rcases ha with z | z
   . e z▸f'.2.1
   . e fun e=>f'.2.2.2.2.1 _ _ z e.symm
 e⟨m,hn.sameBut hsa hCa,fun h' hs'=>⟨_,H',I3.gone f' hs',q⟩⟩
end
section
variable {prog:Program}{w:World}{A:Around}{E:Value→Shared→Prop}{s:Shared}
end
section
variable {prog:Program}{w:World}{A:Around}{E:Value→Shared→Prop}{s:Shared}{z TI TO i1 i2 i3 l1 l2 l3:Addr}{k:Nat}{xs ys us:Array Value}{x y u a b c:Value}
end
section
variable {prog:Program}{w:World}{A:Around}{E:Value→Shared→Prop}{s:Shared}{z TI TO i1 i2 i3 l1 l2 l3:Addr}{k:Nat}{xs ys us:Array Value}{x y u a b c:Value}
end
noncomputable def It3 (K:PySem.W.Frag)(a b c:Addr):It :=
 ⟨fun i H=>∃ xs x ys y us u,SqL K H a xs∧xs[i]?=some x∧SqL K H b ys∧ys[i]?=some y∧SqL K H c us∧us[i]?=some u,
   fun i H v H'=>∃ T x y u,H T=none∧v=.ref T∧H'=upd H T (.tup [x,y,u])∧(∀ xs,SqL K H a xs→xs[i]?=some x)∧(∀ ys,SqL K H b ys→ys[i]?=some y)∧∀ us,SqL K H c us→us[i]?=some u,
   fun i H=>∃ xs ys us,SqL K H a xs∧SqL K H b ys∧SqL K H c us∧xs.length≤i⟩
noncomputable def xp (K:PySem.W.Frag)(ta:TA):TI:=fun σ H R=>ta σ H fun vs H1=>∃ a b c,vs=[.ref a,.ref b,.ref c]∧(∃ xs,SqL K H1 a xs)∧(∃ ys,SqL K H1 b ys)∧(∃ us,SqL K H1 c us)∧R (It3 K a b c) H1
section
variable {X:Cx}
end
noncomputable def yR (K:PySem.W.Frag)(te:TE)(ts:TO):TE:=fun σ H Q=>te σ H fun x H1=>ts σ H1 fun st H2=>st=some (-1)∧∃ a xs,x=.ref a∧SqL K H2 a xs∧∀ p,H2 p=none→Q (.ref p) (upd H2 p (.lst xs.reverse))
section
variable {X:Cx}{te:TE}{ts:TO}{e ce:Expr}{p2 p3 pos:Pos}
end
end L2
namespace L2
open PySem
section
variable {X:Cx}
end
end L2
namespace DM
open PySem L2
noncomputable def top (i:Nat):Stmt:=PySem.Challenge.pw_dipmaps_k38_whole_days.main.body.getD i (.Pass ⟨0,0,0,0⟩)
abbrev qx:Stmt:=top 36
abbrev pU:Stmt:=top 37
abbrev p8:Stmt:=bA (top 24) 0
abbrev nu:Stmt:=bA (top 24) 1
abbrev jT:Stmt:=bA (top 24) 2
abbrev mX:Stmt:=bA (top 24) 3
abbrev vy:Stmt:=bA (top 24) 4
abbrev qo:Stmt:=bA (top 24) 5
abbrev jQ:Stmt:=bA (top 24) 6
abbrev qB:Stmt:=bA (top 24) 7
abbrev mE:Stmt:=bA (top 24) 8
abbrev mP:Stmt:=bA (top 24) 9
abbrev qi:Stmt:=bA (top 24) 10
abbrev ky:Stmt:=bA (top 24) 11
abbrev jK:Stmt:=bA (top 24) 12
abbrev qA:Stmt:=bA (top 24) 13
abbrev wa:Stmt:=top 23
abbrev pY:Stmt:=top 42
abbrev sNo:Stmt:=top 44
abbrev ml:Stmt:=top 47
abbrev uC:Stmt:=top 17
abbrev sAt:Stmt:=top 34
abbrev qG:Stmt:=top 35
abbrev mw:Stmt:=top 38
abbrev mG:Stmt:=top 39
abbrev qv:Stmt:=top 40
abbrev qU:Stmt:=top 41
abbrev yc:Stmt:=top 65
abbrev kT:Stmt:=top 43
abbrev sDo:Stmt:=top 45
abbrev qp:Stmt:=top 46
abbrev jw:Stmt:=top 28
abbrev gU:Stmt:=top 29
abbrev nw:Stmt:=top 30
abbrev ju:Stmt:=top 31
abbrev sd:Stmt:=bA (top 32) 0
abbrev jV:Stmt:=bA (top 32) 1
abbrev nq:Stmt:=bA (top 32) 2
abbrev mF:Stmt:=bA (top 32) 3
abbrev uT:Stmt:=bA (top 32) 4
abbrev iu:Stmt:=bA (top 32) 5
abbrev jy:Stmt:=bA (top 32) 6
abbrev gZ:Stmt:=bA (top 32) 7
abbrev kq:Stmt:=top 48
abbrev iH:Stmt:=top 49
abbrev iV:Stmt:=top 50
abbrev jG:Stmt:=top 51
abbrev iy:Stmt:=top 52
abbrev nC:Stmt:=top 53
abbrev kI:Stmt:=top 54
abbrev gE:Stmt:=top 55
abbrev iR:Stmt:=top 56
abbrev yv:Stmt:=top 57
abbrev v5:Stmt:=top 58
abbrev u6:Stmt:=top 59
abbrev vo:Stmt:=top 60
abbrev vA:Stmt:=top 61
abbrev vn:Stmt:=top 62
abbrev pN:Stmt:=top 63
abbrev pT:Stmt:=top 64
set_option hygiene false in
local macro_rules | `(tactic| walk_at "dm")=>`(tactic| ((try dsimp only[lW,lK,rX,xF,t7,nX,tOp,kY,tCB,fU,tw,yt,tC,rI0,rI,gP,pE,wJ,sr,bG,v6,vC,tOr,xK,xN,tB,uA,yS,uh,tIf,yy,uO,rG,rS,rm,tUn,rU,tSl,yq,mh,vR,rIn,yi,qz,mo,mK,jW,vW,vJ,pD,uQ,qS,ni,uO,yw,nj,u9,yn,uc,xH,vi,xx,xp,yR,xk,yT,ipI,xP,uY,xl,xD,bQ,iQ,xW,tBM,yz,wY,l7,xv,xt,rl,wk,ui,tY,kG,q9,ut,fY,rEq,rNe,uP,vT,zv,uf,aE,aO,om,List.map_cons,List.map_nil,List.length_cons,List.length_nil,List.cons_append,List.nil_append,Nat.sub_self,Nat.reduceSub,Nat.reduceAdd,List.replicate,List.getElem?_cons_zero,List.getElem?_cons_succ,List.getElem?_nil,Option.bind_some,Option.bind_none,id_eq,List.set_cons_zero,List.set_cons_succ,List.append_nil]);try simp only[lW,lK,rX,km,cV,rZ,xF,t7,nX,tOp,kY,tCB,fU,tw,yt,tC,rI0,rI,gP,pE,wJ,sr,bG,v6,vC,tOr,xK,xN,tB,uA,yS,uh,tIf,yy,uO,rG,rS,rm,tUn,rU,tSl,yq,mh,vR,rIn,yi,qz,mo,mK,jW,vW,vJ,pD,uQ,qS,ni,uO,yw,nj,u9,yn,uc,xH,vi,xx,xp,yR,xk,yT,ipI,xP,uY,xl,xD,bQ,iQ,xW,tBM,yz,wY,l7,xv,xt,rl,wk,ui,tY,kG,q9,ut,fY,rEq,rNe,uP,vT,zv,uf,aE,aO,om,List.map_cons,List.map_nil,List.length_cons,List.length_nil,List.cons_append,List.nil_append,Nat.sub_self,Nat.reduceSub,Nat.reduceAdd,List.replicate,List.getElem?_cons_zero,List.getElem?_cons_succ,List.getElem?_nil,Option.bind_some,Option.bind_none,id_eq,Option.some.injEq,exists_eq_left',exists_eq_left,V.int.injEq,V.ref.injEq,V.str.injEq,V.bl.injEq,V.ty.injEq,List.cons.injEq,and_true,true_and,List.set_cons_zero,List.set_cons_succ,List.append_nil,exists_and_left,exists_and_right,and_assoc,exists_const,decide_eq_true_eq,Bool.not_eq_true',decide_eq_false_iff_not,if_true,if_false,Bool.false_eq_true]))
noncomputable def bp:Str:="abcdefghijklmnopqrstuvwxyz"
noncomputable def inS (z:Str):Bool:=!(Builtin.Str.occurrences bp z 0 bp.length 1).isEmpty
noncomputable def inL (c:Nat):Bool:=inS ⟨#[c]⟩
noncomputable def bc (z:Str):Bool:=(decide (1≤z.length)&&decide (z.length≤8))&&z.cps.toList.all inL
noncomputable def atL (ns:List Int) (k:Int):Int:=if k < ns.length then ns.getD k.toNat 0 else 0
noncomputable def sM (K:PySem.W.Frag):Sp:=fun vs H Q _=>∃ (a:Addr)(ns:List Int) (k:Int),vs=[.ref a,.int k]∧SqL K H a (ns.map V.int)∧0≤k∧Q (.int (atL ns k)) H
noncomputable def me:Sp:=fun vs H Q _=>∃ z:Str,vs=[.str z]∧z.length≤1000∧∀ H',af H H'→Q (.bl (bc z)) H'
þ dB {K:PySem.W.Frag}{H:Hp}{a:Addr}{ns:List Int}{k:Int}{Q:VK}{E:XK}(ha:SqL K H a (ns.map V.int))(h0:0≤k)(q:Q (.int (atL ns k)) H):sM K [.ref a,.int k] H Q E:=⟨a,ns,k,rfl,ha,h0,q⟩
structure Txt (mg:Str→Option Value):Prop where
 len:mg "len"=none
 all:mg "all"=none
 range:mg "range"=none
 isi:mg "isinstance"=none
 list:mg "list"=none
 str:mg "str"=none
 sorted:mg "sorted"=none
 tuple:mg "tuple"=none
 dict:mg "dict"=none
 zip:mg "zip"=none
 set:mg "set"=none
 min:mg "min"=none
 int:mg "int"=none
 lett:∃ t,mg "LETTERS"=some (.str bp t)
 long:∃ t,mg "LONGEST"=some (.int 8 t)
þ aM:(1000:Nat)≤sizeLine:=by rw[sizeLine_eq];decide
þ cE {α:Type} (n:Nat)(l:List α)(f:Nat→V)(h:α→V)(hl:l.length=n)(e:∀ i x,l[i]?=some x→f i=h x):(zS n).map f=l.map h:=by
 r Cd fun i=>?_;rw[zK,zK];by_cases hi:i < n
 . rw[BW hi,zJ (by m)];show some (f i)=some (h _);rw[e i _ (zJ (by m))]
 . rw[A9 (by simpa using hi),A9 (by m)];rfl
section
variable {P:Program}{w:World}{K:PySem.W.Frag}{mg:Str→Option Value}{base:Heap}
þ zy:ay ["_law_script", "_law_k"] ["_law_script", "_law_k"] (ar sAt):=®
set_option hygiene false in
local macro "fo " s:term:tactic=>`(tactic| (refine F.ok $s (fun vs H Q E h=>by repeat (first | (obtain⟨rfl,_⟩:=h;rfl) | obtain⟨_,h⟩:=h)) ?_;intro cdv A outer s H vs Q E hr h))
þ zu {f:Addr}{fd:FuncData}(F:Fun K "_law_at" "_law_at" sAt f fd)(T:Txt mg):aW P w K mg base CX0 1 f fd ["_law_script", "_law_k"] (sM K):=by
 fo zy;o⟨a,ns,k,rfl,ha,h0,q⟩:=h;r⟨_,aN (aC (ap cX (pv 1) (al av (by rfl) T.len zT (aa (pv 0) ae)) (ax _)) (ah (aq (am ak (pv 0) (pv 1) ¿))) ao) (ah (aq ag)),?_⟩
 try dsimp only[aE,aO]
 w;r⟨_,.inl ha,?_⟩;rw[be];unfold atL at q;r az (fun hk=>?_) (fun hk=>?_)
 . rw[if_pos hk] at q;r⟨_,ha,_,?_,q⟩;o⟨j,rfl⟩:=A3 h0
   h hl:j < ns.length:=by m
   r bU ?_;rw[zK,zM,An,zJ hl];rfl
 . rw[if_neg hk] at q;e q
þ xZ:ay ["text"] ["text"] (ar uC):=®
þ wj {f:Addr}{fd:FuncData}(F:Fun K "good_name" "good_name" uC f fd)(T:Txt mg):aW P w K mg base CX0 1 f fd ["text"] me:=by
 fo xZ;o⟨z,rfl,hz,q⟩:=h;o⟨tl,hlett⟩:=T.lett;o⟨tg,hlong⟩:=T.long
 r⟨_,aN (aC (PW.pt (em (ap cX (al dS (by rfl) T.len zT (aa (pv 0) ae)) ag (ax _)) (cM (ap fJ (al dS (by rfl) T.len zT (aa (pv 0) ae)) (bf (v:=.int 8) rfl hlong ⟨_,rfl⟩) (ax _))))) (ah (aq cx)) ao)
   (ah (aq (al (vK rfl) (by rfl) T.all (by d) (aa (fE (N':=["sign"]) (pk:=[none]) rfl (bZ.of (by rfl)) (uK (pv 0)) (fun s H ex=>aw (i:=0) (by show(["sign"]:List Str).Nodup;decide) rfl (Or.inl rfl)) (fun s H ex=>jB tH (pv 0) (bf (v:=.str bp) rfl hlett ⟨_,rfl⟩) (by with_unfolding_all rfl))) ae)))),?_⟩
 try dsimp only[aE,aO]
 h hsz:=aM;w
 h main:1≤z.length→z.length≤8→∀ (D:Addr),H D=none→n6 (Itw z.cps.size fun i v=>∃ c,z.cps[i]?=some c∧v=V.str ⟨#[c]⟩) (bG 0)
       (tOp (fun x y H Q=>∃ i,x=V.str i∧∃ x,y=V.str x∧Q (V.bl !(Builtin.Str.occurrences x i 0 x.length 1).isEmpty) H) (kY 0) (tC (V.str bp)))
       D (fun H'=>∃ x,SqL K H' D (List.map V.bl x)∧Q (V.bl (x.all id)) H') [none] (upd H D (HO.lst [])):=fun h1 h8 D hD=>by
   h hsize:z.cps.size=z.length:=rfl;r cF ja (by m) hD (fun σ=>∃ o,σ=[o]) (fun i=>.bl (inL (z.cps.getD i 0))) ⟨none,rfl⟩ ?_ ?_
   . rintro i x σ' H' hi ⟨c,hc,rfl⟩ ⟨o,rfl⟩ hS R hR;w
     h e:inL (z.cps.getD i 0)=!(Builtin.Str.occurrences bp ⟨#[c]⟩ 0 bp.length 1).isEmpty:=by
       rw[Au,hc];rfl
     rw[←e];e hR _ ⟨_,rfl⟩
   . h e:(zS z.cps.size).map (fun i=>V.bl (inL (z.cps.getD i 0)))=(z.cps.toList.map inL).map V.bl:=by
       rw[Ao];r cE _ z.cps.toList _ _ (by simp) fun i x hx=>?_
       h hx':z.cps[i]?=some x:=by simpa using hx
       rw[Au,hx'];rfl
     rw[e];r⟨z.cps.toList.map inL,SqL.of ac,?_⟩
     h e2:(z.cps.toList.map inL).all id=bc z:=by
       unfold bc;rw[Cv,decide_eq_true h1,decide_eq_true h8];rfl
     rw[e2];e q _ (af.updN hD)
 h f0:¬(1≤z.length∧z.length≤8)→bc z=false:=fun h=>by
   unfold bc;by_cases h1:1≤z.length
   . rw[decide_eq_false (p:=z.length≤8) (fun h8=>h ⟨h1,h8⟩)];simp
   . rw[decide_eq_false h1];simp
 r⟨by m,az (fun h1=>?_) (fun h1=>⟨by m,az (fun h2=>?_) (fun h2=>main (by m) (by m))⟩)⟩
 . rw[←f0 (by m)];e q H (af.refl H)
 . rw[←f0 (by m)];e q H (af.refl H)
noncomputable def dst (cell bound mixed:Int):Nat→Int×Int×List Int
 | 0=>(cell,(cell % 2147483647*48271+11) % 2147483647,[])
 | i+1=>((dst cell bound mixed i).1 / bound,((dst cell bound mixed i).2.1*69621+40014+i) % 2147483647,
     (dst cell bound mixed i).2.2++[if mixed=0 then(dst cell bound mixed i).1 % bound else((dst cell bound mixed i).2.1*69621+40014+i) % 2147483647 / 8 % bound])
noncomputable def gD (cell bound mixed:Int) (n:Nat):List Int:=(dst cell bound mixed n).2.2
þ eZ (cell bound mixed:Int):∀ n,(gD cell bound mixed n).length=n
 | 0=>rfl
 | n+1=>by
   h ih:=eZ cell bound mixed n;unfold gD at ih ⊢;show((dst cell bound mixed n).2.2++_).length=n+1;rw[zL,ih];rfl
þ iI {cell bound mixed:Int}(hb:0 < bound):∀ n,∀ x∈gD cell bound mixed n,0≤x∧x < bound
 | 0,x,h=>by cases h
 | n+1,x,h=>by
   h h':x∈(dst cell bound mixed n).2.2++[if mixed=0 then(dst cell bound mixed n).1 % bound else((dst cell bound mixed n).2.1*69621+40014+n) % 2147483647 / 8 % bound]:=h
   rcases List.mem_append.mp h' with q | q
   . e iI hb n x q
   . rw[List.mem_singleton.mp q]
     split
     . e⟨AL _ (by m),AG _ hb⟩
     . e⟨AL _ (by m),AG _ hb⟩
noncomputable def jA:Sp:=fun vs H Q _=>∃ cell many bound mixed:Int,vs=[.int cell,.int many,.int bound,.int mixed]∧0≤many∧many≤1000∧0 < bound∧bound < 2 ^ 62∧(mixed=0∨mixed=1) ∧
 ∀ l H',H l=none→af H H'→H' l=some (.lst ((gD cell bound mixed many.toNat).map V.int))→Q (.ref l) H'
þ fj:ay ["_law_cell", "_law_many", "_law_bound", "_law_mixed", "_law_drawn", "_law_rest", "_law_spun", "_law_k"] ["_law_cell", "_law_many", "_law_bound", "_law_mixed"] (ar qG):=®
þ vO {f:Addr}{fd:FuncData}(F:Fun K "_law_draws" "_law_draws" qG f fd)(T:Txt mg):aW P w K mg base CX0 1 f fd ["_law_cell", "_law_many", "_law_bound", "_law_mixed"] jA:=by
 fo fj;o⟨cell,many,bound,mixed,rfl,hm0,hm1,hb0,hb1,hmix,q⟩:=h
 r⟨_,aN (aL (i:=4) fj.nd rfl (Or.inl rfl) (bq ae))
   (aN (aL (i:=5) fj.nd rfl (Or.inl rfl) (pv 0))
   (aN (aL (i:=6) fj.nd rfl (Or.inl rfl) (aI br (aI cp (aI fN (aI br (pv 0) ag) ag) ag) ag))
   (aN (bC PassesOwn.never rfl (ck rfl T.range (aa (pv 1) ae)) (aw (i:=7) fj.nd rfl (Or.inl rfl))
     (aN (aL (i:=6) fj.nd rfl (Or.inl rfl) (aI br (aI cp (aI cp (aI fN (pv 6) ag) ag) (pv 7)) ag))
     (aN (aR (eK Ak Aw Ax bT (pv 4) (aa (am ak (bq (aa (aI br (pv 5) (pv 2)) (aa (aI br (aI eR (pv 6) ag) (pv 2)) ae))) (pv 3) ¿) ae)))
     (ah (aL (i:=5) fj.nd rfl (Or.inl rfl) (aI eR (pv 5) (pv 2)))))))
   (ah (aq (pv 4)))))),?_⟩
 try dsimp only[aE,aO]
 h hs:=aM;w;r⟨by m,fun l hl=>⟨by m,.inr ⟨by m,by m⟩,by m,by m,by m,?_⟩⟩
 r bj (H0:=H) bv (fun i σ H'=>∃ o,σ=[some (V.int cell),some (V.int many),some (V.int bound),some (V.int mixed),some (V.ref l),some (V.int (dst cell bound mixed i).1),some (V.int (dst cell bound mixed i).2.1),o]∧af H H'∧H' l=some (.lst ((gD cell bound mixed i).map V.int)))
   ⟨none,rfl,af.updN hl,ac⟩ (fun _ _ _ _ ⟨_,_,h,_⟩=>h) ?_ ?_
 . rintro i x σ H' hi rfl ⟨o,rfl,hS,hH⟩;w;h ne:∀ p,H' p=none→l≠p:=fun p hp=>aF hH hp;r⟨.inr ⟨by m,by m⟩,by m,.inl ⟨rfl,_,SqL.of hH⟩,hb0,by m,by m,hb0,by m,fun p hp=>?_⟩
   h hz:(0:Int)+(i:Int)=i:=by m
   rw[hz];r⟨_,SqL.of ac,(V.int (if mixed=0 then(dst cell bound mixed i).1 % bound else((dst cell bound mixed i).2.1*69621+40014+i) % 2147483647 / 8 % bound)),?_,_,by rw[ai (ne p hp)];e hH,?_,hb0,by m,rfl,rfl,?_,?_⟩
   . rcases hmix with rfl | rfl
     . rfl
     . rfl
   . rw[be,eZ];m
   . e(hS.step (hS.free hp)).step hl
   . rw[ac];unfold gD;rw[show(dst cell bound mixed (i+1)).2.2=(dst cell bound mixed i).2.2++[if mixed=0 then(dst cell bound mixed i).1 % bound else((dst cell bound mixed i).2.1*69621+40014+i) % 2147483647 / 8 % bound] from rfl,zQ];rfl
 . rintro σ H' ⟨o,rfl,hS,hH⟩;w;e q l H' hl hS hH
noncomputable def dj (c:Nat):Prop:=97≤c∧c≤122
þ va:bp.cps.toList=(zS 26).map (fun i=>97+i):=by d
þ wo {j:Nat}(h:j < 26):bp.cps.toList[j]?=some (97+j):=by rw[va,zK,BW h];rfl
þ vM {i:Int}(h0:0≤i)(h1:i < 26):atI bp.cps.toList i=some (97+i.toNat):=by
 o⟨j,rfl⟩:=A3 h0;e bU (wo (by m))
þ wA {c:Nat}(h:dj c):inL c=true:=by
 h key:∀ i:_root_.Fin 26,inL (97+i.val)=true:=by d
 have:=key ⟨c - 97,by unfold dj at h;m⟩
 h e:97+(c - 97)=c:=by unfold dj at h;m
 rw[show(97+(⟨c - 97,by unfold dj at h;m⟩:_root_.Fin 26).val)=c from e] at this;e this
þ um {c:Nat}(h:dj c):Txt.find bp ⟨#[c]⟩=((c - 97:Nat):Int):=by
 h key:∀ i:_root_.Fin 26,Txt.find bp ⟨#[97+i.val]⟩=(i.val:Int):=by d
 have:=key ⟨c - 97,by unfold dj at h;m⟩
 h e:97+(c - 97)=c:=by unfold dj at h;m
 rw[show(97+(⟨c - 97,by unfold dj at h;m⟩:_root_.Fin 26).val)=c from e] at this;e this
structure Nm (z:Str):Prop where
 lo:1≤z.length
 hi:z.length≤8
 all:∀ c∈z.cps.toList,dj c
þ Nm.good {z:Str}(h:Nm z):bc z=true:=by
 unfold bc;rw[decide_eq_true h.lo,decide_eq_true h.hi,Bool.true_and,Bool.true_and];e List.all_eq_true.mpr fun c hc=>wA (h.all c hc)
þ Nm.of_list {z:Str}{l:List Nat}(e:z.cps.toList=l)(h1:1≤l.length)(h8:l.length≤8)(ha:∀ c∈l,dj c):Nm z:=by
 h hl:z.length=l.length:=by rw[←e];e Array.length_toList.symm
 e⟨by m,by m,by rw[e];e ha⟩
þ kx (a y:Str):(a++y).cps.toList=a.cps.toList++y.cps.toList:=by
 rw[Str.cps_append,Array.toList_append]
þ wD (a y:Str):(a++y).length=a.length+y.length:=PySem.Str.length_append a y
þ eY (z:Str):z.length=z.cps.toList.length:=Array.length_toList.symm
þ pI:¶"".cps.toList=[]:=by d
þ jF (l:List Nat):∀ n,n≤l.length→(zS n).filterMap (fun i=>l[i]?)=l.take n
 | 0,_=>by simp
 | n+1,h=>by
   rw[Bb,List.filterMap_append,jF l n (by m),Bs,zJ (by m)];simp[zJ (show n < l.length by m)]
þ u7 (n:Nat)(h:1≤n):Builtin.Str.strSliceIndices none (some (-1)) 1 n=zS (n - 1):=by
 rw[StrLaws.sliceIdx_neg_hi none n (by decide) (by m)]
 h e:(-1:Int)+(n:Int)=((n - 1:Nat):Int):=by m
 rw[e];h h0:=StrLaws.strSliceIndices_plain (a:=0) (b:=n - 1) (len:=n) (by m) (by m)
 h e0:Builtin.Str.strSliceIndices none (some ((n - 1:Nat):Int)) 1 n=Builtin.Str.strSliceIndices (some ((0:Nat):Int)) (some ((n - 1:Nat):Int)) 1 n:=by
   h m0:max (0:Int) (min (0:Int) (n:Int))=0:=by m
   simp[Builtin.Str.strSliceIndices,m0]
 rw[e0,h0];simp
þ pO (z:Str)(h:1≤z.length):(Txt.slice z none (some (-1))).cps.toList=z.cps.toList.dropLast:=by
 unfold Txt.slice;rw[u7 _ h,AW]
 h hne:¬((1:Int)==1&&(z.length - 1)==z.length)=true:=by
   rw[Bool.and_eq_true];intro hh;have:=of_decide_eq_true hh.2;m
 rw[if_neg hne];show(List.filterMap (fun i=>z.cps[i]?) (zS (z.length - 1))).toArray.toList=_
 h e:(fun i:Nat=>z.cps[i]?)=fun i=>z.cps.toList[i]?:=by funext i;simp
 rw[e,jF _ _ (by rw[Ap];e Nat.sub_le _ _),BM,←eY]
noncomputable def mkN (p:List Nat) (k:Nat):Str:=⟨(p++[97+k % 26]).toArray⟩
þ ef (p:List Nat) (k:Nat):(mkN p k).cps.toList=p++[97+k % 26]:=by simp[mkN]
þ rf (p:List Nat) (k:Nat):(mkN p k).length=p.length+1:=by rw[eY,ef];simp
þ wg {p:List Nat}{j k:Nat}(h:mkN p j=mkN p k):j % 26=k % 26:=by
 have:=congrArg (fun z:Str=>z.cps.toList) h;simp only[ef] at this;have:=List.append_cancel_left this;simp at this;e this
þ rJ {a b:Str}(h:a.cps.toList=b.cps.toList):a=b:=by
 h e2:a.cps=b.cps:=Array.toList_inj.mp h;cases a;cases b;simp only at e2;rw[e2]
þ Nm.toMk {z:Str}(h:Nm z):∃ p k,z=mkN p k∧p.length≤7∧∀ c∈p,dj c:=by
 h hne:z.cps.toList≠[]:=by
   intro e;have:=h.lo;rw[eY,e] at this;simp at this
 h hl:=h.all _ (List.getLast_mem hne);r⟨z.cps.toList.dropLast,z.cps.toList.getLast hne - 97,rJ ?_,?_,fun c hc=>h.all c (List.dropLast_subset _ hc)⟩
 . rw[ef]
   h e:97+(z.cps.toList.getLast hne - 97) % 26=z.cps.toList.getLast hne:=by unfold dj at hl;m
   rw[e];e(Ac hne).symm
 . have:=h.hi;rw[eY] at this;rw[AI];m
þ Nm.of_mk {p:List Nat}{k:Nat}(hp:p.length≤7)(ha:∀ c∈p,dj c):Nm (mkN p k):=by
 r Nm.of_list (ef p k) (by simp) (by simp;m) fun c hc=>?_
 rcases List.mem_append.mp hc with hc | hc
 . e ha c hc
 . rw[List.mem_singleton.mp hc];unfold dj;m
þ uU:∀ {l m:List Str},l.Nodup→(∀ x∈l,x∈m)→l.length≤m.length
 | [],m,_,_=>AA _
 | a::l,m,hn,hs=>by
   o⟨h1,h2⟩:=List.nodup_cons.mp hn;h ham:a∈m:=hs a zV;have:=uU (l:=l) (m:=m.erase a) h2 fun x hx=>(BP (fun e=>h1 (by rw[←e];e hx))).mpr (hs x (zX _ hx));rw[BA ham] at this;h hpos:=BI ham;rw[Av];m
þ nI (p:List Nat) (k:Nat)(ws:List Str)(h:ws.length≤25):∃ t,t≤25∧mkN p (k+t)∉ws:=by
 r Classical.byContradiction fun hno=>?_;h hall:∀ t,t≤25→mkN p (k+t)∈ws:=fun t ht=>Classical.byContradiction fun hn=>hno ⟨t,ht,hn⟩
 h hnd:((zS 26).map fun t=>mkN p (k+t)).Nodup:=by
   r List.pairwise_map.mpr ?_;r List.Pairwise.imp_of_mem ?_ List.nodup_range;intro a b ha hb hab e;have:=wg e;have:=List.mem_range.mp ha;have:=List.mem_range.mp hb;m
 have:=uU hnd fun x hx=>by
   o⟨t,ht,rfl⟩:=List.mem_map.mp hx;e hall t (by have:=List.mem_range.mp ht;m)
 rw[be,AW] at this;m
þ da (x:Str):∀ ws:List Str,inV (.str x) (ws.map V.str)=decide (x∈ws)
 | []=>rfl
 | y::r=>by
   h ih:=da x r;unfold inV at ih ⊢;rw[z8,Bg,ih];show((y==x)||decide (x∈r))=decide (x∈y::r);rw[Bool.eq_iff_iff];simp only[Bool.or_eq_true,beq_iff_eq,decide_eq_true_eq,Az];constructor
   . rintro(h | h)
     . e .inl h.symm
     . e .inr h
   . rintro(h | h)
     . e .inl h.symm
     . e .inr h
þ cR (ws:List Str):(ws.map V.str).all dN=true:=by
 rw[Cv];e List.all_eq_true.mpr fun _ _=>rfl
structure NmL (ws:List Str) (n:Nat):Prop where
 len:ws.length=n
 nd:ws.Nodup
 nm:∀ x∈ws,Nm x
noncomputable def jP (H:Hp)(p:Addr)(b:Str×List Str):Prop:=∃ o,H p=some (.tup [.str b.1,.ref o])∧H o=some (.lst (b.2.map V.str))
noncomputable def iq (H:Hp)(lb:Addr)(bs:List (Str×List Str)):Prop:=∃ ps:List Addr,H lb=some (.lst (ps.map V.ref))∧ps.length=bs.length∧∀ (i:Nat) p b,ps[i]?=some p→bs[i]?=some b→jP H p b
þ af.bthAt {H H':Hp}{p:Addr}{b:Str×List Str}(S:af H H')(h:jP H p b):jP H' p b:=by
 o⟨o,h1,h2⟩:=h;e⟨o,S _ _ h1,S _ _ h2⟩
þ af.bths {H H':Hp}{lb:Addr}{bs:List (Str×List Str)}(S:af H H')(h:iq H lb bs):iq H' lb bs:=by
 o⟨ps,h1,h2,h3⟩:=h;e⟨ps,S _ _ h1,h2,fun i p b hp hb=>af.bthAt S (h3 i p b hp hb)⟩
noncomputable def Shw (z:Str):Prop:=z.length≤1000∧∀ c∈z.cps.toList,c < 1114112
þ Nm.shw {z:Str}(h:Nm z):Shw z:=⟨by have:=h.hi;m,fun c hc=>by have:=(h.all c hc).2;m⟩
structure aP (ss:List Str)(bs:List (Str×List Str)):Prop where
 s1:1≤ss.length
 s12:ss.length≤12
 snd:ss.Nodup
 snm:∀ x∈ss,bc x=true
 snw:∀ x∈ss,Shw x
 b8:bs.length≤8
 bnd:(bs.map (·.1)).Nodup
 bnm:∀ b∈bs,bc b.1=true
 bnw:∀ b∈bs,Shw b.1
 bln:∀ b∈bs,b.2.length=ss.length
 bin:∀ b∈bs,∀ x∈b.2,x∈ss
þ wc {ws:List Str}{n:Nat}(h:n≤ws.length):iA (ws.map V.str) none (some (n:Int))=(ws.take n).map V.str:=by
 unfold iA;h e1:HT.sIx (ws.map V.str).length 0 none=0:=rfl
 h e2:HT.sIx (ws.map V.str).length (ws.map V.str).length (some (n:Int))=n:=by
   rw[be,HT.sIx_nat];m
 rw[e1,e2,List.drop_zero,Nat.sub_zero,List.map_take]
þ cc {L:List Str}{i:Nat}{x:Str}(h:L[i]?=some x):atI (L.map V.str) (i:Int)=some (V.str x):=bU (by rw[zK,h];rfl)
þ jX {ws:List Str}{n:Nat}{x:Str}(hd:ws.Nodup)(hx:ws[n]?=some x):x∉ws.take n:=fun hm=>by
 rw[←List.take_append_drop n ws] at hd;h hx2:x∈ws.drop n:=zO (i:=0) (by rw[B5];e hx);e(List.nodup_append.mp hd).2.2 x hm x hx2 rfl
noncomputable def hide (H:Hp)(p:Addr):Hp:=fun b=>if b=p then none else H b
þ af.hide {H H2:Hp}{p:Addr}(S:af H H2):af (hide H p) (DM.hide H2 p):=fun b o e=>by
 unfold DM.hide at e ⊢;by_cases h:b=p
 . rw[if_pos h] at e;cases e
 . rw[if_neg h] at e ⊢;e S b o e
þ ee {H:Hp}{p:Addr}{o:HO}:hide (upd H p o) p=hide H p:=by
 funext b;unfold hide upd;by_cases h:b=p
 . rw[if_pos h,if_pos h]
 . rw[if_neg h,if_neg h,if_neg h]
þ bM {H:Hp}{p:Addr}:af (hide H p) H:=fun b o e=>by
 unfold hide at e;by_cases h:b=p
 . rw[if_pos h] at e;cases e
 . rw[if_neg h] at e;e e
þ aY {H:Hp}{p q:Addr}(h:q≠p):hide H p q=H q:=by unfold hide;rw[if_neg h]
þ d7 {K:PySem.W.Frag}{H:Hp}{a:Addr}{x y:V}{i j:Nat}{σ:St}{Q:St→Hp→Prop}(h:H a=some (.tup [x,y]))(q:Q ((σ.set i (some x)).set j (some y)) H):kC K 2 (bQ (bG i) (bQ (bG j) iQ)) (.ref a) σ H Q :=
 ⟨a,[x,y],rfl,SqT.of h,rfl,x,[y],rfl,y,[],rfl,rfl,q⟩
þ v3 {K:PySem.W.Frag}{H:Hp}{a:Addr}{x y z u:V}{i j k l:Nat}{σ:St}{Q:St→Hp→Prop}(h:H a=some (.tup [x,y,z,u]))(q:Q ((((σ.set i (some x)).set j (some y)).set k (some z)).set l (some u)) H):kC K 4 (bQ (bG i) (bQ (bG j) (bQ (bG k) (bQ (bG l) iQ)))) (.ref a) σ H Q :=
 ⟨a,[x,y,z,u],rfl,SqT.of h,rfl,x,[y,z,u],rfl,y,[z,u],rfl,z,[u],rfl,u,[],rfl,rfl,q⟩
noncomputable def gq (ws:List Str) (x:Int):Str:=ws.getD x.toNat ⟨#[]⟩
þ pw {ws:List Str}{x:Int}(h0:0≤x)(h1:x.toNat < ws.length):atI (ws.map V.str) x=some (V.str (gq ws x)):=by
 h e:ws[x.toNat]?=some (gq ws x):=by
   unfold gq;rw[zM,zJ h1];rfl
 have:=cc e
 rwa [BX h0] at this
þ nH {ws:List Str}{x:Int}{n:Nat}(h0:0≤x)(h1:x < n)(hn:n≤ws.length):gq ws x∈ws.take n:=by
 h hl:x.toNat < ws.length:=by m
 r zO (i:=x.toNat) ?_;rw[B6,if_pos (by m)];unfold gq;rw[zM,zJ hl];rfl
noncomputable def mZ:Sp:=fun vs H Q _=>∃ cell many wide mixed:Int,vs=[.int cell,.int many,.int wide,.int mixed]∧0≤many∧many≤20∧(wide=26∨wide=2)∧(mixed=0∨mixed=1) ∧
 ∀ l (ws:List Str) H',H l=none→af H H'→H' l=some (.lst (ws.map V.str))→(ws.length:Int)=many→ws.Nodup→(∀ x∈ws,Nm x)→Q (.ref l) H'
þ dG:ay ["_law_cell", "_law_many", "_law_wide", "_law_mixed", "_law_letters", "_law_words_here", "_law_seed", "_law_rest", "_law_word", "_law_k"] ["_law_cell", "_law_many", "_law_wide", "_law_mixed"] (ar qx):=®
structure Cl (P:Program)(w:World)(K:PySem.W.Frag)(mg:Str→Option Value)(base:Heap)(CX:CXT) (n:Nat) (x:Str)(ps:List Str)(sp:Sp)(f:Addr)(fd:FuncData):Prop where
 g:aW P w K mg base CX n f fd ps sp
 k:A8 K (.ref f)=true
 b:eC K fd ps []
 m:mg x=§f
structure Cm (P:Program)(w:World)(K:PySem.W.Frag)(mg:Str→Option Value)(base:Heap)(CX:CXT) (n:Nat)(C:Addr) (x:Str)(ps:List Str)(sp:Sp)(f:Addr)(fd:FuncData):Prop where
 g:aW P w K mg base CX n f fd ps sp
 h:Meth K C x f
 b:eC K fd ps []
section
variable {X:Cx}{CX:CXT}{k:Nat}{x:Str}{ps:List Str}{sp:Sp}{f C:Addr}{fd:FuncData}{E:XK}{e o:Expr}{es:List Expr}{t:TA}{ta:TE}{pos p apos:Pos}
þ pC (G:Cl X.prog X.w X.K X.mg X.base CX k x ps sp f fd)(hr:dc k X.A)(hx:dA CX X E)(ha:PA X (e::es) t)(hg:Gl X x:=by rfl)(hdb:(x==("__debug__":Str))=false:=by decide)(he:starEach (e::es) X.env=(false,eval e X.env)::starEach es X.env:=by rfl)(hpl:(backTo pos (starEach es X.env)).any (·.1)=false:=by rfl):PE X (.Call (.Name x p) (e::es) [] pos) (rS sp [] E t):=wx G.g hr hg G.m G.k G.b .nil hx ha hdb he hpl
þ pM {pl:Sem Bool}(he:PE X o ta)(c:Cls X.K C)(G:Cm X.prog X.w X.K X.mg X.base CX k C x ps sp f fd)(hr:dc k X.A)(hx:dA CX X E)(ha:PA X (e::es) t)(hst:starEach (e::es) X.env=(false,eval e X.env)::starEach es X.env:=by rfl)(hpl:(backTo pos (starEach es X.env)).any (·.1)=false:=by rfl)
 (ht:eval (.Call (.Attribute o x apos) (e::es) [] pos) X.env=(do
   let ov ←eval o X.env
   standAt apos.atName
   let (f,first) ←holding [ov] (getMethod ov x pl)
   callWith pos f first (backTo pos (starEach (e::es) X.env)) (backToKw pos (keywordEach [] X.env))):=by rfl):PE X (.Call (.Attribute o x apos) (e::es) [] pos) (l7 C x sp [] E ta t):=ii he c G.h G.g hr G.b .nil hx ha hst hpl ht
þ pM0 {pl:Sem Bool}(he:PE X o ta)(c:Cls X.K C)(G:Cm X.prog X.w X.K X.mg X.base CX k C x ps sp f fd)(hr:dc k X.A)(hx:dA CX X E)
 (ht:eval (.Call (.Attribute o x apos) [] [] pos) X.env=(do
   let ov ←eval o X.env
   standAt apos.atName
   let (f,first) ←holding [ov] (getMethod ov x pl)
   callWith pos f first (backTo pos (starEach [] X.env)) (backToKw pos (keywordEach [] X.env))):=by rfl):PE X (.Call (.Attribute o x apos) [] [] pos) (l7 C x sp [] E ta tw):=vP he c G.h G.g hr G.b .nil hx ht
end
set_option hygiene false in
local macro "cu " t:term:tactic=>`(tactic| refine cY (fun σ' H'=>$t) (fun R hR=>?_) ?_)
þ t4 {f fD:Addr}{fd fdD:FuncData}(F:Fun K "_law_words" "_law_words" qx f fd)
   (T:Txt mg)
   (GD:Cl P w K mg base CX0 1 "_law_draws" ["_law_cell", "_law_many", "_law_bound", "_law_mixed"] jA fD fdD) :
   aW P w K mg base CX0 2 f fd ["_law_cell", "_law_many", "_law_wide", "_law_mixed"] mZ:=by
 fo dG;o⟨cell,many,wide,mixed,rfl,hm0,hm1,hwd,hmix,q⟩:=h;h hr1:=hr.mono (j:=1) (by m)
 r⟨_,(aj (aL (i:=4) dG.nd rfl (Or.inl rfl) aB)
   (aj (aL (i:=5) dG.nd rfl (Or.inl rfl) (bq ae))
   (aj (bC PassesOwn.never rfl (ba (pC GD hr1 aA (aa (pv 0) (aa (pv 1) (aa (aI fN ag (aI ug ag ag)) (aa (pv 3) ae)))))) (aw (i:=6) dG.nd rfl (Or.inl rfl)) (aj (aL (i:=7) dG.nd rfl (Or.inl rfl) (aI eR (pv 6) ag))
   (aj (aL (i:=8) dG.nd rfl (Or.inl rfl) aB)
   (aj (bC PassesOwn.never rfl (ck rfl T.range (aa (aI cp ag (aI br (pv 6) ag)) ae)) (aw (i:=9) dG.nd rfl (Or.inl rfl)) (aN (aL (i:=8) dG.nd rfl (Or.inl rfl) (aI fq (pv 8) (am mn (pv 4) (aI br (pv 7) (pv 2)) ¿)))
   (ah (aL (i:=7) dG.nd rfl (Or.inl rfl) (aI eR (pv 7) (pv 2))))))
   (aj (uv PassesOwn.never (ap lw (pv 8) (pv 5) (by with_unfolding_all rfl)) (ah (aL (i:=8) dG.nd rfl (Or.inl rfl) (aI fq (eJ yr (pv 8) ig (fF (eW dC ag))) (am mn (pv 4) (aI br (aI cp (eK PySem.F.plainAttrs_str PySem.F.slot_str_index PySem.F.type_str_index (vj rfl) (pv 4) (aa (am mn (pv 8) (eW dC ag) ¿) ae)) ag) ag) ¿)))))
   (ah (aR (eK Ak Aw Ax bT (pv 5) (aa (pv 8) ae)))))))))
   (ah (aq (pv 5)))))),?_⟩
 try dsimp only[aE,aO]
 h hs:=aM
 h hw0:0 < wide:=by m
 h hw26:wide≤26:=by m
 cu σ'=[£cell,£many,£wide,£mixed,¢bp,none,none,none,none,none]∧H'=H
 . w;e hR _ _ ⟨rfl,rfl⟩
 rintro σ0 H0 ⟨rfl,rfl⟩;cu ∃ p,σ'=[£cell,£many,£wide,£mixed,¢bp,§p,none,none,none,none]∧H0 p=none∧H'=upd H0 p (.lst [])
 . w;e⟨by m,fun p hp=>hR _ _ ⟨p,rfl,hp,rfl⟩⟩
 rintro σ1 H1 ⟨p,rfl,hp,rfl⟩;cu ∃ (ws:List Str)(o6 o7 o8 o9:Option V),σ'=[£cell,£many,£wide,£mixed,¢bp,§p,o6,o7,o8,o9]∧af H0 H'∧H' p=some (.lst (ws.map V.str))∧(ws.length:Int)=many∧ws.Nodup∧∀ x∈ws,Nm x
 . w;r⟨⟨by decide,by decide,by decide⟩,.inl ⟨by decide,by decide⟩,_,_,_,_,rfl,hm0,by m,by decide,by decide,hmix,fun l H1 hl S1 hH1=>?_⟩
   h hpl:p≠l:=fun e=>by rw[e,ac] at hl;cases hl
   h hHl:H0 l=none:=by rw[ai (Ne.symm hpl)] at hl;e hl
   h hL:=eZ cell (8*26 ^ Bm 8) mixed many.toNat;h hLr:=iI (cell:=cell) (bound:=8*26 ^ Bm 8) (mixed:=mixed) (by decide) many.toNat;generalize gD cell (8*26 ^ Bm 8) mixed many.toNat=L at hH1 hL hLr
   h S0:af (upd H0 l (.lst (L.map V.int))) H1:=fun b o e=>by
     by_cases hb:b=l
     . rw[hb,ac] at e;rw[hb,←e];e hH1
     . rw[ai hb] at e;e S1 b o (by rw[ai (aF e hp)];e e)
   h hp0:(upd H0 l (.lst (L.map V.int))) p=none:=by rw[ai hpl];e hp
   r⟨l,rfl,⟨_,SqL.of hH1⟩,?_⟩
   r bj (H0:=upd H0 l (.lst (L.map V.int))) (aH (SqL.of ac)) (fun i σ' H'=>∃ (ws:List Str)(o1 o2 o3 o4:Option V),σ'=[£cell,£many,£wide,£mixed,¢bp,§p,o1,o2,o3,o4] ∧
     af (upd H0 l (.lst (L.map V.int))) H'∧H' p=some (.lst (ws.map V.str))∧ws.length=i∧ws.Nodup∧∀ x∈ws,Nm x)
     ⟨[],none,none,none,none,rfl,S0,S1 _ _ ac,rfl,Cr,fun x hx=>by cases hx⟩ (fun _ _ _ _ ⟨_,_,_,_,_,_,h,_⟩=>h) ?_ ?_
   . rintro i x σ H' hi hx ⟨ws,o1,o2,o3,o4,rfl,hS,hH,hwl,hnd,hnm⟩;rw[zK] at hx;o⟨y,hy,rfl⟩:=Option.map_eq_some_iff.mp hx;rw[be] at hi;h hyr:=hLr y (zO hy);r cY (fun σ' H''=>σ'=[£cell,£many,£wide,£mixed,¢bp,§p,£y,some (.int (y / 8)),o3,o4]∧H''=H') (fun R hR=>?_) ?_
     . w;e⟨by decide,by decide,hR _ _ ⟨rfl,rfl⟩⟩
     rintro σ2 H2 ⟨rfl,rfl⟩;r cY (fun σ' H''=>σ'=[£cell,£many,£wide,£mixed,¢bp,§p,£y,some (.int (y / 8)),some (.str ""),o4]∧H''=H2) (fun R hR=>?_) ?_
     . w;e hR _ _ ⟨rfl,rfl⟩
     rintro σ3 H3 ⟨rfl,rfl⟩;r cY (fun σ' H''=>∃ z o7 o9,Nm z∧σ'=[£cell,£many,£wide,£mixed,¢bp,§p,£y,o7,¢z,o9]∧H''=H3) (fun R hR=>?_) ?_
     . w;r⟨by decide,by m,by m,?_⟩
       r bo (H0:=H3) bv (fun i σ' H''=>∃ (rr:Int)(l:List Nat) (z:Str)(o9:Option V),σ'=[£cell,£many,£wide,£mixed,¢bp,§p,£y,£rr,¢z,o9]∧H''=H3∧z.cps.toList=l∧l.length=i∧∀ c∈l,dj c)
         ⟨_,[],_,_,rfl,rfl,pI,rfl,fun c hc=>by cases hc⟩ (fun _ _ _ _ ⟨_,_,_,_,_,h,_⟩=>by rw[h];e af.refl _) ?_ ?_
       . rintro i x σ H'' hi rfl ⟨rr,l2,z,o9,rfl,rfl,hzl,hll,hlt⟩ R2 hR2
         h hi8:i < 8:=by m
         h hm0:=AL rr (show wide≠0 by m);h hm1:=AG rr hw0;w
         h hzlen:z.length=i:=by rw[eY,hzl];e hll
         r⟨hw0,by d,_,vM hm0 (by m),by rw[hzlen];show i+1≤sizeLine;m,hw0,by m,hR2 _ _ ⟨_,l2++[97+(rr % wide).toNat],_,_,rfl,rfl,?_,by rw[zL,hll];rfl,fun c hc=>?_⟩⟩
         . rw[kx,hzl]
         . rcases List.mem_append.mp hc with hc | hc
           . e hlt c hc
           . rw[List.mem_singleton.mp hc];unfold dj;m
       . rintro σ H'' ⟨rr,l2,z,o9,rfl,rfl,hzl,hll,hlt⟩;e hR _ _ ⟨z,_,_,Nm.of_list hzl (by m) (by m) hlt,rfl,rfl⟩
     rintro σ4 H4 ⟨z,o7,o9,hz,rfl,rfl⟩;r cY (fun σ' H''=>∃ z' o7' o9',Nm z'∧z'∉ws∧σ'=[£cell,£many,£wide,£mixed,¢bp,§p,£y,o7',¢z',o9']∧H''=H4) (fun R hR=>?_) ?_
     . o⟨pp,k0,rfl,hp7,hpa⟩:=hz.toMk;o⟨t0,ht0,hfree⟩:=nI pp k0 ws (by m);r⟨fun m σ' H'=>∃ k t,t≤m∧mkN pp (k+t)∉ws∧σ'=[£cell,£many,£wide,£mixed,¢bp,§p,£y,o7,some (.str (mkN pp k)),o9]∧H'=H4,⟨25,k0,t0,ht0,hfree,rfl,rfl⟩,?_⟩;rintro m σ' H' ⟨k,t,htm,hfr,rfl,rfl⟩;w;r⟨_,.inl (SqL.of hH),rfl,cR ws,?_⟩;rw[da];r az (fun hin=>?_) (fun hin=>?_)
       . h hin':mkN pp k∈ws:=of_decide_eq_true hin;h ht:t≠0:=fun e=>hfr (by rw[e];e hin')
         h hlen8:(mkN pp k).length≤8:=by rw[rf];m
         h hlet:dj (97+k % 26):=by unfold dj;m
         h hf:=um hlet
         h hn1:97+k % 26 - 97=k % 26:=by m
         rw[hn1] at hf
         h hsl:(Txt.slice (mkN pp k) none (some (-1))).cps.toList=pp:=by rw[pO _ (by rw[rf];m),ef,List.dropLast_concat]
         h hsll:(Txt.slice (mkN pp k) none (some (-1))).length=pp.length:=by rw[eY,hsl]
         h e1:(((k % 26:Nat):Int)+1) % 26=(((k+1) % 26:Nat):Int):=by m
         h hnew:Txt.slice (mkN pp k) none (some (-1))++(⟨#[97+(((k+1) % 26:Nat):Int).toNat]⟩:Str)=mkN pp (k+1):=by
           r rJ ?_;rw[kx,hsl,ef,An]
         r⟨fun σ' H''=>σ'=[£cell,£many,£wide,£mixed,¢bp,§p,£y,o7,some (.str (mkN pp (k+1))),o9]∧H''=H',?_,by m,rfl,by m,_,by rw[ef];e eM _ _,by rw[hf];m,by decide,by d,_,by rw[hf,e1];e vM (by m) (by m),?_,?_⟩
         . rintro σ' H'' ⟨rfl,rfl⟩;r⟨m - 1,by m,k+1,t - 1,by m,?_,rfl,rfl⟩;rw[show k+1+(t - 1)=k+t by m];e hfr
         . rw[hsll];show pp.length+1≤sizeLine;m
         . rw[hnew];e⟨rfl,rfl⟩
       . h hin':mkN pp k∉ws:=of_decide_eq_false (by simpa using hin);e hR _ _ ⟨mkN pp k,o7,o9,Nm.of_mk hp7 hpa,hin',rfl,rfl⟩
     rintro σ5 H5 ⟨z',o7',o9',hz',hnin,rfl,rfl⟩;w;h hnd':(ws++[z']).Nodup:=gR hnd hnin;r⟨.inl ⟨rfl,_,SqL.of hH⟩,_,hH,by rw[be];m,(fun b o e=>by rw[ai (aF e hp0)];e hS b o e),ws++[z'],?_,?_,hnd',?_⟩
     . rw[ac,zQ];rfl
     . rw[zL,hwl];rfl
     . intro x hx
       rcases List.mem_append.mp hx with hx | hx
       . e hnm x hx
       . rw[List.mem_singleton.mp hx];e hz'
   . rintro σ H' ⟨ws,o1,o2,o3,o4,rfl,hS,hH,hwl,hnd,hnm⟩;r hR _ _ ⟨ws,o1,o2,o3,o4,rfl,fun b o e=>hS b o (by rw[ai (aF e hHl)];e e),hH,?_,hnd,hnm⟩;rw[hwl,be];m
 rintro σ2 H2 ⟨ws,o6,o7,o8,o9,rfl,S2,hH2,hwl,hnd,hnm⟩;w;e q p ws H2 hp S2 hH2 hwl hnd hnm
noncomputable def rj (K:PySem.W.Frag):Sp:=fun vs H Q _=>∃ (a:Addr)(ns:List Int) (c:Nat),vs=[.ref a,.int c]∧SqL K H a (ns.map V.int)∧c≤8 ∧
 ∀ p l lb (ss:List Str)(bs:List (Str×List Str)) (spare other:Str) H',af H H'→H' p=some (.tup [.ref l,.ref lb,.str spare,.str other])→H l=none→H' l=some (.lst (ss.map V.str))→H lb=none→iq H' lb bs→aP ss bs→bs.length=c→Nm spare→spare∉ss→Nm other→other∉bs.map (·.1)→Q (.ref p) H'
þ dX:ay ["_law_script", "_law_count", "_law_many", "_law_mixed", "_law_wide", "_law_shades", "_law_titles", "_law_baths", "_law_k", "_law_outs"] ["_law_script", "_law_count"] (ar pU):=®
þ vN {f fD fA fW:Addr}{fd fdD fdA fdW:FuncData}(F:Fun K "_law_plain" "_law_plain" pU f fd)
   (T:Txt mg)
   (GD:Cl P w K mg base CX0 1 "_law_draws" ["_law_cell", "_law_many", "_law_bound", "_law_mixed"] jA fD fdD)
   (GA:Cl P w K mg base CX0 1 "_law_at" ["_law_script", "_law_k"] (sM K) fA fdA)
   (GW:Cl P w K mg base CX0 2 "_law_words" ["_law_cell", "_law_many", "_law_wide", "_law_mixed"] mZ fW fdW) :
   aW P w K mg base CX0 4 f fd ["_law_script", "_law_count"] (rj K):=by
 fo dX;o⟨a,ns,c,rfl,ha,hc8,q⟩:=h;h hr1:=hr.mono (j:=1) (by m);h hr2:=hr.mono (j:=2) (by m)
 r⟨_,(aj (aL (i:=2) dX.nd rfl (Or.inl rfl) (aI cp ag (aI br (pC GA hr1 aA (aa (pv 0) (aa ag ae))) ag)))
   (aj (aL (i:=3) dX.nd rfl (Or.inl rfl) (aI br (pC GA hr1 aA (aa (pv 0) (aa ag ae))) ag))
   (aj (aL (i:=4) dX.nd rfl (Or.inl rfl) (am ak (bq (aa ag (aa ag ae))) (aI br (aI eR (pC GA hr1 aA (aa (pv 0) (aa ag ae))) ag) ag) ¿))
   (aj (aL (i:=5) dX.nd rfl (Or.inr rfl) (pC GW hr2 aA (aa (pC GA hr1 aA (aa (pv 0) (aa ag ae))) (aa (aI cp (pv 2) ag) (aa (pv 4) (aa (pv 3) ae))))))
   (aj (aL (i:=6) dX.nd rfl (Or.inl rfl) (pC GW hr2 aA (aa (pC GA hr1 aA (aa (pv 0) (aa ag ae))) (aa (aI cp (pv 1) ag) (aa (pv 4) (aa (pv 3) ae))))))
   (aj (aL (i:=7) dX.nd rfl (Or.inl rfl) (bq ae))
   (aj (bC PassesOwn.never rfl (ck rfl T.range (aa (pv 1) ae)) (aw (i:=8) dX.nd rfl (Or.inl rfl)) (aj (aL (i:=9) dX.nd rfl (Or.inl rfl) (pC GD hr1 aA (aa (aI cp (pC GA hr1 aA (aa (pv 0) (aa (aI cp ag (pv 8)) ae))) (aI fN (aI fN ag (pv 8)) (pv 3))) (aa (pv 2) (aa (pv 2) (aa (pv 3) ae))))))
   (ah (aR (eK Ak Aw Ax bT (pv 7) (aa (bS (aa (am ak (pv 6) (pv 8) ¿) (aa (fE (N':=["_law_j", "_law_shades"]) (pk:=[none,some 5]) rfl (bZ.of (by rfl)) (ba (pv 9)) (fun s H ex=>(aw (i:=0) (by show(["_law_j", "_law_shades"]:List Str).Nodup;d) rfl (Or.inl rfl))) (fun s H ex=>(am (ak:IxR _ (gP K)) (pv 1) (pv 0) ¿))) ae))) ae))))))
   (ah (aq (bS (aa (eJ il (pv 5) ig (fF (pv 2))) (aa (pv 7) (aa (am ak (pv 5) (pv 2) ¿) (aa (am ak (pv 6) (pv 1) ¿) ae)))))))))))))),?_⟩
 try dsimp only[aE,aO]
 h hs:=aM;cu ∃ n:Nat,1≤n∧n≤12∧σ'=[§a,£c,£n,none,none,none,none,none,none,none]∧H'=H
 . w;e dB ha (by decide) ⟨_,rfl,by decide,hR _ _ ⟨(1+atL ns 0 % 12).toNat,by m,by m,by rw[BX (by m)],rfl⟩⟩
 rintro σ1 H1 ⟨n,hn1,hn,rfl,rfl⟩;cu ∃ mixed:Int,(mixed=0∨mixed=1)∧σ'=[§a,£c,£n,£mixed,none,none,none,none,none,none]∧H'=H1
 . w;e dB ha (by decide) ⟨_,rfl,by decide,hR _ _ ⟨_,by m,rfl,rfl⟩⟩
 rintro σ2 H2 ⟨mixed,hmix,rfl,rfl⟩;cu ∃ wd:Int,(wd=26∨wd=2)∧σ'=[§a,£c,£n,£mixed,£wd,none,none,none,none,none]∧af H2 H'
 . w;r⟨by m,fun p hp=>dB ((af.updN hp).seq ha) (by decide) ⟨_,rfl,by decide,by decide,by decide,_,SqL.of ac,?_⟩⟩;o⟨y,hy,e⟩:=im [26,2] (x:=atL ns 3 / 2 % 2) (by m) (by show _ < (2:Int);m);e⟨_,e,hR _ _ ⟨y,by simpa using hy,rfl,af.updN hp⟩⟩
 rintro σ3 H3 ⟨wd,hwd,rfl,S3⟩;cu ∃ l1 ws,σ'=[§a,£c,£n,£mixed,£wd,§l1,none,none,none,none]∧af H2 H'∧H' l1=some (.lst (ws.map V.str))∧NmL ws (n+1)
 . w;e dB (S3.seq ha) (by decide) ⟨_,_,_,_,rfl,by m,by m,hwd,hmix,fun l ws H' hl S' hH hlen hnd hnm=>hR _ _ ⟨l,ws,rfl,S3.trans S',hH,⟨by m,hnd,hnm⟩⟩⟩
 rintro σ4 H4 ⟨l1,ws,rfl,S4,hH1,hws⟩;cu ∃ l2 ts,σ'=[§a,£c,£n,£mixed,£wd,§l1,§l2,none,none,none]∧af H4 H'∧H' l2=some (.lst (ts.map V.str))∧NmL ts (c+1)
 . w;e dB (S4.seq ha) (by decide) ⟨_,_,_,_,rfl,by m,by m,hwd,hmix,fun l ts H' hl S' hH hlen hnd hnm=>hR _ _ ⟨l,ts,rfl,S',hH,⟨by m,hnd,hnm⟩⟩⟩
 rintro σ5 H5 ⟨l2,ts,rfl,S5,hH2,hts⟩;h hH1:=S5 _ _ hH1;h S5:=S4.trans S5;cu ∃ p,σ'=[§a,£c,£n,£mixed,£wd,§l1,§l2,§p,none,none]∧H5 p=none∧H'=upd H5 p (.lst [])
 . w;e⟨by m,fun p hp=>hR _ _ ⟨p,rfl,hp,rfl⟩⟩
 rintro σ6 H6 ⟨p,rfl,hp,rfl⟩
 r cY (fun σ' H'=>∃ (ps:List Addr)(bs:List (Str×List Str))(o8 o9:Option V),σ'=[§a,£c,£n,£mixed,£wd,§l1,§l2,§p,o8,o9]∧af H5 H'∧H' p=some (.lst (ps.map V.ref)) ∧
   ps.length=c∧bs.length=c∧(∀ (j:Nat) r b,ps[j]?=some r→bs[j]?=some b→jP (hide H' p) r b)∧bs.map (·.1)=ts.take c∧∀ b∈bs,b.2.length=n∧∀ x∈b.2,x∈ws.take n) (fun R hR=>?_) ?_
 . w;r⟨by m,by m,?_⟩;rw[An]
   r bo (H0:=H5) bv (fun i σ' H'=>∃ (ps:List Addr)(bs:List (Str×List Str))(o8 o9:Option V),σ'=[§a,£c,£n,£mixed,£wd,§l1,§l2,§p,o8,o9]∧af H5 H'∧H' p=some (.lst (ps.map V.ref)) ∧
     ps.length=i∧bs.length=i∧(∀ (j:Nat) r b,ps[j]?=some r→bs[j]?=some b→jP (hide H' p) r b)∧bs.map (·.1)=ts.take i∧∀ b∈bs,b.2.length=n∧∀ x∈b.2,x∈ws.take n)
     ⟨[],[],none,none,rfl,af.updN hp,ac,rfl,rfl,(by intro j r b h;simp at h),rfl,(by intro b h;cases h)⟩ (fun _ _ _ _ ⟨_,_,_,_,_,h,_⟩=>h) ?_ ?_
   . rintro i x σ H' hi rfl ⟨ps,bs,o8,o9,rfl,hS,hH,hpl,hbl,hB,hT,hO⟩ R2 hR2
     h ei:(0:Int)+(i:Int)=i:=by m
     rw[ei]
     h hm9:(1009:Int)*i*mixed < 2 ^ 62:=by rcases hmix with e | e<;>(rw[e];m)
     r cY (fun σ' H''=>∃ (lo:Addr)(os:List Int),σ'=[§a,£c,£n,£mixed,£wd,§l1,§l2,§p,£i,§lo]∧af H' H''∧H'' lo=some (.lst (os.map V.int))∧os.length=n∧∀ y∈os,0≤y∧y < n) (fun R hR=>?_) ?_
     . w;r dB ((S5.trans hS).seq ha) (by m) ⟨.inl ⟨by m,by m⟩,.inl ⟨by m,by m⟩,_,rfl,_,_,_,_,rfl,by m,by m,by m,by m,hmix,fun lo H'' hlo S'' hH''=>hR _ _ ⟨lo,_,rfl,S'',hH'',by rw[eZ,An],fun y hy=>iI (by m) _ y hy⟩⟩
     rintro σ2 H2' ⟨lo,os,rfl,S2,hlo,hosl,hosr⟩;h hH1':H2' l1=some (.lst (ws.map V.str)):=S2 _ _ (hS _ _ hH1);h hH2':H2' l2=some (.lst (ts.map V.str)):=S2 _ _ (hS _ _ hH2);h hp2:H2' p=some (.lst (ps.map V.ref)):=S2 _ _ hH;obtain⟨tt,htt⟩:∃ tt,ts[i]?=some tt:=⟨_,zJ (by rw[hts.len];m)⟩;w;r⟨.inl ⟨rfl,_,SqL.of hp2⟩,_,SqL.of hH2',_,cc htt,⟨_,SqL.of hlo⟩,fun D hD=>?_⟩
     h hDp:D≠p:=fun e=>by rw[e,hp2] at hD;cases hD
     r cF (aH (SqL.of hlo)) (by rw[be,hosl];m) hD (fun σ=>∃ o,σ=[o,§l1]) (fun k=>V.str (gq ws (os.getD k 0))) ⟨none,rfl⟩ ?_ ?_
     . rintro k x σ' H3 hk hx ⟨o,rfl⟩ hS3 R hR;rw[zK] at hx;o⟨y,hy,rfl⟩:=Option.map_eq_some_iff.mp hx;h hyr:=hosr y (zO hy);w;r⟨_,hS3.seq (SqL.of hH1'),_,pw hyr.1 (by rw[hws.len];m),?_⟩
       h e:os.getD k 0=y:=by rw[zM,hy];rfl
       have:=hR [some (V.int y),some (V.ref l1)] ⟨_,rfl⟩;rw[e] at this;e this
     . h e:(zS (os.map V.int).length).map (fun k=>V.str (gq ws (os.getD k 0)))=(os.map (gq ws)).map V.str:=by
         rw[Ao];r cE _ os _ _ (by rw[be]) fun k x hx=>?_;rw[zM,hx];rfl
       rw[e];r⟨by m,fun t ht=>?_⟩;h ht2:H2' t=none:=(af.updN hD).free ht
       h htp:t≠p:=fun e=>by rw[e,hp2] at ht2;cases ht2
       h htD:D≠t:=fun e=>by rw[←e,ac] at ht;cases ht
       h S3:af H2' (upd (upd H2' D (.lst ((os.map (gq ws)).map V.str))) t (.tup [.str tt,.ref D])):=(af.updN hD).step ht2;r⟨_,S3 _ _ hp2,by rw[be];m,hR2 _ _ ⟨ps++[t],bs++[(tt,os.map (gq ws))],_,_,rfl,((hS.trans S2).trans S3).step hp,?_,?_,?_,?_,?_,?_⟩⟩
       . rw[ac,zQ];rfl
       . rw[zL,hpl];rfl
       . rw[zL,hbl];rfl
       . intro j r b hr hb;rw[ee];by_cases hj:j < i
         . rw[zU (by m)] at hr hb;e af.bthAt (af.hide (S2.trans S3)) (hB j r b hr hb)
         . h hj2:j=i:=by
             have:=(List.getElem?_eq_some_iff.mp hr).1;rw[zL,hpl] at this;simp only[zR] at this;m
           subst hj2;rw[zP (by m),hpl,Ay] at hr;rw[zP (by m),hbl,Ay] at hb;cases hr;cases hb;r⟨D,?_,?_⟩
           . rw[aY htp];e ac
           . rw[aY hDp,ai htD];e ac
       . rw[zQ,hT,List.take_add_one,htt];rfl
       . intro b hb
         rcases List.mem_append.mp hb with hb | hb
         . e hO b hb
         . rw[List.mem_singleton.mp hb];r⟨by rw[be];e hosl,fun x hx=>?_⟩;o⟨y,hy,rfl⟩:=List.mem_map.mp hx;e nH (hosr y hy).1 (hosr y hy).2 (by rw[hws.len];m)
   . rintro σ H' ⟨ps,bs,o8,o9,rfl,hS,hH,hpl,hbl,hB,hT,hO⟩;e hR _ _ ⟨ps,bs,o8,o9,rfl,hS,hH,hpl,hbl,hB,hT,hO⟩
 rintro σ7 H7 ⟨ps,bs,o8,o9,rfl,hS,hH,hpl,hbl,hB,hT,hO⟩;obtain⟨spare,hsp⟩:∃ x,ws[n]?=some x:=⟨_,zJ (by rw[hws.len];m)⟩;obtain⟨other,hot⟩:∃ x,ts[c]?=some x:=⟨_,zJ (by rw[hts.len];m)⟩;w;r⟨_,SqL.of (hS _ _ hH1),fun l hl=>?_⟩;rw[wc (by rw[hws.len];m)];h Sl:af H7 (upd H7 l (.lst ((ws.take n).map V.str))):=af.updN hl;r⟨_,SqL.of (Sl _ _ (hS _ _ hH1)),_,cc hsp,_,SqL.of (Sl _ _ (hS _ _ hH2)),_,cc hot,by m,fun t ht=>?_⟩;h St:=Sl.step (o:=.tup [.ref l,.ref p,.str spare,.str other]) (Sl.free ht)
 h hlt:l≠t:=fun e=>by rw[←e,ac] at ht;cases ht
 h htn:(ts.take c).Nodup:=hts.nd.sublist (Br _ _);r q t l p (ws.take n) bs spare other _ ((S5.trans hS).trans St) ac ((S5.trans hS).free hl) (by rw[ai hlt];e ac) (S5.free hp) ⟨ps,St _ _ hH,by m,fun j r b hr hb=>af.bthAt (bM.trans St) (hB j r b hr hb)⟩ ⟨?_,?_,?_,?_,?_,?_,?_,?_,?_,?_,?_⟩ hbl ?_ ?_ ?_ ?_
 . rw[Aa,hws.len];m
 . rw[Aa,hws.len];m
 . e hws.nd.sublist (Br _ _)
 . e fun x hx=>(hws.nm x (Bu hx)).good
 . e fun x hx=>(hws.nm x (Bu hx)).shw
 . m
 . rw[hT];e htn
 . intro b hb;e(hts.nm b.1 (Bu (by rw[←hT];e Aj hb))).good
 . intro b hb;e(hts.nm b.1 (Bu (by rw[←hT];e Aj hb))).shw
 . intro b hb;rw[(hO b hb).1,Aa,hws.len];m
 . e fun b hb=>(hO b hb).2
 . e hws.nm _ (zO hsp)
 . e jX hws.nd hsp
 . e hts.nm _ (zO hot)
 . rw[hT];e jX hts.nd hot
þ gi (k:Str)(ks:List Str) (v:V)(vs:List V):cb (k::ks) (v::vs)=(Sum.inr k,v)::cb ks vs:=rfl
þ dJ:∀ (ks:List Str)(vs:List V) (i:Nat) (k:Str) (v:V),ks.Nodup→ks[i]?=some k→vs[i]?=some v→bJ (cb ks vs) (Sum.inr k)=some v
 | [],_,_,_,_,_,h,_=>by simp at h
 | _::_,[],_,_,_,_,_,h=>by simp at h
 | k0::ks,v0::vs,0,k,v,hd,h1,h2=>by
   cases h1;cases h2;rw[gi];e cq rfl
 | k0::ks,v0::vs,i+1,k,v,hd,h1,h2=>by
   h h1':ks[i]?=some k:=h1;h h2':vs[i]?=some v:=h2;h hm:k∈ks:=zO h1';h hne:k0≠k:=fun e=>(List.nodup_cons.mp hd).1 (by rw[e];e hm);rw[gi,cn (fun e=>hne (Sum.inr.inj e))];e dJ ks vs i k v (List.nodup_cons.mp hd).2 h1' h2'
þ bX:∀ (ks:List Str)(vs:List V) (k:Str),k∉ks→bJ (cb ks vs) (Sum.inr k)=none
 | [],_,_,_=>rfl
 | _::_,[],_,_=>rfl
 | k0::ks,v0::vs,k,h=>by
   rw[gi,cn (fun e=>h (by rw[←Sum.inr.inj e];e zV))];e bX ks vs k (fun hm=>h (zX _ hm))
þ eN {ks:List Str}{vs:List V} (k:Str) (v:V)(h:ks.length=vs.length):cb (ks++[k]) (vs++[v])=cb ks vs++[(Sum.inr k,v)]:=by
 unfold cb;rw[zQ,List.zip_append (by rw[be];e h)];rfl
þ fP {ks:List Str}{vs:List V}(h:ks.length=vs.length):(cb ks vs).length=ks.length:=by
 unfold cb;rw[Bq,be,h];simp
þ lY {ks:List Str}{vs:List V}(h:ks.length=vs.length):(cb ks vs).map (·.1)=ks.map Sum.inr:=by
 unfold cb;rw[List.map_fst_zip (by rw[be];m)]
noncomputable def iE (ss:List Str)(b:Str×List Str):List (Key×V):=cb ss (b.2.map V.str)
noncomputable def gQ (H:Hp)(d:Addr)(ss:List Str)(bs:List (Str×List Str)):Prop :=
 ∃ ds:List Addr,Rd H d (.dK (cb (bs.map (·.1)) (ds.map V.ref)))∧ds.length=bs.length∧∀ (i:Nat) r b,ds[i]?=some r→bs[i]?=some b→Rd H r (.dK (iE ss b))
þ af.rd {H H':Hp}{a:Addr}{o:HO}(S:af H H')(h:Rd H a o):Rd H' a o:=by
 rcases h with h | ⟨u,h⟩
 . e .inl (S _ _ h)
 . e .inr ⟨u,S _ _ h⟩
þ af.tabs {H H':Hp}{d:Addr}{ss:List Str}{bs:List (Str×List Str)}(S:af H H')(h:gQ H d ss bs):gQ H' d ss bs:=by
 o⟨ds,h1,h2,h3⟩:=h;e⟨ds,af.rd S h1,h2,fun i r b hr hb=>af.rd S (h3 i r b hr hb)⟩
þ bw {α:Type}{l:List α}{i:Nat}{x:α}(h:l[i]?=some x):l.take (i+1)=l.take i++[x]:=by rw[List.take_add_one,h];rfl
þ eS {l:List Str}{i:Nat}{x:Str}(hd:l.Nodup)(h:l[i]?=some x):x∉l.take i:=jX hd h
þ gc:ay ["_law_shades", "_law_baths", "_law_tables_here", "_law_title", "_law_outs", "_law_k"] ["_law_shades", "_law_baths"] (ar mw):=®
structure ue (mg:Str→Option Value):Prop where
 mostS:∃ t,mg "MOST_SHADES"=some (.int 12 t)
 mostB:∃ t,mg "MOST_BATHS"=some (.int 8 t)
þ rz:∀ (l acc:List Str),(acc++l).Nodup→l.foldl ej acc=acc++l
 | [],acc,_=>by simp
 | x::l,acc,h=>by
   h hx:x∉acc:=fun hm=>(List.nodup_append.mp h).2.2 x hm x zV rfl
   h e:ej acc x=acc++[x]:=by unfold ej;rw[if_neg hx]
   rw[BB,e,rz l (acc++[x]) (by rw[Be];e h),Be];rfl
þ ra {l:List Str}(h:l.Nodup):dP l=l:=by unfold dP;rw[rz l [] h];rfl
þ uS {z:Str}(h:bc z=true):z.length≤8:=by
 unfold bc at h;rw[Bool.and_eq_true,Bool.and_eq_true] at h;e of_decide_eq_true h.1.2
noncomputable def jD (K:PySem.W.Frag):Sp:=fun vs H Q _=>∃ (l:Addr)(ws:List Str),vs=[.ref l]∧SqL K H l (ws.map V.str)∧ws.length≤100∧ws.Nodup∧(∀ x∈ws,bc x=true)∧∀ H',af H H'→Q .non H'
þ hV:ay ["texts", "text"] ["texts"] (ar jw):=®
þ sI {f fG:Addr}{fd fdG:FuncData}(F:Fun K "check_names" "check_names" jw f fd)(T:Txt mg)(GG:Cl P w K mg base CX0 1 "good_name" ["text"] me fG fdG) :
   aW P w K mg base CX0 2 f fd ["texts"] (jD K):=by
 fo hV;o⟨l,ws,rfl,hl,hlen,hnd,hnm,q⟩:=h
 r⟨_,aN (bC PassesOwn.never rfl (ba (pv 0)) (aw (i:=1) hV.nd rfl (Or.inl rfl))
     (ah (aC (bW (bF (pC GG hr aA (aa (pv 1) ae)))) cI ao)))
   (ah (aC (ap i6 (al lg (by rfl) T.len zT (aa (cw (oV rfl) (by rfl) T.set (by d) (aa (pv 0) ae)) ae)) (al av (by rfl) T.len zT (aa (pv 0) ae)) (ax _)) cI ao)),?_⟩
 try dsimp only[aE,aO]
 h hs:=aM;w;r⟨⟨_,hl⟩,?_⟩;r bj (H0:=H) (aH hl) (fun i σ' H'=>∃ o,σ'=[§l,o]∧af H H') ⟨none,rfl,af.refl H⟩ (fun _ _ _ _ ⟨_,_,h⟩=>h) ?_ ?_
 . rintro i x σ H' hi hx ⟨o,rfl,hS⟩;rw[zK] at hx;o⟨z,hz,rfl⟩:=Option.map_eq_some_iff.mp hx;h hzm:=hnm z (zO hz);h h8:=uS hzm;w;r⟨z,rfl,by m,fun H2 S2=>?_⟩;rw[hzm];e⟨_,rfl,hS.trans S2⟩
 . rintro σ H' ⟨o,rfl,hS⟩;w;r⟨_,hS.seq hl,by m,fun p hp=>⟨_,ac,_,.inl ((hS.step (hS.free hp)).seq hl),rfl,?_⟩⟩;rw[be,ra hnd];r az (fun h=>absurd rfl h) (fun _=>q _ (hS.step (hS.free hp)))
noncomputable def lS (K:PySem.W.Frag):Sp:=fun vs H Q _=>∃ (l:Addr)(ws:List Str),vs=[.ref l]∧SqL K H l (ws.map V.str)∧1≤ws.length∧ws.length≤12∧ws.Nodup∧(∀ x∈ws,bc x=true)∧∀ H',af H H'→Q .non H'
þ lh:ay ["shades"] ["shades"] (ar gU):=®
þ pF {f fG:Addr}{fd fdG:FuncData}(F:Fun K "check_shades" "check_shades" gU f fd)(T:Txt mg)(TB:ue mg)(GG:Cl P w K mg base CX0 2 "check_names" ["texts"] (jD K) fG fdG) :
   aW P w K mg base CX0 3 f fd ["shades"] (lS K):=by
 fo lh;o⟨l,ws,rfl,hl,hlen1,hlen,hnd,hnm,q⟩:=h;o⟨tg,hms⟩:=TB.mostS
 r⟨_,aN (aC (ap cX (al av (by rfl) T.len zT (aa (pv 0) ae)) ag (ax _)) cI ao)
   (aN (aC (ap fJ (al av (by rfl) T.len zT (aa (pv 0) ae)) (bf (v:=.int 12) rfl hms ⟨_,rfl⟩) (ax _)) cI ao)
   (ah (aR (pC GG hr aA (aa (pv 0) ae))))),?_⟩
 try dsimp only[aE,aO]
 h hs:=aM;w;r⟨_,.inl hl,?_⟩;rw[be];r az (fun h=>absurd h (by m)) (fun _=>⟨_,.inl hl,?_⟩);rw[be];r az (fun h=>absurd h (by m)) (fun _=>⟨l,ws,rfl,hl,by m,hnd,hnm,q⟩)
noncomputable def rq (K:PySem.W.Frag):Sp:=fun vs H Q _=>∃ (l lo:Addr)(ss os:List Str),vs=[.ref l,.ref lo]∧SqL K H l (ss.map V.str)∧SqL K H lo (os.map V.str)∧os.length=ss.length∧ss.length≤100∧(∀ x∈os,x∈ss)∧∀ H',af H H'→Q .non H'
þ jv:ay ["shades", "outs", "shade"] ["shades", "outs"] (ar nw):=®
þ uB {f:Addr}{fd:FuncData}(F:Fun K "check_outs" "check_outs" nw f fd)(T:Txt mg) :
   aW P w K mg base CX0 1 f fd ["shades", "outs"] (rq K):=by
 fo jv;o⟨l,lo,ss,os,rfl,hl,hlo,hlen,hlen2,hin,q⟩:=h
 r⟨_,aN (aC (ap i6 (al av (by rfl) T.len zT (aa (pv 1) ae)) (al av (by rfl) T.len zT (aa (pv 0) ae)) (ax _)) cI ao)
   (ah (bC PassesOwn.never rfl (ba (pv 1)) (aw (i:=2) jv.nd rfl (Or.inl rfl))
     (ah (aC (ap cG (pv 2) (pv 0) (by with_unfolding_all rfl)) cI ao)))),?_⟩
 try dsimp only[aE,aO]
 h hs:=aM;w;r⟨_,.inl hlo,_,.inl hl,rfl,?_⟩;rw[be,be];r az (fun h=>absurd (by rw[hlen]) h) (fun _=>⟨⟨_,hlo⟩,?_⟩);r bj (H0:=H) (aH hlo) (fun i σ' H'=>∃ o,σ'=[§l,§lo,o]∧H'=H) ⟨none,rfl,rfl⟩ (fun _ _ _ _ ⟨_,_,h⟩=>by rw[h];e af.refl _) ?_ ?_
 . rintro i x σ H' hi hx ⟨o,rfl,rfl⟩;rw[zK] at hx;o⟨z,hz,rfl⟩:=Option.map_eq_some_iff.mp hx;w;r⟨_,.inl hl,rfl,cR ss,?_⟩;rw[da,decide_eq_true (hin z (zO hz))];e⟨_,rfl⟩
 . rintro σ H' ⟨o,rfl,rfl⟩;e q _ (af.refl _)
noncomputable def pq (K:PySem.W.Frag):Sp:=fun vs H Q _=>∃ (l lb:Addr)(ss:List Str)(bs:List (Str×List Str)),vs=[.ref l,.ref lb]∧SqL K H l (ss.map V.str)∧iq H lb bs∧aP ss bs∧∀ H',af H H'→Q .non H'
þ eQ:ay ["shades", "baths", "name", "outs"] ["shades", "baths"] (ar ju):=®
þ sH {f fG fO:Addr}{fd fdG fdO:FuncData}(F:Fun K "check_baths" "check_baths" ju f fd)(T:Txt mg)(TB:ue mg)(GG:Cl P w K mg base CX0 2 "check_names" ["texts"] (jD K) fG fdG)
   (GO:Cl P w K mg base CX0 1 "check_outs" ["shades", "outs"] (rq K) fO fdO) :
   aW P w K mg base CX0 3 f fd ["shades", "baths"] (pq K):=by
 fo eQ;o⟨l,lb,ss,bs,rfl,hl,⟨ps,hlb,hpl,hB⟩,B,q⟩:=h;o⟨tg,hms⟩:=TB.mostB;h hr1:=hr.mono (j:=1) (by m)
 r⟨_,aN (aC (ap fJ (al av (by rfl) T.len zT (aa (pv 1) ae)) (bf (v:=.int 8) rfl hms ⟨_,rfl⟩) (ax _)) cI ao)
   (aj (aR (pC GG hr aA (aa (fE (N':=["name", "outs"]) (pk:=[none,none]) rfl (bZ.of (by rfl)) (ba (pv 1)) (fun s H ex=>(cC (n:=2) rfl (aG (aw (i:=0) (by show(["name", "outs"]:List Str).Nodup;d) rfl (Or.inl rfl)) (aG (aw (i:=1) (by show(["name", "outs"]:List Str).Nodup;d) rfl (Or.inl rfl)) bV)):PG _ _ (kC K 2 (bQ (bG 0) (bQ (bG 1) iQ)))))
       (fun s H ex=>pv 0)) ae)))
   (ah (bC PassesOwn.never rfl (ba (pv 1)) (cC (n:=2) rfl (aG (aw (i:=2) eQ.nd rfl (Or.inl rfl)) (aG (aw (i:=3) eQ.nd rfl (Or.inl rfl)) bV)))
     (ah (aR (pC GO hr1 aA (aa (pv 0) (aa (pv 3) ae)))))))),?_⟩
 try dsimp only[aE,aO]
 h hs:=aM;w;h hb8:=B.b8;h hs12:=B.s12;r⟨_,.inl (SqL.of hlb),?_⟩;rw[be];r az (fun h=>absurd h (by m)) (fun _=>?_);r cut (fun σ' H'=>σ'=[§l,§lb,none,none]∧af H H') ?_ ?_
 . w;r⟨⟨_,SqL.of hlb⟩,fun D hD=>?_⟩;r cF (aH (SqL.of hlb)) (by rw[be];m) hD (fun σ=>∃ o1 o2,σ=[o1,o2]) (fun k=>V.str (bs.getD k (⟨#[]⟩,[])).1) ⟨none,none,rfl⟩ ?_ ?_
   . rintro k x σ' H3 hk hx ⟨o1,o2,rfl⟩ hS3 R hR;rw[zK] at hx;o⟨y,hy,rfl⟩:=Option.map_eq_some_iff.mp hx;obtain⟨b,hb⟩:∃ b,bs[k]?=some b:=⟨_,zJ (by rw[be] at hk;m)⟩;o⟨lo,ht,hlo⟩:=hB k y b hy hb;r d7 (hS3 _ _ ht) ?_;w
     h e:(bs.getD k (⟨#[]⟩,[]))=b:=by rw[zM,hb];rfl
     have:=hR [some (V.str b.1),some (V.ref lo)] ⟨_,_,rfl⟩;rw[e] at this;e this
   . h e:(zS (ps.map V.ref).length).map (fun k=>V.str (bs.getD k (⟨#[]⟩,[])).1)=(bs.map (·.1)).map V.str:=by
       rw[Ao];r cE _ bs _ _ (by rw[be,hpl]) fun k x hx=>?_;rw[zM,hx];rfl
     rw[e];r⟨D,bs.map (·.1),rfl,SqL.of ac,by rw[be];m,B.bnd,fun x hx=>?_,fun H' S'=>(af.updN hD).trans S'⟩;o⟨b,hb,rfl⟩:=List.mem_map.mp hx;e B.bnm b hb
 rintro σ1 H1 ⟨rfl,S1⟩;w;r⟨⟨_,SqL.of (S1 _ _ hlb)⟩,?_⟩;r bj (H0:=H) (aH (SqL.of hlb)) (fun i σ' H'=>∃ o2 o3,σ'=[§l,§lb,o2,o3]∧af H H') ⟨none,none,rfl,S1⟩ (fun _ _ _ _ ⟨_,_,_,h⟩=>h) ?_ ?_
 . rintro i x σ H' hi hx ⟨o2,o3,rfl,hS⟩;rw[zK] at hx;o⟨y,hy,rfl⟩:=Option.map_eq_some_iff.mp hx;obtain⟨b,hb⟩:∃ b,bs[i]?=some b:=⟨_,zJ (by rw[be] at hi;m)⟩;o⟨lo,ht,hlo⟩:=hB i y b hy hb;h hbm:b∈bs:=zO hb;r d7 (hS _ _ ht) ?_;w;e⟨l,lo,ss,b.2,rfl,hS.seq hl,SqL.of (hS _ _ hlo),B.bln b hbm,by m,B.bin b hbm,fun H2 S2=>hS.trans S2⟩
 . rintro σ H' ⟨o2,o3,rfl,hS⟩;e q _ hS
noncomputable def bx (H:Hp)(C x:Addr)(ss:List Str)(bs:List (Str×List Str)):Prop :=
 ∃ (dx t d:Addr)(so:List Str),H x=some (.ins C dx [("order",.ref t),("tables",.ref d)])∧H t=some (.tup (so.map V.str))∧so.Perm ss∧Al so=true∧gQ H d ss bs
þ af.book {H H':Hp}{C x:Addr}{ss:List Str}{bs:List (Str×List Str)}(S:af H H')(h:bx H C x ss bs):bx H' C x ss bs:=by
 o⟨dx,t,d,so,h1,h2,h3,h4,h5⟩:=h;e⟨dx,t,d,so,S _ _ h1,S _ _ h2,h3,h4,af.tabs S h5⟩
þ si {H:Hp}{x C dx l:Addr}{fs:List (Str×V)}{xs:List V}(hx:H x=some (.ins C dx fs))(h:SqL K H l xs):SqL K (hide H x) l xs:=by
 rcases h with (h | ⟨o,h⟩) | h
 . e .inl (.inl (by rw[aY (fun e=>by rw[e,hx] at h;cases h)];e h))
 . e .inl (.inr ⟨o,by rw[aY (fun e=>by rw[e,hx] at h;cases h)];e h⟩)
 . e .inr h
þ lX {H:Hp}{x C dx lb:Addr}{fs:List (Str×V)}{bs:List (Str×List Str)}(hx:H x=some (.ins C dx fs))(h:iq H lb bs):iq (hide H x) lb bs:=by
 o⟨ps,h1,h2,h3⟩:=h;r⟨ps,by rw[aY (fun e=>by rw[e,hx] at h1;cases h1)];e h1,h2,fun i p b hp hb=>?_⟩;o⟨o,e1,e2⟩:=h3 i p b hp hb;e⟨o,by rw[aY (fun e=>by rw[e,hx] at e1;cases e1)];e e1,by rw[aY (fun e=>by rw[e,hx] at e2;cases e2)];e e2⟩
þ jI {u:V}:cQ ¶"order" u []=[(¶"order",u)]:=rfl
þ i8 {u v:V}:cQ ¶"tables" v [(¶"order",u)]=[(¶"order",u),(¶"tables",v)]:=by
 unfold cQ;rw[if_neg (by d)];rfl
þ fQ {u v:V}:Af ¶"order" [(¶"order",u),(¶"tables",v)]=some u:=by
 rw[Ah,show(¶"order"==¶"order")=true by d]
þ cT {u v:V}:Af ¶"tables" [(¶"order",u),(¶"tables",v)]=some v:=by
 rw[Ah,show(¶"tables"==¶"order")=false by d];show Af _ [(¶"tables",v)]=some v;rw[Ah,show(¶"tables"==¶"tables")=true by d]
þ lN:∀ (ks:List Str)(vs:List V)(acc:List (Key×V)),ks.Nodup→(∀ k∈ks,bJ acc (Sum.inr k)=none)→cO acc (cb ks vs)=acc++cb ks vs
 | [],vs,acc,_,_=>by
   show cO acc []=acc++[];rw[AK];rfl
 | k::ks,[],acc,_,_=>by
   show cO acc []=acc++[];rw[AK];rfl
 | k::ks,v::vs,acc,hd,hn=>by
   rw[gi];show cO (dw acc (Sum.inr k) v) (cb ks vs)=_;rw[cZ _ (hn k zV),lN ks vs _ (List.nodup_cons.mp hd).2 (fun y hy=>?_),Be]
   . rfl
   . h hne:¬(Sum.inr y:Key)=Sum.inr k:=fun e=>(List.nodup_cons.mp hd).1 (by rw[←Sum.inr.inj e];e hy);rw[iz _ _ _ _ (hn k zV),if_neg hne];e hn y (zX _ hy)
þ jH {ks:List Str}{vs:List V}(h:ks.Nodup):cO [] (cb ks vs)=cb ks vs:=by
 rw[lN ks vs [] h ¿];rfl
noncomputable def yD (K:PySem.W.Frag)(C:Addr):Sp:=fun vs H Q _=>∃ (x dx l lb:Addr)(ss:List Str)(bs:List (Str×List Str)),vs=[.ref x,.ref l,.ref lb]∧H x=some (.ins C dx [])∧SqL K H l (ss.map V.str)∧iq H lb bs∧aP ss bs ∧
 ∀ H',af (hide H x) H'→bx H' C x ss bs→Q .non H'
þ iG:ay ["self", "shades", "baths", "name", "outs"] ["self", "shades", "baths"] (ar sd):=®
þ eF {A:Around}{k:Nat}(hr:dc k A):A.units+1 < cLine:=B3 (Nat.add_le_add_left (by decide:1≤64) _) hr.units
þ wu {C f fS fB:Addr}{fd fdS fdB:FuncData}(F:Fun K "__init__" "Book.__init__" sd f fd)(T:Txt mg)(c:Cls K C)(nO:NoAttr K C "order")(nT:NoAttr K C "tables")
   (GS:Cl P w K mg base CX0 3 "check_shades" ["shades"] (lS K) fS fdS)
   (GB:Cl P w K mg base CX0 3 "check_baths" ["shades", "baths"] (pq K) fB fdB) :
   aW P w K mg base CX0 4 f fd ["self", "shades", "baths"] (yD K C):=by
 fo iG;o⟨x,dx,l,lb,ss,bs,rfl,hx,hl,hb,B,q⟩:=h;h hu:=eF hr
 r⟨_,aj (aR (pC GS hr aA (aa (pv 1) ae)))
   (aj (aR (pC GB hr aA (aa (pv 1) (aa (pv 2) ae))))
   (aj (eI (pv 0) (cw gx (by rfl) T.tuple (by d) (aa (al fe (by rfl) T.sorted (by d) (aa (pv 1) ae)) ae)) rfl)
   (aj (eI (pv 0) ed rfl)
   (ah (bC PassesOwn.never rfl (ba (pv 2)) (cC (n:=2) rfl (aG (aw (i:=3) iG.nd rfl (Or.inl rfl)) (aG (aw (i:=4) iG.nd rfl (Or.inl rfl)) bV)))
     (ah (dH hu (bD (pv 0) rfl) (pv 3) (j8 rfl (by rfl) T.dict (by rfl) T.zip (aa (pv 1) (aa (pv 4) ae))) rfl))))))),?_⟩
 try dsimp only[aE,aO]
 h hs:=aM;h hl0:=si hx hl;h hb0:=lX hx hb;generalize hH0:hide H x=H0 at hl0 hb0 q
 h SH:af H0 H:=by rw[←hH0];e bM
 h hx0:H0 x=none:=by rw[←hH0];unfold hide;rw[if_pos rfl]
 r cut (fun σ' H'=>σ'=[§x,§l,§lb,none,none]∧af H H') ?_ ?_
 . w;e⟨l,ss,rfl,hl,B.s1,B.s12,B.snd,B.snm,fun H' S'=>S'⟩
 rintro σ1 H1 ⟨rfl,S1⟩;r cut (fun σ' H'=>σ'=[§x,§l,§lb,none,none]∧af H H') ?_ ?_
 . w;e⟨l,lb,ss,bs,rfl,S1.seq hl,af.bths S1 hb,B,fun H' S'=>S1.trans S'⟩
 rintro σ2 H2 ⟨rfl,S2⟩;h hs12:=B.s12;r cut (fun σ' H'=>∃ t so,σ'=[§x,§l,§lb,none,none]∧af H0 H'∧H' x=some (.ins C dx [("order",.ref t)])∧H' t=some (.tup (so.map V.str))∧so.Perm ss∧Al so=true) ?_ ?_
 . w;h S02:af H0 H2:=SH.trans S2;h hx2:=S2 _ _ hx;r⟨ss,S2.seq hl,by m,fun p so hp hpm hso=>⟨_,.inl ⟨SqL.of ac,fun t ht=>?_⟩⟩⟩
   h hxp:x≠p:=fun e=>by rw[←e,hx2] at hp;cases hp
   h ht2:H2 t=none:=(af.updN hp).free ht
   h hxt:x≠t:=fun e=>by rw[←e,hx2] at ht2;cases ht2
   r⟨C,dx,[],by rw[ai hxt,ai hxp];e hx2,c,nO,by decide,((S02.step (S02.free hp)).step (S02.free ht2)).step hx0,t,by rw[ac,jI],so,?_,hpm,hso⟩;rw[ai (Ne.symm hxt)];e ac
 rintro σ3 H3 ⟨t,so,rfl,S3,hx3,ht3,hpm,hso⟩;r cut (fun σ' H'=>∃ d,σ'=[§x,§l,§lb,none,none]∧H3 d=none∧H'=upd (upd H3 d (.dK [])) x (.ins C dx [("order",.ref t),("tables",.ref d)])) ?_ ?_
 . w;intro d hd
   h hxd:x≠d:=fun e=>by rw[←e,hx3] at hd;cases hd
   e⟨C,dx,_,by rw[ai hxd];e hx3,c,nT,by rw[zR];decide,d,hd,by rw[i8]⟩
 rintro σ4 H4 ⟨d,rfl,hd3,rfl⟩
 h hxd:x≠d:=fun e=>by rw[←e,hx3] at hd3;cases hd3
 h htx:t≠x:=fun e=>by rw[e,hx3] at ht3;cases ht3
 h htd:t≠d:=fun e=>by rw[←e,ht3] at hd3;cases hd3
 h hd0:H0 d=none:=S3.free hd3;o⟨ps,hlb,hpl,hB⟩:=hb0;h hb8:=B.b8;h S4:af H0 (upd (upd H3 d (.dK [])) x (.ins C dx [("order",.ref t),("tables",.ref d)])):=(S3.step hd0).step hx0;w;r⟨⟨_,SqL.of (S4 _ _ hlb)⟩,?_⟩
 r bj (H0:=H0) (aH (SqL.of hlb)) (fun i σ' H'=>∃ (ds:List Addr)(o3 o4:Option V),σ'=[§x,§l,§lb,o3,o4]∧af H0 H'∧H' x=some (.ins C dx [("order",.ref t),("tables",.ref d)])∧H' t=some (.tup (so.map V.str)) ∧
   H' d=some (.dK (cb ((bs.map (·.1)).take i) (ds.map V.ref)))∧ds.length=i∧∀ (j:Nat) r b,ds[j]?=some r→bs[j]?=some b→hide H' d r=some (.dK (iE ss b)))
   ⟨[],none,none,rfl,S4,ac,(by rw[ai htx,ai htd];e ht3),(by rw[ai (Ne.symm hxd)];e ac),rfl,(by intro j r b h;simp at h)⟩ (fun _ _ _ _ ⟨_,_,_,_,h,_⟩=>h) ?_ ?_
 . rintro i y σ H' hi hy ⟨ds,o3,o4,rfl,hS,hHx,hHt,hHd,hdl,hD⟩;rw[zK] at hy;o⟨pr,hpr,rfl⟩:=Option.map_eq_some_iff.mp hy;rw[be,hpl] at hi;obtain⟨b,hb⟩:∃ b,bs[i]?=some b:=⟨_,zJ hi⟩;o⟨lo,ht,hlo⟩:=hB i pr b hpr hb;h hbm:b∈bs:=zO hb
   h hk:(bs.map (·.1))[i]?=some b.1:=by rw[zK,hb];rfl
   h hnk:b.1∉(bs.map (·.1)).take i:=eS B.bnd hk
   h hln:((bs.map (·.1)).take i).length=(ds.map V.ref).length:=by rw[Aa,be,be,hdl];m
   h hbl:b.2.length=ss.length:=B.bln b hbm;r d7 (hS _ _ ht) ?_;w;r⟨ss,hS.seq hl0,_,SqL.of (hS _ _ hlo),by rw[be];e hbl.symm,by m,fun r hr=>?_⟩;rw[jH B.snd]
   h hxr:x≠r:=fun e=>by rw[←e,hHx] at hr;cases hr
   h htr:t≠r:=fun e=>by rw[←e,hHt] at hr;cases hr
   h hrd:r≠d:=fun e=>by rw[e,hHd] at hr;cases hr
   r⟨C,dx,_,by rw[ai hxr];e hHx,c,nT,_,cT,d,rfl,_,.inl ⟨_,Sum.inr b.1,by rw[ai (Ne.symm hrd)];e hHd,rfl,by rw[fP hln,Aa];m,rfl⟩,(hS.step (hS.free hr)).step hd0,by rw[ai hxd,ai hxr];e hHx,by rw[ai htd,ai htr];e hHt,ds++[r],?_,by rw[zL,hdl];rfl,fun j r2 b2 hr2 hb2=>?_⟩
   . rw[ac,cZ _ (bX _ _ _ hnk),bw hk,zQ];e congrArg (fun z=>some (HO.dK z)) (eN b.1 (V.ref r) hln).symm
   . rw[ee];by_cases hj:j < i
     . rw[zU (by m)] at hr2;e af.hide (af.updN hr) _ _ (hD j r2 b2 hr2 hb2)
     . h hj2:j=i:=by
         have:=(List.getElem?_eq_some_iff.mp hr2).1;rw[zL,hdl] at this;simp only[zR] at this;m
       subst hj2;rw[zP (by m),hdl,Ay] at hr2;cases hr2;rw[hb] at hb2;cases hb2;rw[aY hrd,ac];rfl
 . rintro σ H' ⟨ds,o3,o4,rfl,hS,hHx,hHt,hHd,hdl,hD⟩;rw[be,hpl] at hHd hdl;r q H' hS ⟨dx,t,d,so,hHx,hHt,hpm,hso,ds,.inl ?_,hdl,fun j r b hr hb=>.inl (bM _ _ (hD j r b hr hb))⟩;rw[hHd,AC (by rw[be];e zN _)]
noncomputable def lkV (ss:List Str)(b:Str×List Str) (z:Str):Str:=match bJ (iE ss b) (Sum.inr z) with
 | ¢y=>y
 | _=>⟨#[]⟩
þ mM {ss:List Str}{b:Str×List Str}{z:Str}(hd:ss.Nodup)(hl:b.2.length=ss.length)(hz:z∈ss):bJ (iE ss b) (Sum.inr z)=some (V.str (lkV ss b z)):=by
 o⟨i,hi⟩:=AF hz
 h hil:i < b.2.length:=by rw[hl];e(List.getElem?_eq_some_iff.mp hi).1
 h e:bJ (iE ss b) (Sum.inr z)=some (V.str b.2[i]):=dJ ss (b.2.map V.str) i z _ hd hi (by rw[zK,zJ hil];rfl);unfold lkV;rw[e]
þ gQ.get {H:Hp}{d:Addr}{ss:List Str}{bs:List (Str×List Str)}(B:aP ss bs)(h:gQ H d ss bs){b:Str×List Str}(hb:b∈bs):∃ r,k7 H d (.str b.1) (§r)∧Rd H r (.dK (iE ss b)):=by
 o⟨ds,h1,h2,h3⟩:=h;o⟨i,hi⟩:=AF hb
 h hil:i < ds.length:=by rw[h2];e(List.getElem?_eq_some_iff.mp hi).1
 h hr:=zJ hil;r⟨ds[i],.inl ⟨_,Sum.inr b.1,h1,rfl,?_⟩,h3 i _ b hr hi⟩;e(dJ _ _ i _ _ B.bnd (by rw[zK,hi];rfl) (by rw[zK,hr];rfl)).symm
þ bP {m:Str}{u v:V}(h1:(m==¶"order")=false)(h2:(m==¶"tables")=false):Af m [(¶"order",u),(¶"tables",v)]=none:=by
 rw[Ah,h1];show Af m [(¶"tables",v)]=none;rw[Ah,h2];rfl
noncomputable def jR (C:Addr):Sp:=fun vs H Q _=>∃ (x:Addr)(ss:List Str)(bs:List (Str×List Str))(b:Str×List Str),vs=[.ref x,.str b.1]∧bx H C x ss bs∧aP ss bs∧b∈bs∧Q .non H
þ ot:ay ["self", "bath"] ["self", "bath"] (ar jy):=®
þ sC {C f:Addr}{fd:FuncData}(F:Fun K "check_bath" "Book.check_bath" jy f fd)(c:Cls K C)(nT:NoAttr K C "tables"):aW P w K mg base CX0 1 f fd ["self", "bath"] (jR C):=by
 fo ot;o⟨x,ss,bs,b,rfl,⟨dx,t,d,so,h1,h2,h3,h4,h5⟩,B,hb,q⟩:=h;h hu:=eF hr;r⟨_,ah (aC (fk (dq hu (pv 1) (bD (pv 0) rfl))) cI ao),?_⟩
 try dsimp only[aE,aO]
 o⟨r,hg,hr⟩:=gQ.get B h5 hb;w;e⟨C,dx,_,h1,c,nT,_,cT,d,rfl,_,hg,q⟩
noncomputable def ix (C:Addr):Sp:=fun vs H Q _=>∃ (x:Addr)(ss:List Str)(bs:List (Str×List Str)),vs=[.ref x]∧bx H C x ss bs∧aP ss bs∧∀ l so,H l=none→so.Perm ss→Al so=true→Q (.ref l) (upd H l (.lst (so.map V.str)))
þ tN:ay ["self"] ["self"] (ar jV):=®
þ qR {C f:Addr}{fd:FuncData}(F:Fun K "shades" "Book.shades" jV f fd)(T:Txt mg)(c:Cls K C)(nO:NoAttr K C "order"):aW P w K mg base CX0 1 f fd ["self"] (ix C):=by
 fo tN;o⟨x,ss,bs,rfl,⟨dx,t,d,so,h1,h2,h3,h4,h5⟩,B,q⟩:=h;r⟨_,ah (aq (cw dY (by rfl) T.list (by d) (aa (bD (pv 0) rfl) ae))),?_⟩
 try dsimp only[aE,aO]
 w;e⟨C,dx,_,h1,c,nO,_,fQ,t,rfl,_,.inr (SqT.of h2),fun l hl=>q l so hl h3 h4⟩
noncomputable def kO (C:Addr):Sp:=fun vs H Q _=>∃ (x:Addr)(ss:List Str)(bs:List (Str×List Str)),vs=[.ref x]∧bx H C x ss bs∧aP ss bs∧∀ l ns,H l=none→ns.Perm (bs.map (·.1))→Al ns=true→Q (.ref l) (upd H l (.lst (ns.map V.str)))
þ vp:ay ["self"] ["self"] (ar nq):=®
þ tI {C f:Addr}{fd:FuncData}(F:Fun K "baths" "Book.baths" nq f fd)(T:Txt mg)(c:Cls K C)(nT:NoAttr K C "tables"):aW P w K mg base CX0 1 f fd ["self"] (kO C):=by
 fo vp;o⟨x,ss,bs,rfl,⟨dx,t,d,so,h1,h2,h3,h4,ds,h5,h6,h7⟩,B,q⟩:=h;h hb8:=B.b8;r⟨_,ah (aq (al (dW rfl) (by rfl) T.sorted (by d) (aa (bD (pv 0) rfl) ae))),?_⟩
 try dsimp only[aE,aO]
 w;r⟨C,dx,_,h1,c,nT,_,cT,d,rfl,bs.map (·.1),_,h5,lY (by rw[be,be,h6]),by rw[be];m,fun l ns hl hp hs=>q l ns hl hp hs⟩
noncomputable def jE (C:Addr):Sp:=fun vs H Q _=>∃ (x:Addr)(ss:List Str)(bs:List (Str×List Str))(b:Str×List Str),vs=[.ref x,.str b.1]∧bx H C x ss bs∧aP ss bs∧b∈bs ∧
 ∀ l so,H l=none→so.Perm ss→Al so=true→Q (.ref l) (upd H l (.lst ((so.map (lkV ss b)).map V.str)))
þ vG:ay ["self", "bath"] ["self", "bath"] (ar mF):=®
þ sG {C f fC:Addr}{fd fdC:FuncData}(F:Fun K "table" "Book.table" mF f fd)(c:Cls K C)(nO:NoAttr K C "order")(nT:NoAttr K C "tables")
   (GC:Cm P w K mg base CX0 1 C "check_bath" ["self", "bath"] (jR C) fC fdC):aW P w K mg base CX0 2 f fd ["self", "bath"] (jE C):=by
 fo vG;o⟨x,ss,bs,b,rfl,hbk,B,hb,q⟩:=h;h hu:=eF hr
 r⟨_,aN (aR (pM (pv 0) c GC hr aA (aa (pv 1) ae)))
   (ah (aq (fE (N':=["shade", "self", "bath"]) (pk:=[none,some 0,some 1]) rfl (bZ.of (by rfl)) (yo (bD (pv 0) rfl)) (fun s H ex=>aw (i:=0) (by show(["shade", "self", "bath"]:List Str).Nodup;d) rfl (Or.inl rfl))
       (fun s H ex=>cy hu (cy hu ((bD (pv 1) rfl):PE _ _ (wY K (kY 1) "tables")) (pv 2) ¿) (pv 0) ¿)))),?_⟩
 try dsimp only[aE,aO]
 o⟨dx,t,d,so,h1,h2,h3,h4,h5⟩:=hbk;h hs:=aM;w;r⟨dx,_,h1,bP (by d) (by d),x,ss,bs,b,rfl,⟨dx,t,d,so,h1,h2,h3,h4,h5⟩,B,hb,C,dx,_,h1,c,nO,_,fQ,t,rfl,⟨_,SqT.of h2⟩,fun D hD=>?_⟩;h hsl:so.length=ss.length:=h3.length_eq;h hs12:=B.s12;r cF (p9 (SqT.of h2)) (by rw[be];m) hD (fun σ=>∃ o,σ=[o,§x,¢b.1]) (fun k=>V.str (lkV ss b (so.getD k ⟨#[]⟩))) ⟨none,rfl⟩ ?_ ?_
 . rintro k y σ' H3 hk hy ⟨o,rfl⟩ hS3 R hR;rw[zK] at hy;o⟨z,hz,rfl⟩:=Option.map_eq_some_iff.mp hy;h hzs:z∈ss:=h3.mem_iff.mp (zO hz);o⟨r,hg,hr⟩:=gQ.get B (af.tabs hS3 h5) hb;w;r⟨C,dx,_,hS3 _ _ h1,c,nT,_,cT,d,rfl,_,hg,r,rfl,V.str (lkV ss b z),.inl ⟨_,Sum.inr z,hr,rfl,(mM B.snd (B.bln b hb) hzs).symm⟩,?_⟩
   h e:so.getD k ⟨#[]⟩=z:=by rw[zM,hz];rfl
   have:=hR [some (V.str z),some (V.ref x),some (V.str b.1)] ⟨_,rfl⟩;rw[e] at this;e this
 . h e:(zS (so.map V.str).length).map (fun k=>V.str (lkV ss b (so.getD k ⟨#[]⟩)))=(so.map (lkV ss b)).map V.str:=by
     rw[Ao];r cE _ so _ _ (by rw[be]) fun k y hy=>?_;rw[zM,hy];rfl
   rw[e];e q D so hD h3 h4
noncomputable def l5 (C:Addr):Sp:=fun vs H Q _=>∃ (x:Addr)(ss:List Str)(bs:List (Str×List Str)) (z:Str),vs=[.ref x,.str z]∧bx H C x ss bs∧z∈ss∧Q .non H
þ lR:ay ["self", "shade"] ["self", "shade"] (ar gZ):=®
þ qE {C f:Addr}{fd:FuncData}(F:Fun K "check_shade" "Book.check_shade" gZ f fd)(c:Cls K C)(nO:NoAttr K C "order"):aW P w K mg base CX0 1 f fd ["self", "shade"] (l5 C):=by
 fo lR;o⟨x,ss,bs,z,rfl,⟨dx,t,d,so,h1,h2,h3,h4,h5⟩,hz,q⟩:=h;r⟨_,ah (aC (ap cG (pv 1) (bD (pv 0) rfl) (by with_unfolding_all rfl)) cI ao),?_⟩
 try dsimp only[aE,aO]
 h hzo:z∈so:=h3.mem_iff.mpr hz;w;r⟨C,dx,_,h1,c,nO,_,fQ,t,rfl,_,.inr (SqT.of h2),rfl,cR so,?_⟩;rw[da,decide_eq_true hzo];e q
noncomputable def qN (C:Addr):Sp:=fun vs H Q _=>∃ (x:Addr)(ss:List Str)(bs:List (Str×List Str))(b:Str×List Str) (z:Str),vs=[.ref x,.str b.1,.str z]∧bx H C x ss bs∧aP ss bs∧b∈bs∧z∈ss∧Q (.str (lkV ss b z)) H
þ yF:ay ["self", "bath", "shade"] ["self", "bath", "shade"] (ar uT):=®
þ wC {C f fC fS:Addr}{fd fdC fdS:FuncData}(F:Fun K "out" "Book.out" uT f fd)(c:Cls K C)(nT:NoAttr K C "tables")
   (GC:Cm P w K mg base CX0 1 C "check_bath" ["self", "bath"] (jR C) fC fdC)
   (GS:Cm P w K mg base CX0 1 C "check_shade" ["self", "shade"] (l5 C) fS fdS):aW P w K mg base CX0 2 f fd ["self", "bath", "shade"] (qN C):=by
 fo yF;o⟨x,ss,bs,b,z,rfl,hbk,B,hb,hz,q⟩:=h;h hu:=eF hr
 r⟨_,aN (aR (pM (pv 0) c GC hr aA (aa (pv 1) ae)))
   (aN (aR (pM (pv 0) c GS hr aA (aa (pv 2) ae)))
   (ah (aq (cy hu (cy hu (bD (pv 0) rfl) (pv 1) ¿) (pv 2) ¿)))),?_⟩
 try dsimp only[aE,aO]
 o⟨dx,t,d,so,h1,h2,h3,h4,h5⟩:=hbk;o⟨r,hg,hr⟩:=gQ.get B h5 hb;w;r⟨dx,_,h1,bP (by d) (by d),x,ss,bs,b,rfl,⟨dx,t,d,so,h1,h2,h3,h4,h5⟩,B,hb,dx,_,h1,bP (by d) (by d),x,ss,bs,z,rfl,⟨dx,t,d,so,h1,h2,h3,h4,h5⟩,hz,?_⟩;e⟨C,dx,_,h1,c,nT,_,cT,d,rfl,_,hg,r,rfl,_,.inl ⟨_,Sum.inr z,hr,rfl,(mM B.snd (B.bln b hb) hz).symm⟩,q⟩
þ ud:ay ["_law_shades", "_law_baths"] ["_law_shades", "_law_baths"] (ar mG):=®
noncomputable def Fz (H H':Hp):Prop:=(∀ b o,H b=some o→(∀ kvs,o≠.dK kvs)→H' b=some o)∧(∀ b o,Rd H b o→Rd H' b o)
þ af.fz {H H':Hp}(S:af H H'):Fz H H':=⟨fun b o h _=>S b o h,fun b o h=>af.rd S h⟩
þ Fz.refl (H:Hp):Fz H H:=⟨fun _ _ h _=>h,fun _ _ h=>h⟩
þ Fz.trans {H H1 H2:Hp}(a:Fz H H1)(b:Fz H1 H2):Fz H H2:=⟨fun c o h n=>b.1 c o (a.1 c o h n) n,fun c o h=>b.2 c o (a.2 c o h)⟩
þ tR {H:Hp}{d:Addr}{kvs:List (Key×V)}{u:Obj}(h:H d=some (.dK kvs)):Fz H (upd H d (.frz u (.dK kvs))):=by
 r⟨fun b o hb n=>?_,fun b o hb=>?_⟩
 . h hne:b≠d:=fun e=>n kvs (by rw[e,h] at hb;cases hb;rfl);rw[ai hne];e hb
 . by_cases e:b=d
   . subst e
     rcases hb with hb | ⟨v,hb⟩
     . rw[h] at hb;cases hb;e .inr ⟨u,ac⟩
     . rw[h] at hb;cases hb
   . rcases hb with hb | ⟨v,hb⟩
     . e .inl (by rw[ai e];e hb)
     . e .inr ⟨v,by rw[ai e];e hb⟩
þ Fz.tabs {H H':Hp}{d:Addr}{ss:List Str}{bs:List (Str×List Str)}(S:Fz H H')(h:gQ H d ss bs):gQ H' d ss bs:=by
 o⟨ds,h1,h2,h3⟩:=h;e⟨ds,S.2 _ _ h1,h2,fun i r b hr hb=>S.2 _ _ (h3 i r b hr hb)⟩
þ Fz.book {H H':Hp}{C x:Addr}{ss:List Str}{bs:List (Str×List Str)}(S:Fz H H')(h:bx H C x ss bs):bx H' C x ss bs:=by
 o⟨dx,t,d,so,h1,h2,h3,h4,h5⟩:=h;e⟨dx,t,d,so,S.1 _ _ h1 (fun _ e=>by cases e),S.1 _ _ h2 (fun _ e=>by cases e),h3,h4,Fz.tabs S h5⟩
þ Fz.seq {H H':Hp}{a:Addr}{xs:List V}(S:Fz H H')(h:SqL K H a xs):SqL K H' a xs:=by
 rcases h with h | h
 . e .inl (S.2 _ _ h)
 . e .inr h
noncomputable def dg (H:Hp)(d:Addr)(ss ns:List Str)(lk:Str→Str→Str):Prop :=
 ∃ kvs:List (Key×V),Rd H d (.dK kvs)∧kvs.map (·.1)=ns.map Sum.inr∧∀ n∈ns,∃ r kv,bJ kvs (Sum.inr n)=§r∧Rd H r (.dK kv)∧∀ z∈ss,bJ kv (Sum.inr z)=some (.str (lk n z))
þ Fz.tabG {H H':Hp}{d:Addr}{ss ns:List Str}{lk:Str→Str→Str}(S:Fz H H')(h:dg H d ss ns lk):dg H' d ss ns lk:=by
 o⟨kvs,h1,h2,h3⟩:=h;r⟨kvs,S.2 _ _ h1,h2,fun n hn=>?_⟩;o⟨r,kv,e1,e2,e3⟩:=h3 n hn;e⟨r,kv,e1,S.2 _ _ e2,e3⟩
þ dg.get {H:Hp}{d:Addr}{ss ns:List Str}{lk:Str→Str→Str}(h:dg H d ss ns lk){n z:Str}(hn:n∈ns)(hz:z∈ss):∃ r,k7 H d (.str n) (§r)∧k7 H r (.str z) (some (.str (lk n z))):=by
 o⟨kvs,h1,h2,h3⟩:=h;o⟨r,kv,e1,e2,e3⟩:=h3 n hn;e⟨r,.inl ⟨_,Sum.inr n,h1,rfl,e1.symm⟩,.inl ⟨_,Sum.inr z,e2,rfl,(e3 z hz).symm⟩⟩
noncomputable def lkB (ss:List Str)(bs:List (Str×List Str)) (n z:Str):Str:=match bs.find? (fun b=>decide (b.1=n)) with
 | some b=>lkV ss b z
 | none=>⟨#[]⟩
þ eD {ss:List Str}:∀ {bs:List (Str×List Str)}{b:Str×List Str} (z:Str),(bs.map (·.1)).Nodup→b∈bs→lkB ss bs b.1 z=lkV ss b z
 | [],_,_,_,h=>by cases h
 | a::bs,b,z,hd,h=>by
   unfold lkB;by_cases e:a.1=b.1
   . rw[List.find?_cons_of_pos (by simp[e])]
     rcases List.mem_cons.mp h with rfl | hm
     . rfl
     . e absurd (Aj (f:=(·.1)) hm) (by rw[z8,BD] at hd;rw[←e];e hd.1)
   . rw[List.find?_cons_of_neg (by simp[e])]
     h hm:b∈bs:=by
       rcases List.mem_cons.mp h with rfl | hm
       . e absurd rfl e
       . e hm
     rw[z8,BD] at hd;e eD z hd.2 hm
þ gQ.toG {H:Hp}{d:Addr}{ss:List Str}{bs:List (Str×List Str)}(B:aP ss bs)(h:gQ H d ss bs):dg H d ss (bs.map (·.1)) (lkB ss bs):=by
 o⟨ds,h1,h2,h3⟩:=h;r⟨_,h1,lY (by rw[be,be,h2]),fun n hn=>?_⟩;o⟨b,hb,rfl⟩:=List.mem_map.mp hn;o⟨i,hi⟩:=AF hb
 h hil:i < ds.length:=by rw[h2];e(List.getElem?_eq_some_iff.mp hi).1
 h hr:=zJ hil;r⟨ds[i],_,dJ _ _ i _ _ B.bnd (by rw[zK,hi];rfl) (by rw[zK,hr];rfl),h3 i _ b hr hi,fun z hz=>?_⟩;rw[eD z B.bnd hb];e mM B.snd (B.bln b hb) hz
þ vX {ss:List Str}{bs:List (Str×List Str)}{b:Str×List Str}{z:Str}(B:aP ss bs)(hb:b∈bs)(hz:z∈ss):lkV ss b z∈ss:=by
 o⟨i,hi⟩:=AF hz;h hl:=B.bln b hb
 h hil:i < b.2.length:=by rw[hl];e(List.getElem?_eq_some_iff.mp hi).1
 h e:bJ (iE ss b) (Sum.inr z)=some (V.str b.2[i]):=dJ ss (b.2.map V.str) i z _ B.snd hi (by rw[zK,zJ hil];rfl)
 h e2:lkV ss b z=b.2[i]:=by unfold lkV;rw[e]
 rw[e2];e B.bin b hb _ (AM hil)
þ sf {ss:List Str}{bs:List (Str×List Str)}(B:aP ss bs):∀ n∈bs.map (·.1),∀ z∈ss,lkB ss bs n z∈ss:=fun n hn z hz=>by
 o⟨b,hb,rfl⟩:=List.mem_map.mp hn;rw[eD z B.bnd hb];e vX B hb hz
þ fm {J:It}{n:Nat}{vs:Nat→V→Prop}{g:TG}{tc:TT}{te:TE}{D:Addr}{Q:Hp→Prop}{σ:St}{H:Hp}(S:d8 J H n vs)(hn:n≤sizeLine)(hD:H D=none)(Pσ:St→Prop)(bt:Nat→Bool)(out:Nat→V)
   (h0:Pσ σ)(step:∀ i x σ' H',i < n→vs i x→Pσ σ'→af H H'→∀ (R1:V→St→Hp→Prop)(R0:St→Hp→Prop),(bt i=true→∀ σ2,Pσ σ2→R1 (out i) σ2 H')→(bt i=false→∀ σ2,Pσ σ2→R0 σ2 H')→g x σ' H' fun σ2 H3=>tc σ2 H3 fun b H3'=>if b=true then te σ2 H3' fun v H4=>R1 v σ2 H4 else R0 σ2 H3')
   (fin:Q (upd H D (.lst (((zS n).filter bt).map out)))):my J g tc te D Q σ (upd H D (.lst [])):=by
 r⟨fun i m σ' H'=>m=n - i∧i≤n∧Pσ σ'∧H'=upd H D (.lst (((zS i).filter bt).map out)),⟨n,by simp,AA _,h0,rfl⟩,?_⟩;rintro i m σ' H' ⟨rfl,hi,p,rfl⟩;h sm:af H (upd H D (.lst (((zS i).filter bt).map out))):=af.updN hD;by_cases hlt:i < n
 . r .inr ⟨S.go i _ hlt sm,fun σ2 H2=>Pσ σ2∧H2=upd H D (.lst (((zS (i+1)).filter bt).map out)),fun σ2 H2 ⟨p',e⟩=>⟨n - (i+1),by m,rfl,hlt,p',e⟩,fun x H2 y=>?_⟩;o⟨e,hv⟩:=S.yld i _ x H2 hlt sm y;subst e
   h hlen:((zS i).filter bt).length≤i:=by
     have:=AZ bt (zS i)
     rwa [AW] at this
   r step i x σ' _ hlt hv p sm (fun v σ2 H4=>∃ xs,H4 D=some (.lst xs)∧xs.length < sizeLine∧Pσ σ2∧upd H4 D (.lst (xs++[v]))=upd H D (.lst (((zS (i+1)).filter bt).map out))) (fun σ2 H4=>Pσ σ2∧H4=upd H D (.lst (((zS (i+1)).filter bt).map out))) (fun hb σ2 p2=>?_) (fun hb σ2 p2=>⟨p2,?_⟩)
   . r⟨((zS i).filter bt).map out,ac,by rw[be];m,p2,?_⟩;rw[ic,Bb,AQ,AV (by simpa using hb),Bc,zQ,Bp]
   . rw[Bb,AQ,BE (by simpa using hb),Bc,AK]
 . h e:i=n:=by m
   subst e;e .inl ⟨S.stop _ sm,fin⟩
noncomputable def cm (H:Hp)(ps:List Addr)(L:List (List V)):Prop:=ps.length=L.length∧∀ (i:Nat) p e,ps[i]?=some p→L[i]?=some e→H p=some (.tup e)
þ cm.same {H H':Hp}{ps:List Addr}{L:List (List V)}(S:af H H')(h:cm H ps L):cm H' ps L:=⟨h.1,fun i p e hp he=>S _ _ (h.2 i p e hp he)⟩
þ cm.snoc {H:Hp}{ps:List Addr}{L:List (List V)}{t:Addr}{e:List V}(h:cm H ps L)(ht:H t=some (.tup e)):cm H (ps++[t]) (L++[e]):=by
 r⟨by rw[zL,zL,h.1];rfl,fun i p e2 hp he=>?_⟩;by_cases hi:i < ps.length
 . rw[zU hi] at hp;rw[zU (by rw[←h.1];e hi)] at he;e h.2 i p e2 hp he
 . h hj:i=ps.length:=by
     have:=(List.getElem?_eq_some_iff.mp hp).1;rw[zL,zR] at this;m
   subst hj;rw[zP (zN _),Ay] at hp;rw[zP (by rw[h.1];e zN _),h.1,Ay] at he;cases hp;cases he;e ht
þ iP {J:It}{n:Nat}{vs:Nat→V→Prop}{g:TG}{tc:TT}{te:TE}{D:Addr}{Q:Hp→Prop}{σ:St}{H:Hp}(S:d8 J H n vs)(hn:n≤sizeLine)(hD:H D=none)(Pσ:St→Prop)(bt:Nat→Bool)(out:Nat→List V)
   (h0:Pσ σ)(step:∀ i x σ' H',i < n→vs i x→Pσ σ'→af H H'→∀ (R1:V→St→Hp→Prop)(R0:St→Hp→Prop),(bt i=true→∀ t σ2,Pσ σ2→H' t=none→R1 (.ref t) σ2 (upd H' t (.tup (out i))))→(bt i=false→∀ σ2,Pσ σ2→R0 σ2 H')→g x σ' H' fun σ2 H3=>tc σ2 H3 fun b H3'=>if b=true then te σ2 H3' fun v H4=>R1 v σ2 H4 else R0 σ2 H3')
   (fin:∀ ps H',af H H'→H' D=some (.lst (ps.map V.ref))→cm H' ps (((zS n).filter bt).map out)→Q H'):my J g tc te D Q σ (upd H D (.lst [])):=by
 r⟨fun i m σ' H'=>m=n - i∧i≤n∧Pσ σ'∧∃ ps,af H H'∧H' D=some (.lst (ps.map V.ref))∧cm (hide H' D) ps (((zS i).filter bt).map out),⟨n,by simp,AA _,h0,[],af.updN hD,ac,rfl,by intro i p e h;simp at h⟩,?_⟩;rintro i m σ' H' ⟨rfl,hi,p,ps,sm,hHD,hT⟩;by_cases hlt:i < n
 . r .inr ⟨S.go i _ hlt sm,fun σ2 H2=>Pσ σ2∧∃ ps,af H H2∧H2 D=some (.lst (ps.map V.ref))∧cm (hide H2 D) ps (((zS (i+1)).filter bt).map out),fun σ2 H2 ⟨p',e⟩=>⟨n - (i+1),by m,rfl,hlt,p',e⟩,fun x H2 y=>?_⟩;o⟨e,hv⟩:=S.yld i _ x H2 hlt sm y;subst e
   h hlen:ps.length≤i:=by
     have:=AZ bt (zS i);rw[AW] at this;rw[hT.1,be];e this
   r step i x σ' _ hlt hv p sm (fun v σ2 H4=>∃ xs,H4 D=some (.lst xs)∧xs.length < sizeLine∧Pσ σ2∧∃ ps,af H (upd H4 D (.lst (xs++[v])))∧upd H4 D (.lst (xs++[v])) D=some (.lst (ps.map V.ref))∧cm (hide (upd H4 D (.lst (xs++[v]))) D) ps (((zS (i+1)).filter bt).map out)) (fun σ2 H4=>Pσ σ2∧∃ ps,af H H4∧H4 D=some (.lst (ps.map V.ref))∧cm (hide H4 D) ps (((zS (i+1)).filter bt).map out)) (fun hb t σ2 p2 ht=>?_) (fun hb σ2 p2=>⟨p2,ps,sm,hHD,?_⟩)
   . h htD:t≠D:=fun e=>by rw[e,hHD] at ht;cases ht
     r⟨ps.map V.ref,by rw[ai (Ne.symm htD)];e hHD,by rw[be];m,p2,ps++[t],(sm.step (sm.free ht)).step hD,by rw[ac,zQ];rfl,?_⟩;rw[Bb,AQ,AV (by simpa using hb),Bc,zQ,Bp,ee];e(cm.same (af.hide (af.updN ht)) hT).snoc (by rw[aY htD];e ac)
   . rw[Bb,AQ,BE (by simpa using hb),Bc,AK];e hT
 . h e:i=n:=by m
   subst e;e .inl ⟨S.stop _ sm,fin ps H' sm hHD (hT.same bM)⟩
noncomputable def iJ (C cN:Addr):Sp:=fun vs H Q E=>∃ (x:Addr)(ss:List Str)(bs:List (Str×List Str)) (z:Str),vs=[.ref x,.str z]∧bx H C x ss bs∧aP ss bs∧Shw z∧(z∈bs.map (·.1)→Q .non H)∧(z∉bs.map (·.1)→E (.ref cN) none H)
set_option hygiene false in
local macro "fx " s:term:tactic=>`(tactic| (refine F.okX $s (fun vs H Q E h=>by repeat (first | (obtain⟨rfl,_⟩:=h;rfl) | obtain⟨_,h⟩:=h)) ?_;intro cdv A outer s H vs Q E hr h))
þ pW {C f cN:Addr}{fd:FuncData}(F:Fun K "check_bath" "Book.check_bath" jy f fd)(c:Cls K C)(nT:NoAttr K C "tables")(XN:ExcC K cN)(mN:mg "NoBath"=§cN):aW P w K mg base (CX1 P w) 1 f fd ["self", "bath"] (iJ C cN):=by
 fx ot;o⟨x,ss,bs,z,rfl,⟨dx,t,d,so,h1,h2,h3,h4,h5⟩,B,hz,q,qe⟩:=h;h hu:=eF hr;r⟨_,ah (aC (fk (dq hu (pv 1) (bD (pv 0) rfl))) (ah (bB rfl rfl mN XN.exc zZ (aa (fh (pv 1)) ae) dk)) ao),?_⟩
 try dsimp only[aE,aO]
 by_cases hm:z∈bs.map (·.1)
 . o⟨b,hb,rfl⟩:=List.mem_map.mp hm;o⟨r,hg,hr⟩:=gQ.get B h5 hb;w;e⟨C,dx,_,h1,c,nT,_,cT,d,rfl,_,hg,q hm⟩
 . o⟨ds,e1,e2,e3⟩:=h5;w;r⟨C,dx,_,h1,c,nT,_,cT,d,rfl,none,.inl ⟨_,Sum.inr z,e1,rfl,(bX _ _ _ hm).symm⟩,?_⟩;e⟨hz.1,hz.2,fun y=>⟨by decide,qe hm⟩⟩
noncomputable def kJ (C cS:Addr):Sp:=fun vs H Q E=>∃ (x:Addr)(ss:List Str)(bs:List (Str×List Str)) (y:Str),vs=[.ref x,.str y]∧bx H C x ss bs∧Shw y∧(y∈ss→Q .non H)∧(y∉ss→E (.ref cS) none H)
þ nL {C f cS:Addr}{fd:FuncData}(F:Fun K "check_shade" "Book.check_shade" gZ f fd)(c:Cls K C)(nO:NoAttr K C "order")(XS:ExcC K cS)(mS:mg "NoShade"=§cS):aW P w K mg base (CX1 P w) 1 f fd ["self", "shade"] (kJ C cS):=by
 fx lR;o⟨x,ss,bs,y,rfl,⟨dx,t,d,so,h1,h2,h3,h4,h5⟩,hy,q,qe⟩:=h;r⟨_,ah (aC (ap cG (pv 1) (bD (pv 0) rfl) (by with_unfolding_all rfl)) (ah (bB rfl rfl mS XS.exc zZ (aa (fh (pv 1)) ae) dk)) ao),?_⟩
 try dsimp only[aE,aO]
 by_cases hm:y∈ss
 . h hyo:y∈so:=h3.mem_iff.mpr hm;w;r⟨C,dx,_,h1,c,nO,_,fQ,t,rfl,_,.inr (SqT.of h2),rfl,cR so,?_⟩;rw[da,decide_eq_true hyo];e q hm
 . h hyo:y∉so:=fun h=>hm (h3.mem_iff.mp h);w;r⟨C,dx,_,h1,c,nO,_,fQ,t,rfl,_,.inr (SqT.of h2),rfl,cR so,?_⟩;rw[da,decide_eq_false hyo];e⟨hy.1,hy.2,fun w=>⟨by decide,qe hm⟩⟩
noncomputable def GN (ws:List Str):Prop:=ws.Nodup∧∀ x∈ws,bc x=true
noncomputable def GO (ss os:List Str):Prop:=os.length=ss.length∧∀ x∈os,x∈ss
structure GB (ss:List Str)(bs:List (Str×List Str)):Prop where
 b8:bs.length≤8
 gn:GN (bs.map (·.1))
 go:∀ b∈bs,GO ss b.2
structure GS (ss:List Str):Prop where
 s1:1≤ss.length
 s12:ss.length≤12
 gn:GN ss
structure pe (ss:List Str)(bs:List (Str×List Str)):Prop where
 sl:ss.length≤100
 sh:∀ x∈ss,Shw x
 bl:bs.length≤100
 bh:∀ b∈bs,Shw b.1
 ol:∀ b∈bs,b.2.length≤100
 oh:∀ b∈bs,∀ x∈b.2,Shw x
þ aP.of {ss:List Str}{bs:List (Str×List Str)}(X:pe ss bs)(a:GS ss)(b:GB ss bs):aP ss bs :=
 ⟨a.s1,a.s12,a.gn.1,a.gn.2,X.sh,b.b8,b.gn.1,fun x hx=>b.gn.2 _ (Aj hx),X.bh,fun x hx=>(b.go x hx).1,fun x hx=>(b.go x hx).2⟩
þ aP.txt {ss:List Str}{bs:List (Str×List Str)}(B:aP ss bs):pe ss bs :=
 ⟨by have:=B.s12;m,B.snw,by have:=B.b8;m,B.bnw,fun b hb=>by have:=B.s12;rw[B.bln b hb];m,fun b hb x hx=>B.snw x (B.bin b hb x hx)⟩
þ aP.gs {ss:List Str}{bs:List (Str×List Str)}(B:aP ss bs):GS ss:=⟨B.s1,B.s12,B.snd,B.snm⟩
þ aP.gb {ss:List Str}{bs:List (Str×List Str)}(B:aP ss bs):GB ss bs :=
 ⟨B.b8,⟨B.bnd,fun x hx=>by o⟨b,hb,rfl⟩:=List.mem_map.mp hx;e B.bnm b hb⟩,fun b hb=>⟨B.bln b hb,B.bin b hb⟩⟩
þ oM:∀ (l acc:List Str),(∀ x∈l.foldl ej acc,x∈acc∨x∈l)∧(acc.Nodup→(l.foldl ej acc).Nodup)∧(l.foldl ej acc).length≤acc.length+l.length
 | [],acc=>⟨fun x hx=>.inl hx,fun h=>h,zN _⟩
 | y::l,acc=>by
   o⟨h1,h2,h3⟩:=oM l (ej acc y);rw[BB];r⟨fun x hx=>?_,fun hd=>h2 ?_,?_⟩
   . rcases h1 x hx with q | q
     . unfold ej at q
       split at q
       . e .inl q
       . rcases List.mem_append.mp q with q | q
         . e .inl q
         . rw[List.mem_singleton.mp q];e .inr zV
     . e .inr (zX _ q)
   . unfold ej
     split
     . e hd
     . rename_i hn;e gR hd hn
   . have:=ou acc y;rw[Av];m
þ wr {l:List Str}(h:¬l.Nodup):(dP l).length≠l.length:=fun e=>h (by
 h key:∀ (l acc:List Str),acc.Nodup→(l.foldl ej acc).length=acc.length+l.length→(acc++l).Nodup:=by
   intro l
   induction l with
   | nil=>intro acc hd _;rw[AK];e hd
   | cons y l ih =>
     intro acc hd he;rw[BB,Av] at he;by_cases hy:y∈acc
     . h e1:ej acc y=acc:=by unfold ej;rw[if_pos hy]
       rw[e1] at he;have:=(oM l acc).2.2;m
     . h e1:ej acc y=acc++[y]:=by unfold ej;rw[if_neg hy]
       rw[e1] at he;have:=ih (acc++[y]) (gR hd hy) (by rw[he,zL,zR];m);rw[Be] at this;e this
 e key l [] Cr (by unfold dP at e;rw[e,BR,Nat.zero_add]))
noncomputable def iL (K:PySem.W.Frag)(cB:Addr):Sp:=fun vs H Q E=>∃ (l:Addr)(ws:List Str),vs=[.ref l]∧SqL K H l (ws.map V.str)∧ws.length≤100∧(∀ x∈ws,Shw x)∧(GN ws→∀ H',af H H'→Q .non H')∧(¬GN ws→∀ H',af H H'→E (.ref cB) none H')
þ qO {f fG cB:Addr}{fd fdG:FuncData}(F:Fun K "check_names" "check_names" jw f fd)(T:Txt mg)(XB:ExcC K cB)(mB:mg "BadBook"=§cB)(GG:Cl P w K mg base CX0 1 "good_name" ["text"] me fG fdG) :
   aW P w K mg base (CX1 P w) 2 f fd ["texts"] (iL K cB):=by
 fx hV;o⟨l,ws,rfl,hl,hlen,hsh,q,qe⟩:=h
 r⟨_,aN (bC PassesOwn.leaving rfl (ba (pv 0)) (aw (i:=1) hV.nd rfl (Or.inl rfl))
     (ah (aC (bW (bF (pC GG hr aA (aa (pv 1) ae)))) (ah (bB rfl rfl mB XB.exc zZ (aa (fh (pv 1)) ae) dk)) ao)))
   (ah (aC (ap i6 (al lg (by rfl) T.len zT (aa (cw (oV rfl) (by rfl) T.set (by d) (aa (pv 0) ae)) ae)) (al av (by rfl) T.len zT (aa (pv 0) ae)) (ax _)) (ah (bB rfl rfl mB XB.exc zZ (aa aB ae) dk)) ao)),?_⟩
 try dsimp only[aE,aO]
 h hs:=aM;w;r⟨⟨_,hl⟩,?_⟩;r bj (H0:=H) (aH hl) (fun i σ' H'=>∃ o,σ'=[§l,o]∧af H H'∧∀ x∈ws.take i,bc x=true) ⟨none,rfl,af.refl H,fun x hx=>by simp at hx⟩ (fun _ _ _ _ ⟨_,_,h,_⟩=>h) ?_ ?_
 . rintro i x σ H' hi hx ⟨o,rfl,hS,hb⟩;rw[zK] at hx;o⟨z,hz,rfl⟩:=Option.map_eq_some_iff.mp hx;h hzm:=zO hz;h hzs:=hsh z hzm;w;r⟨z,rfl,hzs.1,fun H2 S2=>?_⟩;by_cases hg:bc z=true
   . rw[hg];r⟨_,rfl,az (fun h=>by cases h) (fun _=>⟨hS.trans S2,fun x hx=>?_⟩)⟩;rw[bw hz] at hx
     rcases List.mem_append.mp hx with hx | hx
     . e hb x hx
     . rw[List.mem_singleton.mp hx];e hg
   . h hg':bc z=false:=by simpa using hg
     rw[hg'];e⟨_,rfl,az (fun _=>⟨hzs.1,hzs.2,fun y=>⟨by decide,qe (fun g=>hg (g.2 z hzm)) _ (hS.trans S2)⟩⟩) (fun h=>absurd rfl h)⟩
 . rintro σ H' ⟨o,rfl,hS,hb⟩;rw[be,AE] at hb;w;r⟨_,hS.seq hl,by m,fun p hp=>⟨_,ac,_,.inl ((hS.step (hS.free hp)).seq hl),rfl,?_⟩⟩;rw[be];by_cases hnd:ws.Nodup
   . rw[ra hnd];e az (fun h=>absurd rfl h) (fun _=>q ⟨hnd,hb⟩ _ (hS.step (hS.free hp)))
   . have:=wr hnd;e az (fun _=>⟨by decide,qe (fun g=>hnd g.1) _ (hS.step (hS.free hp))⟩) (fun h=>absurd (by m:(dP ws).length=ws.length) this)
noncomputable def kH (K:PySem.W.Frag)(cB:Addr):Sp:=fun vs H Q E=>∃ (l:Addr)(ws:List Str),vs=[.ref l]∧SqL K H l (ws.map V.str)∧ws.length≤100∧(∀ x∈ws,Shw x)∧(GS ws→∀ H',af H H'→Q .non H')∧(¬GS ws→∀ H',af H H'→E (.ref cB) none H')
þ og {f fG cB:Addr}{fd fdG:FuncData}(F:Fun K "check_shades" "check_shades" gU f fd)(T:Txt mg)(TB:ue mg)(XB:ExcC K cB)(mB:mg "BadBook"=§cB)(GG:Cl P w K mg base (CX1 P w) 2 "check_names" ["texts"] (iL K cB) fG fdG) :
   aW P w K mg base (CX1 P w) 3 f fd ["shades"] (kH K cB):=by
 fx lh;o⟨l,ws,rfl,hl,hlen,hsh,q,qe⟩:=h;o⟨tg,hms⟩:=TB.mostS
 r⟨_,aN (aC (ap cX (al av (by rfl) T.len zT (aa (pv 0) ae)) ag (ax _)) (ah (bB rfl rfl mB XB.exc zZ (aa aB ae) dk)) ao)
   (aN (aC (ap fJ (al av (by rfl) T.len zT (aa (pv 0) ae)) (bf (v:=.int 12) rfl hms ⟨_,rfl⟩) (ax _)) (ah (bB rfl rfl mB XB.exc zZ (aa aB ae) dk)) ao)
   (ah (aR (pC GG hr bE (aa (pv 0) ae))))),?_⟩
 try dsimp only[aE,aO]
 h hs:=aM;w;r⟨_,.inl hl,?_⟩;rw[be];r az (fun h=>⟨by decide,qe (fun g=>by have:=g.s1;m) H (af.refl H)⟩) (fun h1=>⟨_,.inl hl,?_⟩);rw[be];r az (fun h=>⟨by decide,qe (fun g=>by have:=g.s12;m) H (af.refl H)⟩) (fun h2=>?_);e⟨l,ws,rfl,hl,hlen,hsh,fun g H' S=>q ⟨by m,by m,g⟩ H' S,fun g H' S=>qe (fun g2=>g g2.gn) H' S⟩
noncomputable def oE (K:PySem.W.Frag)(cB:Addr):Sp:=fun vs H Q E=>∃ (l lo:Addr)(ss os:List Str),vs=[.ref l,.ref lo]∧SqL K H l (ss.map V.str)∧SqL K H lo (os.map V.str)∧os.length≤100∧(∀ x∈os,Shw x)∧(GO ss os→∀ H',af H H'→Q .non H')∧(¬GO ss os→∀ H',af H H'→E (.ref cB) none H')
þ tm {f cB:Addr}{fd:FuncData}(F:Fun K "check_outs" "check_outs" nw f fd)(T:Txt mg)(XB:ExcC K cB)(mB:mg "BadBook"=§cB) :
   aW P w K mg base (CX1 P w) 1 f fd ["shades", "outs"] (oE K cB):=by
 fx jv;o⟨l,lo,ss,os,rfl,hl,hlo,hlen,hsh,q,qe⟩:=h
 r⟨_,aN (aC (ap i6 (al av (by rfl) T.len zT (aa (pv 1) ae)) (al av (by rfl) T.len zT (aa (pv 0) ae)) (ax _)) (ah (bB rfl rfl mB XB.exc zZ (aa aB ae) dk)) ao)
   (ah (bC PassesOwn.leaving rfl (ba (pv 1)) (aw (i:=2) jv.nd rfl (Or.inl rfl))
     (ah (aC (ap cG (pv 2) (pv 0) (by with_unfolding_all rfl)) (ah (bB rfl rfl mB XB.exc zZ (aa (fh (pv 2)) ae) dk)) ao)))),?_⟩
 try dsimp only[aE,aO]
 h hs:=aM;w;r⟨_,.inl hlo,_,.inl hl,rfl,?_⟩;rw[be,be];r az (fun h=>⟨by decide,qe (fun g=>h (by rw[g.1])) H (af.refl H)⟩) (fun hle=>⟨⟨_,hlo⟩,?_⟩)
 h hle':os.length=ss.length:=by m
 r bj (H0:=H) (aH hlo) (fun i σ' H'=>∃ o,σ'=[§l,§lo,o]∧H'=H∧∀ x∈os.take i,x∈ss) ⟨none,rfl,rfl,fun x hx=>by simp at hx⟩ (fun _ _ _ _ ⟨_,_,h,_⟩=>by rw[h];e af.refl _) ?_ ?_
 . rintro i x σ H' hi hx ⟨o,rfl,rfl,hb⟩;rw[zK] at hx;o⟨z,hz,rfl⟩:=Option.map_eq_some_iff.mp hx;h hzm:=zO hz;w;r⟨_,.inl hl,rfl,cR ss,?_⟩;rw[da];by_cases hin:z∈ss
   . rw[decide_eq_true hin];intro x hx;rw[bw hz] at hx
     rcases List.mem_append.mp hx with hx | hx
     . e hb x hx
     . rw[List.mem_singleton.mp hx];e hin
   . rw[decide_eq_false hin];e⟨(hsh z hzm).1,(hsh z hzm).2,fun y=>⟨by decide,qe (fun g=>hin (g.2 z hzm)) _ (af.refl _)⟩⟩
 . rintro σ H' ⟨o,rfl,rfl,hb⟩;rw[be,AE] at hb;e q ⟨hle',hb⟩ _ (af.refl _)
noncomputable def lE (K:PySem.W.Frag)(cB:Addr):Sp:=fun vs H Q E=>∃ (l lb:Addr)(ss:List Str)(bs:List (Str×List Str)),vs=[.ref l,.ref lb]∧SqL K H l (ss.map V.str)∧iq H lb bs∧pe ss bs∧(GB ss bs→∀ H',af H H'→Q .non H')∧(¬GB ss bs→∀ H',af H H'→E (.ref cB) none H')
þ qq {f fG fO cB:Addr}{fd fdG fdO:FuncData}(F:Fun K "check_baths" "check_baths" ju f fd)(T:Txt mg)(TB:ue mg)(XB:ExcC K cB)(mB:mg "BadBook"=§cB)(GG:Cl P w K mg base (CX1 P w) 2 "check_names" ["texts"] (iL K cB) fG fdG)
   (GO_:Cl P w K mg base (CX1 P w) 1 "check_outs" ["shades", "outs"] (oE K cB) fO fdO) :
   aW P w K mg base (CX1 P w) 3 f fd ["shades", "baths"] (lE K cB):=by
 fx eQ;o⟨l,lb,ss,bs,rfl,hl,⟨ps,hlb,hpl,hB⟩,X,q,qe⟩:=h;o⟨tg,hms⟩:=TB.mostB;h hr1:=hr.mono (j:=1) (by m)
 r⟨_,aN (aC (ap fJ (al av (by rfl) T.len zT (aa (pv 1) ae)) (bf (v:=.int 8) rfl hms ⟨_,rfl⟩) (ax _)) (ah (bB rfl rfl mB XB.exc zZ (aa aB ae) dk)) ao)
   (aj (aR (pC GG hr bE (aa (fE (N':=["name", "outs"]) (pk:=[none,none]) rfl (bZ.of (by rfl)) (ba (pv 1)) (fun s H ex=>(cC (n:=2) rfl (aG (aw (i:=0) (by show(["name", "outs"]:List Str).Nodup;d) rfl (Or.inl rfl)) (aG (aw (i:=1) (by show(["name", "outs"]:List Str).Nodup;d) rfl (Or.inl rfl)) bV)):PG _ _ (kC K 2 (bQ (bG 0) (bQ (bG 1) iQ)))))
       (fun s H ex=>pv 0)) ae)))
   (ah (bC PassesOwn.leaving rfl (ba (pv 1)) (cC (n:=2) rfl (aG (aw (i:=2) eQ.nd rfl (Or.inl rfl)) (aG (aw (i:=3) eQ.nd rfl (Or.inl rfl)) bV)))
     (ah (aR (pC GO_ hr1 bE (aa (pv 0) (aa (pv 3) ae)))))))),?_⟩
 try dsimp only[aE,aO]
 h hs:=aM;h hbl:=X.bl;w;r⟨_,.inl (SqL.of hlb),?_⟩;rw[be];r az (fun h=>⟨by decide,qe (fun g=>by have:=g.b8;m) H (af.refl H)⟩) (fun h8=>?_)
 h hb8:bs.length≤8:=by m
 r cut (fun σ' H'=>σ'=[§l,§lb,none,none]∧af H H'∧GN (bs.map (·.1))) ?_ ?_
 . w;r⟨⟨_,SqL.of hlb⟩,fun D hD=>?_⟩;r cF (aH (SqL.of hlb)) (by rw[be];m) hD (fun σ=>∃ o1 o2,σ=[o1,o2]) (fun k=>V.str (bs.getD k (⟨#[]⟩,[])).1) ⟨none,none,rfl⟩ ?_ ?_
   . rintro k x σ' H3 hk hx ⟨o1,o2,rfl⟩ hS3 R hR;rw[zK] at hx;o⟨y,hy,rfl⟩:=Option.map_eq_some_iff.mp hx;obtain⟨b,hb⟩:∃ b,bs[k]?=some b:=⟨_,zJ (by rw[be] at hk;m)⟩;o⟨lo,ht,hlo⟩:=hB k y b hy hb;r d7 (hS3 _ _ ht) ?_;w
     h e:(bs.getD k (⟨#[]⟩,[]))=b:=by rw[zM,hb];rfl
     have:=hR [some (V.str b.1),some (V.ref lo)] ⟨_,_,rfl⟩;rw[e] at this;e this
   . h e:(zS (ps.map V.ref).length).map (fun k=>V.str (bs.getD k (⟨#[]⟩,[])).1)=(bs.map (·.1)).map V.str:=by
       rw[Ao];r cE _ bs _ _ (by rw[be,hpl]) fun k x hx=>?_;rw[zM,hx];rfl
     rw[e];r⟨D,bs.map (·.1),rfl,SqL.of ac,by rw[be];m,fun x hx=>?_,fun g H' S'=>⟨(af.updN hD).trans S',g⟩,fun g H' S'=>qe (fun g2=>g g2.gn) H' ((af.updN hD).trans S')⟩;o⟨b,hb,rfl⟩:=List.mem_map.mp hx;e X.bh b hb
 rintro σ1 H1 ⟨rfl,S1,hgn⟩;w;r⟨⟨_,SqL.of (S1 _ _ hlb)⟩,?_⟩;r bj (H0:=H) (aH (SqL.of hlb)) (fun i σ' H'=>∃ o2 o3,σ'=[§l,§lb,o2,o3]∧af H H'∧∀ b∈bs.take i,GO ss b.2) ⟨none,none,rfl,S1,fun x hx=>by simp at hx⟩ (fun _ _ _ _ ⟨_,_,_,h,_⟩=>h) ?_ ?_
 . rintro i x σ H' hi hx ⟨o2,o3,rfl,hS,hall⟩;rw[zK] at hx;o⟨y,hy,rfl⟩:=Option.map_eq_some_iff.mp hx;obtain⟨b,hb⟩:∃ b,bs[i]?=some b:=⟨_,zJ (by rw[be] at hi;m)⟩;o⟨lo,ht,hlo⟩:=hB i y b hy hb;h hbm:b∈bs:=zO hb;r d7 (hS _ _ ht) ?_;w;r⟨l,lo,ss,b.2,rfl,hS.seq hl,SqL.of (hS _ _ hlo),X.ol b hbm,X.oh b hbm,fun g H2 S2=>⟨hS.trans S2,fun x hx=>?_⟩,fun g H2 S2=>qe (fun g2=>g (g2.go b hbm)) H2 (hS.trans S2)⟩;rw[bw hb] at hx
   rcases List.mem_append.mp hx with hx | hx
   . e hall x hx
   . rw[List.mem_singleton.mp hx];e g
 . rintro σ H' ⟨o2,o3,rfl,hS,hall⟩;rw[be,hpl,AE] at hall;e q ⟨hb8,hgn,hall⟩ _ hS
noncomputable def cW (H H':Hp):Hp:=fun a=>match H a with | none=>H' a | some _=>none
þ eV {H H':Hp}{a:Addr}(h:H a=none):cW H H' a=H' a:=by
 unfold cW;rw[h]
þ lv {H H':Hp}:af (cW H H') H':=fun a o e=>by
 unfold cW at e
 split at e
 . e e
 . cases e
þ gL {H G H':Hp}(S:af H G):af (cW G H') (cW H H'):=fun a o e=>by
 cases hG:G a with
 | none=>rw[eV hG] at e;rw[eV (S.free hG)];e e
 | some u=>unfold cW at e;rw[hG] at e;cases e
noncomputable def nA (K:PySem.W.Frag)(C cB:Addr):Sp:=fun vs H Q E=>∃ (x dx l lb:Addr)(ss:List Str)(bs:List (Str×List Str)),vs=[.ref x,.ref l,.ref lb]∧H x=some (.ins C dx [])∧SqL K H l (ss.map V.str)∧iq H lb bs∧pe ss bs ∧
 (aP ss bs→∀ H',af (hide H x) H'→bx (cW (hide H x) H') C x ss bs→Q .non H')∧(¬aP ss bs→∀ H',af H H'→E (.ref cB) none H')
þ uo {C f fS fB cB:Addr}{fd fdS fdB:FuncData}(F:Fun K "__init__" "Book.__init__" sd f fd)(T:Txt mg)(c:Cls K C)(nO:NoAttr K C "order")(nT:NoAttr K C "tables")
   (GS:Cl P w K mg base (CX1 P w) 3 "check_shades" ["shades"] (kH K cB) fS fdS)
   (GB:Cl P w K mg base (CX1 P w) 3 "check_baths" ["shades", "baths"] (lE K cB) fB fdB) :
   aW P w K mg base (CX1 P w) 4 f fd ["self", "shades", "baths"] (nA K C cB):=by
 fx iG;o⟨x,dx,l,lb,ss,bs,rfl,hx,hl,hb,X,q,qe⟩:=h;h hu:=eF hr
 r⟨_,aj (aR (pC GS hr bE (aa (pv 1) ae)))
   (aj (aR (pC GB hr bE (aa (pv 1) (aa (pv 2) ae))))
   (aj (eI (pv 0) (cw gx (by rfl) T.tuple (by d) (aa (al fe (by rfl) T.sorted (by d) (aa (pv 1) ae)) ae)) rfl)
   (aj (eI (pv 0) ed rfl)
   (ah (bC PassesOwn.leaving rfl (ba (pv 2)) (cC (n:=2) rfl (aG (aw (i:=3) iG.nd rfl (Or.inl rfl)) (aG (aw (i:=4) iG.nd rfl (Or.inl rfl)) bV)))
     (ah (dH hu (bD (pv 0) rfl) (pv 3) (j8 rfl (by rfl) T.dict (by rfl) T.zip (aa (pv 1) (aa (pv 4) ae))) rfl))))))),?_⟩
 try dsimp only[aE,aO]
 h hs:=aM;h hl0:=si hx hl;h hb0:=lX hx hb;generalize hH0:hide H x=H0 at hl0 hb0 q
 h SH:af H0 H:=by rw[←hH0];e bM
 h hx0:H0 x=none:=by rw[←hH0];unfold hide;rw[if_pos rfl]
 r cut (fun σ' H'=>σ'=[§x,§l,§lb,none,none]∧af H H'∧DM.GS ss) ?_ ?_
 . w;e⟨l,ss,rfl,hl,X.sl,X.sh,fun g H' S'=>⟨S',g⟩,fun g H' S'=>qe (fun B=>g B.gs) H' S'⟩
 rintro σ1 H1 ⟨rfl,S1,hgs⟩;r cut (fun σ' H'=>σ'=[§x,§l,§lb,none,none]∧af H H'∧DM.GB ss bs) ?_ ?_
 . w;e⟨l,lb,ss,bs,rfl,S1.seq hl,af.bths S1 hb,X,fun g H' S'=>⟨S1.trans S',g⟩,fun g H' S'=>qe (fun B=>g B.gb) H' (S1.trans S')⟩
 rintro σ2 H2 ⟨rfl,S2,hgb⟩;h B:aP ss bs:=aP.of X hgs hgb;h q:=q B;h hs12:=B.s12;r cut (fun σ' H'=>∃ t so,σ'=[§x,§l,§lb,none,none]∧af H0 H'∧H' x=some (.ins C dx [("order",.ref t)])∧H' t=some (.tup (so.map V.str))∧so.Perm ss∧Al so=true∧H0 t=none) ?_ ?_
 . w;h S02:af H0 H2:=SH.trans S2;h hx2:=S2 _ _ hx;r⟨ss,S2.seq hl,by m,fun p so hp hpm hso=>⟨_,.inl ⟨SqL.of ac,fun t ht=>?_⟩⟩⟩
   h hxp:x≠p:=fun e=>by rw[←e,hx2] at hp;cases hp
   h ht2:H2 t=none:=(af.updN hp).free ht
   h hxt:x≠t:=fun e=>by rw[←e,hx2] at ht2;cases ht2
   r⟨C,dx,[],by rw[ai hxt,ai hxp];e hx2,c,nO,by decide,((S02.step (S02.free hp)).step (S02.free ht2)).step hx0,t,by rw[ac,jI],so,?_,hpm,hso,S02.free ht2⟩;rw[ai (Ne.symm hxt)];e ac
 rintro σ3 H3 ⟨t,so,rfl,S3,hx3,ht3,hpm,hso,ht0⟩;r cut (fun σ' H'=>∃ d,σ'=[§x,§l,§lb,none,none]∧H3 d=none∧H'=upd (upd H3 d (.dK [])) x (.ins C dx [("order",.ref t),("tables",.ref d)])) ?_ ?_
 . w;intro d hd
   h hxd:x≠d:=fun e=>by rw[←e,hx3] at hd;cases hd
   e⟨C,dx,_,by rw[ai hxd];e hx3,c,nT,by rw[zR];decide,d,hd,by rw[i8]⟩
 rintro σ4 H4 ⟨d,rfl,hd3,rfl⟩
 h hxd:x≠d:=fun e=>by rw[←e,hx3] at hd3;cases hd3
 h htx:t≠x:=fun e=>by rw[e,hx3] at ht3;cases ht3
 h htd:t≠d:=fun e=>by rw[←e,ht3] at hd3;cases hd3
 h hd0:H0 d=none:=S3.free hd3;o⟨ps,hlb,hpl,hB⟩:=hb0;h hb8:=B.b8;h S4:af H0 (upd (upd H3 d (.dK [])) x (.ins C dx [("order",.ref t),("tables",.ref d)])):=(S3.step hd0).step hx0;w;r⟨⟨_,SqL.of (S4 _ _ hlb)⟩,?_⟩
 r bj (H0:=H0) (aH (SqL.of hlb)) (fun i σ' H'=>∃ (ds:List Addr)(o3 o4:Option V),σ'=[§x,§l,§lb,o3,o4]∧af H0 H'∧H' x=some (.ins C dx [("order",.ref t),("tables",.ref d)])∧H' t=some (.tup (so.map V.str)) ∧
   H' d=some (.dK (cb ((bs.map (·.1)).take i) (ds.map V.ref)))∧ds.length=i∧∀ (j:Nat) r b,ds[j]?=some r→bs[j]?=some b→hide H' d r=some (.dK (iE ss b))∧H0 r=none)
   ⟨[],none,none,rfl,S4,ac,(by rw[ai htx,ai htd];e ht3),(by rw[ai (Ne.symm hxd)];e ac),rfl,(by intro j r b h;simp at h)⟩ (fun _ _ _ _ ⟨_,_,_,_,h,_⟩=>h) ?_ ?_
 . rintro i y σ H' hi hy ⟨ds,o3,o4,rfl,hS,hHx,hHt,hHd,hdl,hD⟩;rw[zK] at hy;o⟨pr,hpr,rfl⟩:=Option.map_eq_some_iff.mp hy;rw[be,hpl] at hi;obtain⟨b,hb⟩:∃ b,bs[i]?=some b:=⟨_,zJ hi⟩;o⟨lo,ht,hlo⟩:=hB i pr b hpr hb;h hbm:b∈bs:=zO hb
   h hk:(bs.map (·.1))[i]?=some b.1:=by rw[zK,hb];rfl
   h hnk:b.1∉(bs.map (·.1)).take i:=eS B.bnd hk
   h hln:((bs.map (·.1)).take i).length=(ds.map V.ref).length:=by rw[Aa,be,be,hdl];m
   h hbl:b.2.length=ss.length:=B.bln b hbm;r d7 (hS _ _ ht) ?_;w;r⟨ss,hS.seq hl0,_,SqL.of (hS _ _ hlo),by rw[be];e hbl.symm,by m,fun r hr=>?_⟩;rw[jH B.snd]
   h hxr:x≠r:=fun e=>by rw[←e,hHx] at hr;cases hr
   h htr:t≠r:=fun e=>by rw[←e,hHt] at hr;cases hr
   h hrd:r≠d:=fun e=>by rw[e,hHd] at hr;cases hr
   r⟨C,dx,_,by rw[ai hxr];e hHx,c,nT,_,cT,d,rfl,_,.inl ⟨_,Sum.inr b.1,by rw[ai (Ne.symm hrd)];e hHd,rfl,by rw[fP hln,Aa];m,rfl⟩,(hS.step (hS.free hr)).step hd0,by rw[ai hxd,ai hxr];e hHx,by rw[ai htd,ai htr];e hHt,ds++[r],?_,by rw[zL,hdl];rfl,fun j r2 b2 hr2 hb2=>?_⟩
   . rw[ac,cZ _ (bX _ _ _ hnk),bw hk,zQ];e congrArg (fun z=>some (HO.dK z)) (eN b.1 (V.ref r) hln).symm
   . rw[ee];by_cases hj:j < i
     . rw[zU (by m)] at hr2;e⟨af.hide (af.updN hr) _ _ (hD j r2 b2 hr2 hb2).1,(hD j r2 b2 hr2 hb2).2⟩
     . h hj2:j=i:=by
         have:=(List.getElem?_eq_some_iff.mp hr2).1;rw[zL,hdl] at this;simp only[zR] at this;m
       subst hj2;rw[zP (by m),hdl,Ay] at hr2;cases hr2;rw[hb] at hb2;cases hb2;r⟨?_,hS.free hr⟩;rw[aY hrd,ac];rfl
 . rintro σ H' ⟨ds,o3,o4,rfl,hS,hHx,hHt,hHd,hdl,hD⟩;rw[be,hpl] at hHd hdl;r q H' hS ⟨dx,t,d,so,(eV hx0).trans hHx,(eV ht0).trans hHt,hpm,hso,ds,.inl ?_,hdl,fun j r b hr hb=>.inl ((eV (hD j r b hr hb).2).trans (bM _ _ (hD j r b hr hb).1))⟩;rw[eV hd0,hHd,AC (by rw[be];e zN _)]
þ wz {so:List Str}{n z:Str}{f:Str→Str}(hd:so.Nodup)(hz:z∈so):lkV so (n,so.map f) z=f z:=by
 o⟨i,hi⟩:=AF hz;h e:bJ (iE so (n,so.map f)) (Sum.inr z)=some (V.str (f z)):=dJ so ((so.map f).map V.str) i z _ hd hi (by rw[zK,zK,hi];rfl);unfold lkV;rw[e]
noncomputable def chB (ss so:List Str)(bs:List (Str×List Str)) (t:Str)(os:List Str) (n:Str):Str×List Str:=(n,if n=t then os else so.map (lkB ss bs n))
structure kZ (ss so ns:List Str)(bs:List (Str×List Str)):Prop where
 ps:so.Perm ss
 ts:Al so=true
 pn:ns.Perm (bs.map (·.1))
 tn:Al ns=true
þ vg {ss:List Str}{b:Str×List Str}{z:Str}(hd:ss.Nodup)(hl:b.2.length=ss.length)(hz:z∈ss):lkV ss b z∈b.2:=by
 o⟨i,hi⟩:=AF hz
 h hil:i < b.2.length:=by rw[hl];e(List.getElem?_eq_some_iff.mp hi).1
 h e:bJ (iE ss b) (Sum.inr z)=some (V.str b.2[i]):=dJ ss (b.2.map V.str) i z _ hd hi (by rw[zK,zJ hil];rfl);unfold lkV;rw[e];e AM hil
þ sW {ss so ns:List Str}{bs:List (Str×List Str)}{t:Str}{os:List Str}(B:aP ss bs)(h:kZ ss so ns bs)(hl:os.length=ss.length)(hin:∀ x∈os,x∈ss):aP so (ns.map (chB ss so bs t os)):=by
 h hsl:=h.ps.length_eq
 h hnl:ns.length=bs.length:=by rw[h.pn.length_eq,be]
 h e:(ns.map (chB ss so bs t os)).map (·.1)=ns:=by
   rw[Ao];e List.map_id ns
 r⟨by rw[hsl];e B.s1,by rw[hsl];e B.s12,h.ps.nodup_iff.mpr B.snd,fun x hx=>B.snm x (h.ps.mem_iff.mp hx),fun x hx=>B.snw x (h.ps.mem_iff.mp hx),by rw[be,hnl];e B.b8,by rw[e];e h.pn.nodup_iff.mpr B.bnd,fun b hb=>?_,fun b hb=>?_,fun b hb=>?_,fun b hb=>?_⟩
 . o⟨n,hn,rfl⟩:=List.mem_map.mp hb;o⟨b2,hb2,e2⟩:=List.mem_map.mp (h.pn.mem_iff.mp hn);show bc n=true;rw[←e2];e B.bnm b2 hb2
 . o⟨n,hn,rfl⟩:=List.mem_map.mp hb;o⟨b2,hb2,e2⟩:=List.mem_map.mp (h.pn.mem_iff.mp hn);show Shw n;rw[←e2];e B.bnw b2 hb2
 . o⟨n,hn,rfl⟩:=List.mem_map.mp hb;unfold chB;by_cases c:n=t
   . rw[if_pos c,hl,hsl]
   . rw[if_neg c,be]
 . o⟨n,hn,rfl⟩:=List.mem_map.mp hb;o⟨b2,hb2,e2⟩:=List.mem_map.mp (h.pn.mem_iff.mp hn);unfold chB;by_cases c:n=t
   . rw[if_pos c];e fun x hx=>h.ps.mem_iff.mpr (hin x hx)
   . rw[if_neg c];intro x hx;o⟨z,hz,rfl⟩:=List.mem_map.mp hx;rw[←e2,eD z B.bnd hb2];e h.ps.mem_iff.mpr (B.bin b2 hb2 _ (vg B.snd (B.bln b2 hb2) (h.ps.mem_iff.mp hz)))
þ wS {ss so ns:List Str}{bs:List (Str×List Str)}{t:Str}{os:List Str}(B:aP ss bs)(h:kZ ss so ns bs){n z:Str}(hz:z∈so):lkV so (chB ss so bs t os n) z=if n=t then lkV so (t,os) z else lkB ss bs n z:=by
 unfold chB;by_cases c:n=t
 . rw[if_pos c,if_pos c,c]
 . rw[if_neg c,if_neg c];e wz (h.ps.nodup_iff.mpr B.snd) hz
þ lP:ay ["self", "bath", "outs", "baths"] ["self", "bath", "outs"] (ar iu):=®
noncomputable def kR (K:PySem.W.Frag)(C cN cB:Addr):Sp:=fun vs H Q E=>∃ (x lu:Addr)(ss os:List Str)(bs:List (Str×List Str)) (z:Str),vs=[.ref x,.str z,.ref lu]∧bx H C x ss bs∧aP ss bs∧Shw z∧H lu=some (.lst (os.map V.str))∧os.length≤100∧(∀ v∈os,Shw v) ∧
 (z∉bs.map (·.1)→E (.ref cN) none H)∧(z∈bs.map (·.1)→¬GO ss os→∀ H',af H H'→E (.ref cB) none H')∧(z∈bs.map (·.1)→GO ss os→∀ y so ns H',H y=none→af H H'→kZ ss so ns bs→aP so (ns.map (chB ss so bs z os))→bx (cW H H') C y so (ns.map (chB ss so bs z os))→Q (.ref y) H')
þ oz {C f fI fC fS fB fTb cN cB:Addr}{fd fdI fdC fdS fdB fdTb:FuncData}(F:Fun K "changed" "Book.changed" iu f fd)(T:Txt mg)(c:Cls K C)(M:Mk K C fI)
   (GI:aW P w K mg base (CX1 P w) 4 fI fdI ["self", "shades", "baths"] (nA K C cB))(bI:eC K fdI ["self", "shades", "baths"] [])(mC:mg "Book"=§C)
   (GC:Cm P w K mg base (CX1 P w) 1 C "check_bath" ["self", "bath"] (iJ C cN) fC fdC)
   (GS:Cm P w K mg base CX0 1 C "shades" ["self"] (ix C) fS fdS)
   (GB:Cm P w K mg base CX0 1 C "baths" ["self"] (kO C) fB fdB)
   (GTb:Cm P w K mg base CX0 2 C "table" ["self", "bath"] (jE C) fTb fdTb) :
   aW P w K mg base (CX1 P w) 6 f fd ["self", "bath", "outs"] (kR K C cN cB):=by
 fx lP;o⟨x,lu,ss,os,bs,z,rfl,hbk,B,hz,hlu,hol,hsh,qn,qe,q⟩:=h;h hr1:=hr.mono (j:=1) (by m);h hr2:=hr.mono (j:=2) (by m)
 r⟨_,aj (aR (pM (pv 0) c GC hr1 bE (aa (pv 1) ae)))
   (aj (jz (i:=3) (N':=["name", "outs", "bath", "self"]) (pk:=[none,some 2,some 1,some 0]) lP.nd rfl (Or.inl rfl) rfl (bZ.of (by rfl)) (ba (pM0 (pv 0) c GB hr1 aA)) (fun s H ex=>aw (i:=0) (by show(["name", "outs", "bath", "self"]:List Str).Nodup;d) rfl (Or.inl rfl))
       (fun s H ex=>bS (aa (pv 0) (aa (vY (ap bO (pv 0) (pv 2) (ax _)) (pv 1) (pM (pv 3) c GTb hr2 aA (aa (pv 0) ae))) ae))))
   (ah (aq (mR M GI hr rfl mC bI .nil bE (aa (pM0 (pv 0) c GS hr1 aA) (aa (pv 3) ae)))))),?_⟩
 try dsimp only[aE,aO]
 h hs:=aM;h hb8:=B.b8;h hs12:=B.s12;o⟨dx,t,d',so,h1,h2,h3,h4,h5⟩:=hbk;h hbk:bx H C x ss bs:=⟨dx,t,d',so,h1,h2,h3,h4,h5⟩;r cut (fun σ' H'=>σ'=[§x,¢z,§lu,none]∧H'=H∧z∈bs.map (·.1)) ?_ ?_
 . w;r⟨dx,_,h1,bP (by d) (by d),x,ss,bs,z,rfl,hbk,B,hz,fun h=>⟨rfl,h⟩,qn⟩
 rintro σ1 H1 ⟨rfl,rfl,hzm⟩;o⟨b0,hb0,rfl⟩:=List.mem_map.mp hzm;r cut (fun σ' H'=>∃ lb ns,σ'=[§x,¢b0.1,§lu,§lb]∧af H1 H'∧ns.Perm (bs.map (·.1))∧Al ns=true∧iq H' lb (ns.map (chB ss so bs b0.1 os))) ?_ ?_
 . w;r⟨dx,_,h1,bP (by d) (by d),x,ss,bs,rfl,hbk,B,fun l ns hl hp2 hs2=>?_⟩
   h hnl:ns.length=bs.length:=by rw[hp2.length_eq,be]
   h Sa:af H1 (upd H1 l (.lst (ns.map V.str))):=af.updN hl;r⟨l,rfl,⟨_,SqL.of ac⟩,fun D hD=>?_⟩;generalize hGG:upd H1 l (.lst (ns.map V.str))=G at Sa hD
   h hGl:G l=some (.lst (ns.map V.str)):=by rw[←hGG];e ac
   h hD1:H1 D=none:=Sa.free hD
   r rW (H0:=G) (aH (SqL.of hGl)) (by rw[be];m) (fun i xs σ' H'=>(∃ o,σ'=[o,§lu,¢b0.1,§x])∧af G H'∧H' D=some (.lst xs)∧∃ qs:List Addr,xs=qs.map V.ref∧qs.length=i∧∀ (j:Nat) p n,qs[j]?=some p→ns[j]?=some n→jP (hide H' D) p (chB ss so bs b0.1 os n))
     ⟨⟨none,rfl⟩,af.updN hD,ac,[],rfl,rfl,(by intro j p b h;simp at h)⟩ (fun i xs σ' H' ⟨_,h1,_,qs,h2,h3,_⟩=>⟨h1,by rw[h2,be];e h3⟩) ?_ ?_
   . rintro i xs σ' H' y hi hy ⟨⟨o1,rfl⟩,hS,hHD,qs,rfl,hql,hqB⟩ R hR;rw[zK] at hy;o⟨n,hn,rfl⟩:=Option.map_eq_some_iff.mp hy;h hnm:n∈ns:=zO hn;o⟨b,hb,rfl⟩:=List.mem_map.mp (hp2.mem_iff.mp hnm);h S1':af H1 H':=Sa.trans hS
     h last:∀ (v8:Addr)(H3:Hp)(t:Addr),af H' H3→H3 t=none→H3 v8=some (.lst ((chB ss so bs b0.1 os b.1).2.map V.str))→v8≠D→R (.ref t) [¢b.1,§lu,¢b0.1,§x] (upd H3 t (.tup [.str b.1,.ref v8])):=fun v8 H3 t S3 ht hv hvD=>by
       h ht':H' t=none:=S3.free ht;h S4:=S3.step (o:=.tup [.str b.1,.ref v8]) ht'
       h htD:t≠D:=fun e=>by rw[e,hHD] at ht';cases ht'
       h hvt:v8≠t:=fun e=>by rw[←e,hv] at ht;cases ht
       r hR _ _ _ (S4 _ _ hHD) ⟨⟨_,rfl⟩,(hS.trans S4).step hD,ac,qs++[t],by rw[zQ];rfl,by rw[zL,hql];rfl,fun j p2 n2 hp2 hn2=>?_⟩;rw[ee];by_cases hj:j < i
       . rw[zU (by m)] at hp2;e af.bthAt (af.hide S4) (hqB j p2 n2 hp2 hn2)
       . h hj2:j=i:=by
           have:=(List.getElem?_eq_some_iff.mp hp2).1;rw[zL,hql] at this;simp only[zR] at this;m
         subst hj2;rw[zP (by m),hql,Ay] at hp2;cases hp2;rw[hn] at hn2;cases hn2;r⟨v8,?_,?_⟩
         . rw[aY htD];e ac
         . rw[aY hvD,ai hvt];e hv
     w;r⟨rfl,az (fun hc=>⟨by m,fun t ht=>?_⟩) (fun hc=>?_)⟩
     . r last lu H' t (af.refl _) ht ?_ (fun e=>by rw[e,hD1] at hlu;cases hlu);unfold chB;rw[if_pos hc];e S1' _ _ hlu
     . r⟨dx,_,S1' _ _ h1,bP (by d) (by d),x,ss,bs,b,rfl,af.book S1' hbk,B,hb,fun l2 so2 hl2 hp3 hs3=>⟨by m,fun t ht=>?_⟩⟩;h e2:so2=so:=cA hs3 h4 (hp3.trans h3.symm);subst e2;r last l2 _ t (af.updN hl2) ht ?_ (fun e=>by rw[e,hHD] at hl2;cases hl2);unfold chB;rw[if_neg hc,ac];h e3:lkB ss bs b.1=lkV ss b:=funext fun z=>eD z B.bnd hb;rw[e3]
   . rintro xs σ' H' ⟨_,hS,hHD,qs,rfl,hql,hqB⟩;rw[be] at hql;r⟨Sa.trans hS,ns,hp2,hs2,qs,hHD,by rw[be];e hql,fun i p b hp hb=>?_⟩;rw[zK] at hb;o⟨n,hn,rfl⟩:=Option.map_eq_some_iff.mp hb;e af.bthAt bM (hqB i p n hp hn)
 rintro σ2 H2 ⟨lb,ns,rfl,S2,hns,hsn,hB2⟩;h CI:kZ ss so ns bs:=⟨h3,h4,hns,hsn⟩;w;r⟨dx,_,S2 _ _ h1,bP (by d) (by d),x,ss,bs,rfl,af.book S2 hbk,B,fun l so2 hl hp3 hs3 y dy hy hdy hne=>?_⟩;h e2:so2=so:=cA hs3 h4 (hp3.trans h3.symm);subst e2;generalize hGG:upd H2 l (.lst (so2.map V.str))=G at hy hdy
 h hGl:G l=some (.lst (so2.map V.str)):=by rw[←hGG];e ac
 h Sa:af H2 G:=by rw[←hGG];e af.updN hl
 h S5:af G (upd (upd G dy (.own y)) y (.ins C dy [])):=(af.updN hdy).step hy;h hsl:so2.length=ss.length:=h3.length_eq
 h hnl:ns.length=bs.length:=by rw[hns.length_eq,be]
 h XT:pe so2 (ns.map (chB ss so2 bs b0.1 os)):=by
   r⟨by m,fun v hv=>B.snw v (h3.mem_iff.mp hv),by rw[be];m,fun b hb=>?_,fun b hb=>?_,fun b hb v hv=>?_⟩
   . o⟨n,hn,rfl⟩:=List.mem_map.mp hb;o⟨b2,hb2,e2⟩:=List.mem_map.mp (hns.mem_iff.mp hn);show Shw n;rw[←e2];e B.bnw b2 hb2
   . o⟨n,hn,rfl⟩:=List.mem_map.mp hb;unfold chB;by_cases e:n=b0.1
     . rw[if_pos e];e hol
     . rw[if_neg e,be];m
   . o⟨n,hn,rfl⟩:=List.mem_map.mp hb;unfold chB at hv;by_cases e:n=b0.1
     . rw[if_pos e] at hv;e hsh v hv
     . rw[if_neg e] at hv;o⟨u,hu,rfl⟩:=List.mem_map.mp hv;o⟨b2,hb2,rfl⟩:=List.mem_map.mp (hns.mem_iff.mp hn);rw[eD u B.bnd hb2];e B.snw _ (B.bin b2 hb2 _ (vg B.snd (B.bln b2 hb2) (h3.mem_iff.mp hu)))
 h S6:af H1 (hide (upd (upd G dy (.own y)) y (.ins C dy [])) y):=(S2.trans Sa).trans (fun u o e=>by
   rw[aY (aF e hy)];e S5 u o e)
 h hgo:aP so2 (ns.map (chB ss so2 bs b0.1 os))→GO ss os:=fun B2=>by
   h hm:(chB ss so2 bs b0.1 os b0.1)∈ns.map (chB ss so2 bs b0.1 os):=Aj (hns.mem_iff.mpr (Aj hb0))
   h e1:(chB ss so2 bs b0.1 os b0.1).2=os:=by unfold chB;rw[if_pos rfl]
   h l1:=B2.bln _ hm;h l2:=B2.bin _ hm;rw[e1] at l1 l2;e⟨by m,fun v hv=>h3.mem_iff.mp (l2 v hv)⟩
 r⟨y,dy,l,lb,so2,ns.map (chB ss so2 bs b0.1 os),rfl,ac,SqL.of (S5 _ _ hGl),af.bths (Sa.trans S5) hB2,XT,fun B2 H3 S3 hbk=>⟨rfl,q hzm (hgo B2) y so2 ns H3 ((S2.trans Sa).free hy) (S6.trans S3) CI B2 (af.book (gL S6) hbk)⟩,fun nB H3 S3=>qe hzm (fun g=>nB (sW B CI g.1 g.2)) H3 ((S2.trans (Sa.trans S5)).trans S3)⟩
abbrev Bk:=List Str×List (Str×List Str)
structure Hs where
 cl:List (Str×Str)
 day:Int
 dp:List (Int×Str×Str×Str)
 bk:List (Int×Bk)
noncomputable def clV (cl:List (Str×Str)):List (Key×V):=cl.map fun c=>(Sum.inr c.1,V.str c.2)
noncomputable def bkV (bk:List (Int×Bk))(rs:List Addr):List (Key×V):=(bk.zip rs).map fun e=>(Sum.inl e.1.1,V.ref e.2)
structure Ad where
 x:Addr
 dx:Addr
 d1:Addr
 ls:Addr
 db:Addr
noncomputable def hid (H:Hp)(A:Ad):Hp:=fun b=>if b=A.x∨b=A.d1∨b=A.ls∨b=A.db then none else H b
þ a9 {H:Hp}{A:Ad}:af (hid H A) H:=fun b o e=>by
 unfold hid at e
 split at e
 . cases e
 . e e
þ cj {H H':Hp}{A:Ad}(S:af H H'):af (hid H A) (hid H' A):=fun b o e=>by
 unfold hid at e ⊢
 split at e
 . cases e
 . rename_i h;rw[if_neg h];e S b o e
noncomputable def hfs (A:Ad) (day:Int):List (Str×V):=[("first_shades",.ref A.d1),("day_now",.int day),("standing",.ref A.ls),("books_from",.ref A.db)]
structure aJ (H:Hp)(C CB:Addr)(A:Ad)(W:Hp)(ss:List Str) (h:Hs):Prop where
 ins:H A.x=some (.ins C A.dx (hfs A h.day))
 cl:H A.d1=some (.dK (clV h.cl))
 dp:∃ ps:List Addr,H A.ls=some (.lst (ps.map V.ref))∧ps.length=h.dp.length∧∀ (i:Nat) p e,ps[i]?=some p→h.dp[i]?=some e→W p=some (.tup [.int e.1,.str e.2.1,.str e.2.2.1,.str e.2.2.2])
 bk:∃ rs:List Addr,H A.db=some (.dK (bkV h.bk rs))∧rs.length=h.bk.length∧∀ (i:Nat) r e,rs[i]?=some r→h.bk[i]?=some e→bx W CB r e.2.1 e.2.2
 ne:A.d1≠A.db
 sub:af W (hid H A)
noncomputable def dM (H W W':Hp):Prop:=af W W'∧∀ b o,W b=none→H b=some o→W' b=none
þ dM.refl (H W:Hp):dM H W W:=⟨af.refl W,fun _ _ h _=>h⟩
structure bK (ss:List Str)(names:List Str) (h:Hs):Prop where
 cnd:(h.cl.map (·.1)).Nodup
 csh:∀ c∈h.cl,c.2∈ss
 cnm:∀ c∈h.cl,bc c.1=true
 d1:1≤h.day
 d4:h.day≤400
 dl:h.dp.length≤1000
 dd:∀ e∈h.dp,1≤e.1∧e.1≤h.day
 ds:∀ e∈h.dp,e.2.2.2∈ss
 k1:∃ b r,h.bk=(1,b)::r
 ks:h.bk.Pairwise (fun a b=>a.1 < b.1)
 kd:∀ e∈h.bk,1≤e.1∧e.1≤h.day
 kl:h.bk.length≤400
 kb:∀ e∈h.bk,aP e.2.1 e.2.2∧(∀ n,n∈e.2.2.map (·.1)↔n∈names)∧∀ z,z∈e.2.1↔z∈ss
noncomputable def aV:List (Int×Bk)→Int→Bk
 | [],_=>([],[])
 | [e],_=>e.2
 | e::e2::r,d=>if e2.1≤d then aV (e2::r) d else e.2
þ jt:∀ (bk:List (Int×Bk)) (d M:Int)(b:Bk),bk.Pairwise (fun a b=>a.1 < b.1)→(M,b)∈bk→M≤d→(∀ e∈bk,e.1≤d→e.1≤M)→aV bk d=b
 | [],_,_,_,_,h,_,_=>by cases h
 | [e],d,M,b,_,h,_,_=>by rw[List.mem_singleton] at h;rw[←h];rfl
 | e::e2::r,d,M,b,hp,h,hM,hx=>by
   h hp2:=List.pairwise_cons.mp hp;unfold aV;by_cases h2:e2.1≤d
   . rw[if_pos h2]
     rcases List.mem_cons.mp h with h | h
     . h h3:=hp2.1 e2 zV;h h4:=hx e2 (zX _ zV) h2;rw[←h] at h3;e absurd h3 (by show ¬(M < e2.1);m)
     . e jt (e2::r) d M b hp2.2 h hM fun e he=>hx e (zX _ he)
   . rw[if_neg h2]
     rcases List.mem_cons.mp h with h | h
     . rw[←h]
     . rcases List.mem_cons.mp h with h | h
       . rw[←h] at h2;e absurd hM h2
       . have:=(List.pairwise_cons.mp hp2.2).1 _ h;e absurd hM (by show ¬(M≤d);h h5:e2.1 < M:=this;m)
þ er {cl:List (Str×Str)}{c:Str×Str}(hd:(cl.map (·.1)).Nodup)(h:c∈cl):bJ (clV cl) (Sum.inr c.1)=some (V.str c.2):=by
 induction cl with
 | nil=>cases h
 | cons a r ih =>
   rw[z8,BD] at hd;unfold clV bJ;rw[z8,A5];by_cases e:a.1=c.1
   . rcases List.mem_cons.mp h with h | h
     . rw[h];simp
     . e absurd (Aj (f:=(·.1)) h) (by rw[←e];e hd.1)
   . rcases List.mem_cons.mp h with h | h
     . e absurd (by rw[h]) e
     . have:=ih hd.2 h;unfold clV bJ at this;simp only[Sum.inr.injEq,e,decide_false];e this
þ bN {cl:List (Str×Str)}{z:Str}(h:z∉cl.map (·.1)):bJ (clV cl) (Sum.inr z)=none:=by
 unfold bJ clV;rw[Option.map_eq_none_iff,List.find?_eq_none];intro kv hkv;o⟨c,hc,rfl⟩:=List.mem_map.mp hkv;simp only[Sum.inr.injEq,decide_eq_true_eq];e fun e=>h (by rw[←e];e Aj hc)
þ gN {H:Hp}{A:Ad}{b:Addr}{o:HO}(h:hid H A b=some o):H b=some o∧b≠A.x∧b≠A.d1∧b≠A.ls∧b≠A.db:=by
 unfold hid at h
 split at h
 . cases h
 . rename_i hn;e⟨h,fun e=>hn (.inl e),fun e=>hn (.inr (.inl e)),fun e=>hn (.inr (.inr (.inl e))),fun e=>hn (.inr (.inr (.inr e)))⟩
þ af.house {H H':Hp}{C CB:Addr}{A:Ad}{W:Hp}{ss:List Str}{h:Hs}(S:af H H')(hh:aJ H C CB A W ss h):aJ H' C CB A W ss h:=by
 o⟨h1,h2,⟨ps,h3,h4,h5⟩,⟨rs,h6,h7,h8⟩,h9,h10⟩:=hh;e⟨S _ _ h1,S _ _ h2,⟨ps,S _ _ h3,h4,h5⟩,⟨rs,S _ _ h6,h7,h8⟩,h9,h10.trans (cj S)⟩
þ mU {H:Hp}{A:Ad}{b:Addr}{o:HO}(b1:b≠A.x)(b2:b≠A.d1)(b3:b≠A.ls)(b4:b≠A.db):hid (upd H b o) A=upd (hid H A) b o:=by
 funext y;unfold hid;by_cases hy:y=A.x∨y=A.d1∨y=A.ls∨y=A.db
 . rw[if_pos hy]
   h hyb:y≠b:=fun e=>by rw[e] at hy;rcases hy with z | z | z | z;e b1 z;e b2 z;e b3 z;e b4 z
   rw[ai hyb,if_pos hy]
 . rw[if_neg hy];by_cases e:y=b
   . rw[e,ac,ac]
   . rw[ai e,ai e,if_neg hy]
þ aJ.upd {H:Hp}{C CB:Addr}{A:Ad}{W:Hp}{ss:List Str}{h:Hs}{b:Addr}{u o:HO}(hh:aJ H C CB A W ss h)(hb:hid H A b=some u)(hw:W b=none):aJ (L2.upd H b o) C CB A W ss h:=by
 o⟨hb0,b1,b2,b3,b4⟩:=gN hb;o⟨h1,h2,⟨ps,h3,h4,h5⟩,⟨rs,h6,h7,h8⟩,h9,h10⟩:=hh;r⟨by rw[ai (Ne.symm b1)];e h1,by rw[ai (Ne.symm b2)];e h2,⟨ps,by rw[ai (Ne.symm b3)];e h3,h4,h5⟩,⟨rs,by rw[ai (Ne.symm b4)];e h6,h7,h8⟩,h9,?_⟩;rw[mU b1 b2 b3 b4]
 e fun y v e=>by rw[ai (aF e hw)];e h10 y v e
þ aJ.up {H:Hp}{C CB:Addr}{A:Ad}{W:Hp}{ss:List Str}{h:Hs}(hh:aJ H C CB A W ss h):af W H:=hh.sub.trans a9
þ dI {A:Ad}{d:Int}:Af ¶"first_shades" (hfs A d)=§A.d1:=rfl
þ uL {A:Ad}{d:Int}:Af ¶"day_now" (hfs A d)=£d:=rfl
þ f9 {A:Ad}{d:Int}:Af ¶"standing" (hfs A d)=§A.ls:=rfl
þ kK {A:Ad}{d:Int}:Af ¶"books_from" (hfs A d)=§A.db:=rfl
þ d9 {A:Ad}{d:Int}{m:Str}(h1:(m==¶"first_shades")=false)(h2:(m==¶"day_now")=false)(h3:(m==¶"standing")=false)(h4:(m==¶"books_from")=false):Af m (hfs A d)=none:=by
 unfold hfs;rw[Ah,h1];show Af m [(¶"day_now",V.int d),(¶"standing",V.ref A.ls),(¶"books_from",V.ref A.db)]=none;rw[Ah,h2];show Af m [(¶"standing",V.ref A.ls),(¶"books_from",V.ref A.db)]=none;rw[Ah,h3];show Af m [(¶"books_from",V.ref A.db)]=none;rw[Ah,h4];rfl
structure Hx (K:PySem.W.Frag)(mg:Str→Option Value)(C:Addr):Prop where
 c:Cls K C
 n1:NoAttr K C "first_shades"
 n2:NoAttr K C "day_now"
 n3:NoAttr K C "standing"
 n4:NoAttr K C "books_from"
 fd:∃ t,mg "FIRST_DAY"=some (.int 1 t)
 ld:∃ t,mg "LAST_DAY"=some (.int 400 t)
 mc:∃ t,mg "MOST_CLOTHS"=some (.int 50 t)
 md:∃ t,mg "MOST_DIPS"=some (.int 1000 t)
 max:mg "max"=none
noncomputable def kD (cND:Addr):Sp:=fun vs H Q E=>∃ d:Int,vs=[.int d]∧((1≤d∧d≤400)→Q .non H)∧(¬(1≤d∧d≤400)→E (.ref cND) none H)
þ xz:ay ["day"] ["day"] (ar wa):=®
þ wy {f:Addr}{fd:FuncData}{CH CB cND:Addr}(F:Fun K "check_day" "check_day" wa f fd)
   (T:Txt mg)(hX:Hx K mg CH)(cB:Cls K CB)(XND:ExcC K cND)(mND:mg "NoDay"=§cND) :
   aW P w K mg base (CX1 P w) 1 f fd ["day"] (kD cND):=by
 fx xz;o⟨d,rfl,q,qe⟩:=h;o⟨_,hfd⟩:=hX.fd;o⟨_,hld⟩:=hX.ld;r⟨_,(ah (aC (PW.pt (em (ap cX (pv 0) (bf (v:=.int 1) rfl hfd ⟨_,rfl⟩) (ax _)) (cM (ap fJ (pv 0) (bf (v:=.int 400) rfl hld ⟨_,rfl⟩) (ax _))))) (ah (bB rfl rfl mND XND.exc zZ (aa aB ae) dk)) ao)),?_⟩
 try dsimp only[aE,aO]
 w;r az (fun h=>⟨by decide,qe (by m)⟩) (fun h1=>az (fun h=>⟨by decide,qe (by m)⟩) (fun h2=>q (by m)))
noncomputable def uN (CH CB cNC:Addr):Sp:=fun vs H Q E=>∃ (A:Ad)(W:Hp)(ss:List Str) (h:Hs) (z:Str),vs=[.ref A.x,.str z]∧aJ H CH CB A W ss h∧Shw z∧(h.cl.map (·.1)).Nodup∧(z∈h.cl.map (·.1)→Q .non H)∧(z∉h.cl.map (·.1)→E (.ref cNC) none H)
þ zo:ay ["self", "cloth"] ["self", "cloth"] (ar jK):=®
þ yu {f:Addr}{fd:FuncData}{CH CB cNC:Addr}(F:Fun K "check_cloth" "House.check_cloth" jK f fd)
   (T:Txt mg)(hX:Hx K mg CH)(cB:Cls K CB)(XNC:ExcC K cNC)(mNC:mg "NoCloth"=§cNC) :
   aW P w K mg base (CX1 P w) 1 f fd ["self", "cloth"] (uN CH CB cNC):=by
 fx zo;o⟨A0,W,ss,h,z,rfl,hh,hz,hnd,q,qe⟩:=h;h hu:=eF hr;r⟨_,(ah (aC (fk (dq hu (pv 1) (bD (pv 0) rfl))) (ah (bB rfl rfl mNC XNC.exc zZ (aa (fh (pv 1)) ae) dk)) ao)),?_⟩
 try dsimp only[aE,aO]
 by_cases hm:z∈h.cl.map (·.1)
 . o⟨c,hc,rfl⟩:=List.mem_map.mp hm;w;e⟨CH,A0.dx,_,hh.ins,hX.c,hX.n1,_,dI,A0.d1,rfl,_,.inl ⟨_,Sum.inr c.1,.inl hh.cl,rfl,(er hnd hc).symm⟩,q hm⟩
 . w;e⟨CH,A0.dx,_,hh.ins,hX.c,hX.n1,_,dI,A0.d1,rfl,none,.inl ⟨_,Sum.inr z,.inl hh.cl,rfl,(bN hm).symm⟩,hz.1,hz.2,fun y=>⟨by decide,qe hm⟩⟩
noncomputable def rb (CH CB cND cLa:Addr):Sp:=fun vs H Q E=>∃ (A:Ad)(W:Hp)(ss:List Str) (h:Hs) (d:Int),vs=[.ref A.x,.int d]∧aJ H CH CB A W ss h∧((1≤d∧d≤400)→h.day≤d→Q .non H)∧(¬(1≤d∧d≤400)→E (.ref cND) none H)∧((1≤d∧d≤400)→d < h.day→E (.ref cLa) none H)
þ zk:ay ["self", "day"] ["self", "day"] (ar qA):=®
þ xQ {f fCD:Addr}{fd fdCD:FuncData}{CH CB cLa cND:Addr}(F:Fun K "check_day_to_do" "House.check_day_to_do" qA f fd)
   (T:Txt mg)(hX:Hx K mg CH)(cB:Cls K CB)(XLa:ExcC K cLa)(mLa:mg "Late"=§cLa)
   (GCD:Cl P w K mg base (CX1 P w) 1 "check_day" ["day"] (kD cND) fCD fdCD) :
   aW P w K mg base (CX1 P w) 2 f fd ["self", "day"] (rb CH CB cND cLa):=by
 fx zk;o⟨A0,W,ss,h,d,rfl,hh,q,qd,ql⟩:=h;h hr1:=hr.mono (j:=1) (by m)
 r⟨_,(aj (aR (pC GCD hr1 bE (aa (pv 1) ae)))
   (ah (aC (ap cX (pv 1) (bD (pv 0) rfl) (ax _)) (ah (bB rfl rfl mLa XLa.exc zZ (aa aB ae) dk)) ao))),?_⟩
 try dsimp only[aE,aO]
 cu (1≤d∧d≤400)∧σ'=[§A0.x,£d]∧H'=H
 . w;e⟨d,rfl,fun hd=>hR _ _ ⟨hd,rfl,rfl⟩,qd⟩
 rintro σ1 H1 ⟨hd,rfl,rfl⟩;w;e⟨CH,A0.dx,_,hh.ins,hX.c,hX.n2,_,uL,_,rfl,az (fun h1=>⟨by decide,ql hd h1⟩) (fun h1=>q hd (by m))⟩
þ nE {bk:List (Int×Bk)}{rs:List Addr}(h:rs.length=bk.length):(bkV bk rs).length=bk.length:=by
 unfold bkV;rw[be,Bq,h,Cw]
þ rC:∀ {bk:List (Int×Bk)}{rs:List Addr}{i:Nat}{e:Int×Bk}{r:Addr},bk.Pairwise (fun a b=>a.1 < b.1)→bk[i]?=some e→rs[i]?=some r→bJ (bkV bk rs) (Sum.inl e.1)=some (V.ref r)
 | [],_,i,_,_,_,h,_=>by simp at h
 | a::bk,[],i,_,_,_,_,h=>by simp at h
 | a::bk,r0::rs,0,e,r,_,h1,h2=>by
   simp only[List.getElem?_cons_zero,Option.some.injEq] at h1 h2;subst h1 h2;unfold bkV bJ;simp
 | a::bk,r0::rs,i+1,e,r,hp,h1,h2=>by
   simp only[List.getElem?_cons_succ] at h1 h2;h hp2:=List.pairwise_cons.mp hp;h hlt:=hp2.1 e (zO h1);h ih:=rC hp2.2 h1 h2;unfold bkV bJ at ih ⊢;rw[A1,z8,A5]
   h hne:¬(a.1=e.1):=by m
   simp only[Sum.inl.injEq,hne,decide_false];e ih
noncomputable def ia (CH CB cND:Addr):Sp:=fun vs H Q E=>∃ (A:Ad)(W:Hp)(ss names:List Str) (h:Hs) (d:Int),vs=[.ref A.x,.int d]∧aJ H CH CB A W ss h∧bK ss names h∧((1≤d∧d≤400)→∀ r H',af H H'→bx W CB r (aV h.bk d).1 (aV h.bk d).2→Q (.ref r) H')∧(¬(1≤d∧d≤400)→E (.ref cND) none H)
þ xj:ay ["self", "day"] ["self", "day"] (ar qB):=®
þ ux {f fCD:Addr}{fd fdCD:FuncData}{CH CB cND:Addr}(F:Fun K "book" "House.book" qB f fd)
   (T:Txt mg)(hX:Hx K mg CH)(cB:Cls K CB)
   (GCD:Cl P w K mg base (CX1 P w) 1 "check_day" ["day"] (kD cND) fCD fdCD) :
   aW P w K mg base (CX1 P w) 2 f fd ["self", "day"] (ia CH CB cND):=by
 fx xj;o⟨A0,W,ss,names,h,d,rfl,hh,ho,q,qd⟩:=h;h hu:=eF hr;h hr1:=hr.mono (j:=1) (by m)
 r⟨_,(aj (aR (pC GCD hr1 bE (aa (pv 1) ae)))
   (ah (aq (cy hu (bD (pv 0) rfl) (al (tq rfl) (by rfl) hX.max (by d) (aa (wL (eX (N':=["start", "day"]) (pk:=[none,some 1]) rfl (bZ.of (by rfl)) (mz (bD (pv 0) rfl)) (fun s H ex=>(aw (i:=0) (by show(["start", "day"]:List Str).Nodup;d) rfl (Or.inl rfl))) (fun s H ex=>(ap rh (pv 0) (pv 1) (ax _))) (fun s H ex=>(pv 0)))) ae)) ¿)))),?_⟩
 try dsimp only[aE,aO]
 h hs:=aM;cu (1≤d∧d≤400)∧σ'=[§A0.x,£d]∧H'=H
 . w;e⟨d,rfl,fun hd=>hR _ _ ⟨hd,rfl,rfl⟩,qd⟩
 rintro σ1 H1 ⟨hd,rfl,rfl⟩;o⟨rs,hdb,hrl,hrB⟩:=hh.bk;h hkl:=ho.kl
 h hnf:∀ o u,H1 A0.db≠some (.frz o u):=fun o u e=>by rw[hdb] at e;cases e
 h hkm:(bkV h.bk rs).map (·.1)=h.bk.map (fun e=>Sum.inl e.1):=by
   unfold bkV;rw[Ao];h:(fun e:(Int×Bk)×Addr=>(Sum.inl e.1.1:Key))=(fun e=>(Sum.inl e.1:Key))∘Prod.fst:=rfl;show(h.bk.zip rs).map (fun e=>(Sum.inl e.1.1:Key))=_;rw[this,←Ao,List.map_fst_zip (by m)]
 w;r⟨CH,A0.dx,_,hh.ins,hX.c,hX.n4,_,kK,CH,A0.dx,_,hh.ins,hX.c,hX.n4,_,kK,A0.db,rfl,_,.inl ⟨hdb,fun o D hD=>?_⟩⟩
 h hDb:D≠A0.db:=fun e=>by rw[e,ac] at hD;cases hD
 r fm (fL (H1:=upd H1 A0.db (.frz o (.dK (bkV h.bk rs)))) ac) (by rw[nE hrl];m) hD (fun σ=>∃ o,σ=[o,£d]) (fun i=>decide ((h.bk.getD i (0,([],[]))).1≤d)) (fun i=>V.int (h.bk.getD i (0,([],[]))).1) ⟨none,rfl⟩ ?_ ?_
 . rintro i x σ' H3 hi ⟨k,v,hk,rfl⟩ ⟨o2,rfl⟩ hS R1 R0 h1 h0;rw[nE hrl] at hi;obtain⟨e,he⟩:∃ e,h.bk[i]?=some e:=⟨_,zJ hi⟩
   h ek:k=Sum.inl e.1:=by
     have:=congrArg (fun l=>l[i]?) hkm;simp only[zK,hk,he] at this
     simpa using this
   subst ek
   h eg:h.bk.getD i (0,([],[]))=e:=by rw[zM,he];rfl
   rw[eg] at h1 h0;w;r⟨_,rfl,az (fun hle=>h1 (decide_eq_true (by simpa using hle)) _ ⟨_,rfl⟩) (fun hle=>h0 (decide_eq_false (by simpa using hle)) _ ⟨_,rfl⟩)⟩
 . r .inr ⟨A0.db,o,_,by rw[ai (Ne.symm hDb)];e ac,hnf,?_⟩
   h hD1:H1 D=none:=by rw[ai hDb] at hD;e hD
   h SF:∀ L:List V,af H1 (upd (upd (upd H1 A0.db (.frz o (.dK (bkV h.bk rs)))) D (.lst L)) A0.db (.dK (bkV h.bk rs))):=fun L b ob e=>by
     by_cases hb:b=A0.db
     . rw[hb,hdb] at e;rw[hb,ac];e e
     . rw[ai hb,ai (aF e hD1),ai hb];e e
   rw[nE hrl]
   h eL:((zS h.bk.length).filter (fun i=>decide ((h.bk.getD i (0,([],[]))).1≤d))).map (fun i=>V.int (h.bk.getD i (0,([],[]))).1)=(((zS h.bk.length).filter (fun i=>decide ((h.bk.getD i (0,([],[]))).1≤d))).map (fun i=>(h.bk.getD i (0,([],[]))).1)).map V.int:=by rw[Ao];rfl
   rw[eL]
   h mem:∀ M,M∈((zS h.bk.length).filter (fun i=>decide ((h.bk.getD i (0,([],[]))).1≤d))).map (fun i=>(h.bk.getD i (0,([],[]))).1)↔∃ (i:Nat)(e:Int×Bk),h.bk[i]?=some e∧e.1≤d∧e.1=M:=fun M=>by
     rw[List.mem_map];constructor
     . rintro⟨i,hi,rfl⟩;o⟨h1,h2⟩:=List.mem_filter.mp hi;h hl:=List.mem_range.mp h1;r⟨i,h.bk.getD i (0,([],[])),?_,by simpa using h2,rfl⟩;rw[zM,zJ hl];rfl
     . rintro⟨i,e,h1,h2,rfl⟩
       h eg:h.bk.getD i (0,([],[]))=e:=by rw[zM,h1];rfl
       e⟨i,List.mem_filter.mpr ⟨List.mem_range.mpr (List.getElem?_eq_some_iff.mp h1).1,by rw[eg];e decide_eq_true h2⟩,by rw[eg]⟩
   r⟨_,SqL.of (by rw[ai hDb];e ac),?_,fun M hM hmax=>?_⟩
   . o⟨b0,r0,hb0⟩:=ho.k1;e BI ((mem 1).mpr ⟨0,(1,b0),by rw[hb0];rfl,hd.1,rfl⟩)
   . o⟨i,e,he,hle,rfl⟩:=(mem M).mp hM;obtain⟨r,hr0⟩:∃ r,rs[i]?=some r:=⟨_,zJ (by rw[hrl];e(List.getElem?_eq_some_iff.mp he).1)⟩;r⟨A0.db,rfl,V.ref r,.inl ⟨_,Sum.inl e.1,.inl ac,rfl,(rC ho.ks he hr0).symm⟩,q hd r _ (SF _) ?_⟩
     rw[jt h.bk d e.1 e.2 ho.ks (zO he) hle fun e2 he2 hle2=>by
       o⟨j,hj⟩:=AF he2
       e hmax _ ((mem e2.1).mpr ⟨j,e2,hj,hle2,rfl⟩)]
     e hrB i r e hr0 he
noncomputable def l9 (CH CB:Addr):Sp:=fun vs H Q E=>∃ (A:Ad)(W:Hp)(ss names:List Str) (h:Hs),vs=[.ref A.x]∧aJ H CH CB A W ss h∧bK ss names h∧(∀ r H',af H H'→bx W CB r (aV h.bk 400).1 (aV h.bk 400).2→Q (.ref r) H')
þ xB:ay ["self"] ["self"] (ar ky):=®
þ wf {f fHB:Addr}{fd fdHB:FuncData}{CH CB cND:Addr}(F:Fun K "newest_book" "House.newest_book" ky f fd)
   (T:Txt mg)(hX:Hx K mg CH)(cB:Cls K CB)
   (GHB:Cm P w K mg base (CX1 P w) 2 CH "book" ["self", "day"] (ia CH CB cND) fHB fdHB) :
   aW P w K mg base (CX1 P w) 3 f fd ["self"] (l9 CH CB):=by
 fx xB;o⟨A0,W,ss,names,h,rfl,hh,ho,q⟩:=h;o⟨_,hld⟩:=hX.ld;h cH:=hX.c;h hr2:=hr.mono (j:=2) (by m);r⟨_,(ah (aq (pM (pv 0) cH GHB hr2 bE (aa (bf (v:=.int 400) rfl hld ⟨_,rfl⟩) ae)))),?_⟩
 try dsimp only[aE,aO]
 w;e⟨A0.dx,_,hh.ins,d9 (by d) (by d) (by d) (by d),A0,W,ss,names,h,400,rfl,hh,ho,fun _=>q,fun hn=>absurd (by m) hn⟩
noncomputable def aZ (dp:List (Int×Str×Str×Str)) (c:Str) (d:Int):List (Int×Str×Str):=(dp.filter fun e=>decide (e.2.1=c)&&decide (e.1≤d)).map fun e=>(e.1,e.2.2.1,e.2.2.2)
noncomputable def bg (dp:List (Int×Str×Str×Str)) (d:Int):List (Str×Str):=(dp.filter fun e=>decide (e.1=d)).map fun e=>(e.2.1,e.2.2.1)
noncomputable def aX (h:Hs) (c:Str) (d:Int):Str:=match (aZ h.dp c d).getLast? with
 | some e=>e.2.2
 | none=>((h.cl.lookup c).getD ⟨#[]⟩)
abbrev d0:Int×Str×Str×Str:=(0,⟨#[]⟩,⟨#[]⟩,⟨#[]⟩)
þ fg {α β:Type}(l:List α)(dflt:α)(p:α→Bool)(f:α→β):(((zS l.length).filter (fun i=>p (l.getD i dflt))).map (fun i=>f (l.getD i dflt)))=(l.filter p).map f:=by
 h e:l=(zS l.length).map (fun i=>l.getD i dflt):=by
   r Cd fun i=>?_;rw[zK];by_cases hi:i < l.length
   . rw[BW hi,zJ hi];show _=some (l.getD i dflt);rw[zM,zJ hi];rfl
   . rw[A9 (by m),A9 (by simpa using hi)];rfl
 conv=>rhs;rw[e]
 rw[List.filter_map,Ao];rfl
noncomputable def ip (CH CB cNC cND:Addr):Sp:=fun vs H Q E=>∃ (A:Ad)(W:Hp)(ss names:List Str) (h:Hs) (z:Str) (d:Int),vs=[.ref A.x,.str z,.int d]∧aJ H CH CB A W ss h∧bK ss names h∧Shw z∧(z∈h.cl.map (·.1)→(1≤d∧d≤400)→∀ l ps H',af H H'→H l=none→H' l=some (.lst (ps.map V.ref))→cm H' ps ((aZ h.dp z d).map fun e=>[.int e.1,.str e.2.1,.str e.2.2])→Q (.ref l) H')∧(z∉h.cl.map (·.1)→E (.ref cNC) none H)∧(z∈h.cl.map (·.1)→¬(1≤d∧d≤400)→E (.ref cND) none H)
þ vI:ay ["self", "cloth", "day"] ["self", "cloth", "day"] (ar mP):=®
þ sw {f fHC fCD:Addr}{fd fdHC fdCD:FuncData}{CH CB cNC cND:Addr}(F:Fun K "trail" "House.trail" mP f fd)
   (T:Txt mg)(hX:Hx K mg CH)(cB:Cls K CB)
   (GHC:Cm P w K mg base (CX1 P w) 1 CH "check_cloth" ["self", "cloth"] (uN CH CB cNC) fHC fdHC)
   (GCD:Cl P w K mg base (CX1 P w) 1 "check_day" ["day"] (kD cND) fCD fdCD) :
   aW P w K mg base (CX1 P w) 2 f fd ["self", "cloth", "day"] (ip CH CB cNC cND):=by
 fx vI;o⟨A0,W,ss,names,h,z,d,rfl,hh,ho,hz,q,qc,qd⟩:=h;h cH:=hX.c;h hr1:=hr.mono (j:=1) (by m)
 r⟨_,(aj (aR (pM (pv 0) cH GHC hr1 bE (aa (pv 1) ae)))
   (aj (aR (pC GCD hr1 bE (aa (pv 2) ae)))
   (ah (aq (eX (N':=["when", "dipped", "bath", "out", "cloth", "day"]) (pk:=[none,none,none,none,some 1,some 2]) rfl (bZ.of (by rfl)) (ba (bD (pv 0) rfl)) (fun s H ex=>((cC (n:=4) rfl (aG (aw (i:=0) (by show(["when", "dipped", "bath", "out", "cloth", "day"]:List Str).Nodup;d) rfl (Or.inl rfl)) (aG (aw (i:=1) (by show(["when", "dipped", "bath", "out", "cloth", "day"]:List Str).Nodup;d) rfl (Or.inl rfl)) (aG (aw (i:=2) (by show(["when", "dipped", "bath", "out", "cloth", "day"]:List Str).Nodup;d) rfl (Or.inl rfl)) (aG (aw (i:=3) (by show(["when", "dipped", "bath", "out", "cloth", "day"]:List Str).Nodup;d) rfl (Or.inl rfl)) bV))))):PG _ _ (kC K 4 (bQ (bG 0) (bQ (bG 1) (bQ (bG 2) (bQ (bG 3) iQ))))))) (fun s H ex=>(PW.pt (iK (ap bO (pv 1) (pv 4) (ax _)) (gj (ap rh (pv 0) (pv 5) (ax _)))))) (fun s H ex=>(bS (aa (pv 0) (aa (pv 2) (aa (pv 3) ae)))))))))),?_⟩
 try dsimp only[aE,aO]
 h hs:=aM;cu z∈h.cl.map (·.1)∧σ'=[§A0.x,¢z,£d]∧H'=H
 . w;e⟨A0.dx,_,hh.ins,d9 (by d) (by d) (by d) (by d),A0,W,ss,h,z,rfl,hh,hz,ho.cnd,fun hm=>hR _ _ ⟨hm,rfl,rfl⟩,qc⟩
 rintro σ1 H1 ⟨hm,rfl,rfl⟩;cu (1≤d∧d≤400)∧σ'=[§A0.x,¢z,£d]∧H'=H1
 . w;e⟨d,rfl,fun hd=>hR _ _ ⟨hd,rfl,rfl⟩,qd hm⟩
 rintro σ2 H2 ⟨hd,rfl,rfl⟩;o⟨ps,hls,hpl,hpT⟩:=hh.dp;h hdl:=ho.dl;w;r⟨CH,A0.dx,_,hh.ins,hX.c,hX.n3,_,f9,A0.ls,rfl,⟨_,SqL.of hls⟩,fun D hD=>?_⟩;r iP (aH (SqL.of hls)) (by rw[be];m) hD (fun σ=>∃ o1 o2 o3 o4,σ=[o1,o2,o3,o4,¢z,£d]) (fun i=>(fun e:Int×Str×Str×Str=>decide (e.2.1=z)&&decide (e.1≤d)) (h.dp.getD i d0)) (fun i=>(fun e:Int×Str×Str×Str=>[V.int e.1,.str e.2.2.1,.str e.2.2.2]) (h.dp.getD i d0)) ⟨none,none,none,none,rfl⟩ ?_ ?_
 . rintro i x σ' H3 hi hx ⟨o1,o2,o3,o4,rfl⟩ hS R1 R0 h1 h0;rw[zK] at hx;o⟨p,hp,rfl⟩:=Option.map_eq_some_iff.mp hx;obtain⟨e,he⟩:∃ e,h.dp[i]?=some e:=⟨_,zJ (by rw[be] at hi;m)⟩;h ht:=hS _ _ (hh.up _ _ (hpT i p e hp he))
   h eg:h.dp.getD i d0=e:=by rw[zM,he];rfl
   simp only[eg] at h1 h0;r v3 ht ?_;w;r⟨rfl,az (fun hc=>az (fun hle=>⟨by m,fun p hp=>h1 (by simp[hc,hle]) p _ ⟨_,_,_,_,rfl⟩ hp⟩) (fun hle=>h0 (by simp[hle]) _ ⟨_,_,_,_,rfl⟩)) (fun hc=>h0 (by simp[hc]) _ ⟨_,_,_,_,rfl⟩)⟩
 . intro qs H' S' hHD hT;rw[be,hpl,fg h.dp d0 (fun e=>decide (e.2.1=z)&&decide (e.1≤d)) (fun e=>[V.int e.1,.str e.2.2.1,.str e.2.2.2])] at hT;r q hm hd D qs H' S' hD hHD ?_;unfold aZ;rw[Ao];e hT
noncomputable def gT (CH CB cND:Addr):Sp:=fun vs H Q E=>∃ (A:Ad)(W:Hp)(ss names:List Str) (h:Hs) (d:Int),vs=[.ref A.x,.int d]∧aJ H CH CB A W ss h∧bK ss names h∧((1≤d∧d≤400)→∀ l ps H',af H H'→H l=none→H' l=some (.lst (ps.map V.ref))→cm H' ps ((bg h.dp d).map fun e=>[.str e.1,.str e.2])→Q (.ref l) H')∧(¬(1≤d∧d≤400)→E (.ref cND) none H)
þ wE:ay ["self", "day"] ["self", "day"] (ar qi):=®
þ vx {f fCD:Addr}{fd fdCD:FuncData}{CH CB cND:Addr}(F:Fun K "dips" "House.dips" qi f fd)
   (T:Txt mg)(hX:Hx K mg CH)(cB:Cls K CB)
   (GCD:Cl P w K mg base (CX1 P w) 1 "check_day" ["day"] (kD cND) fCD fdCD) :
   aW P w K mg base (CX1 P w) 2 f fd ["self", "day"] (gT CH CB cND):=by
 fx wE;o⟨A0,W,ss,names,h,d,rfl,hh,ho,q,qd⟩:=h;h hr1:=hr.mono (j:=1) (by m)
 r⟨_,(aj (aR (pC GCD hr1 bE (aa (pv 1) ae)))
   (ah (aq (eX (N':=["when", "cloth", "bath", "out", "day"]) (pk:=[none,none,none,none,some 1]) rfl (bZ.of (by rfl)) (ba (bD (pv 0) rfl)) (fun s H ex=>((cC (n:=4) rfl (aG (aw (i:=0) (by show(["when", "cloth", "bath", "out", "day"]:List Str).Nodup;d) rfl (Or.inl rfl)) (aG (aw (i:=1) (by show(["when", "cloth", "bath", "out", "day"]:List Str).Nodup;d) rfl (Or.inl rfl)) (aG (aw (i:=2) (by show(["when", "cloth", "bath", "out", "day"]:List Str).Nodup;d) rfl (Or.inl rfl)) (aG (aw (i:=3) (by show(["when", "cloth", "bath", "out", "day"]:List Str).Nodup;d) rfl (Or.inl rfl)) bV))))):PG _ _ (kC K 4 (bQ (bG 0) (bQ (bG 1) (bQ (bG 2) (bQ (bG 3) iQ))))))) (fun s H ex=>(ap bO (pv 0) (pv 4) (ax _))) (fun s H ex=>(bS (aa (pv 1) (aa (pv 2) ae)))))))),?_⟩
 try dsimp only[aE,aO]
 h hs:=aM;cu (1≤d∧d≤400)∧σ'=[§A0.x,£d]∧H'=H
 . w;e⟨d,rfl,fun hd=>hR _ _ ⟨hd,rfl,rfl⟩,qd⟩
 rintro σ2 H2 ⟨hd,rfl,rfl⟩;o⟨ps,hls,hpl,hpT⟩:=hh.dp;h hdl:=ho.dl;w;r⟨CH,A0.dx,_,hh.ins,hX.c,hX.n3,_,f9,A0.ls,rfl,⟨_,SqL.of hls⟩,fun D hD=>?_⟩;r iP (aH (SqL.of hls)) (by rw[be];m) hD (fun σ=>∃ o1 o2 o3 o4,σ=[o1,o2,o3,o4,£d]) (fun i=>(fun e:Int×Str×Str×Str=>decide (e.1=d)) (h.dp.getD i d0)) (fun i=>(fun e:Int×Str×Str×Str=>[V.str e.2.1,.str e.2.2.1]) (h.dp.getD i d0)) ⟨none,none,none,none,rfl⟩ ?_ ?_
 . rintro i x σ' H3 hi hx ⟨o1,o2,o3,o4,rfl⟩ hS R1 R0 h1 h0;rw[zK] at hx;o⟨p,hp,rfl⟩:=Option.map_eq_some_iff.mp hx;obtain⟨e,he⟩:∃ e,h.dp[i]?=some e:=⟨_,zJ (by rw[be] at hi;m)⟩;h ht:=hS _ _ (hh.up _ _ (hpT i p e hp he))
   h eg:h.dp.getD i d0=e:=by rw[zM,he];rfl
   simp only[eg] at h1 h0;r v3 ht ?_;w;r⟨rfl,az (fun hle=>⟨by m,fun p hp=>h1 (by simp[hle]) p _ ⟨_,_,_,_,rfl⟩ hp⟩) (fun hle=>h0 (by simp[hle]) _ ⟨_,_,_,_,rfl⟩)⟩
 . intro qs H' S' hHD hT;rw[be,hpl,fg h.dp d0 (fun e=>decide (e.1=d)) (fun e=>[V.str e.2.1,.str e.2.2.1])] at hT;r q hd D qs H' S' hD hHD ?_;unfold bg;rw[Ao];e hT
þ dt {cl:List (Str×Str)}{c:Str×Str}(hd:(cl.map (·.1)).Nodup)(h:c∈cl):cl.lookup c.1=some c.2:=by
 induction cl with
 | nil=>cases h
 | cons a r ih =>
   rw[z8,BD] at hd;rw[Ah];by_cases e:c.1=a.1
   . rw[show(c.1==a.1)=true from beq_iff_eq.mpr e]
     rcases List.mem_cons.mp h with h | h
     . rw[h]
     . e absurd (Aj (f:=(·.1)) h) (by rw[e];e hd.1)
   . rw[show(c.1==a.1)=false from beq_eq_false_iff_ne.mpr e]
     rcases List.mem_cons.mp h with h | h
     . e absurd (by rw[h]) e
     . e ih hd.2 h
noncomputable def gX (CH CB cNC cND:Addr):Sp:=fun vs H Q E=>∃ (A:Ad)(W:Hp)(ss names:List Str) (h:Hs) (z:Str) (d:Int),vs=[.ref A.x,.str z,.int d]∧aJ H CH CB A W ss h∧bK ss names h∧Shw z∧(z∈h.cl.map (·.1)→(1≤d∧d≤400)→∀ H',af H H'→Q (.str (aX h z d)) H')∧(z∉h.cl.map (·.1)→E (.ref cNC) none H)∧(z∈h.cl.map (·.1)→¬(1≤d∧d≤400)→E (.ref cND) none H)
þ oQ:ay ["self", "cloth", "day", "trail"] ["self", "cloth", "day"] (ar mE):=®
þ tM {f fHT:Addr}{fd fdHT:FuncData}{CH CB cNC cND:Addr}(F:Fun K "shade" "House.shade" mE f fd)
   (T:Txt mg)(hX:Hx K mg CH)(cB:Cls K CB)
   (GHT:Cm P w K mg base (CX1 P w) 2 CH "trail" ["self", "cloth", "day"] (ip CH CB cNC cND) fHT fdHT) :
   aW P w K mg base (CX1 P w) 3 f fd ["self", "cloth", "day"] (gX CH CB cNC cND):=by
 fx oQ;o⟨A0,W,ss,names,h,z,d,rfl,hh,ho,hz,q,qc,qd⟩:=h;h hu:=eF hr;h cH:=hX.c;h hr2:=hr.mono (j:=2) (by m)
 r⟨_,(aj (aL (i:=3) oQ.nd rfl (Or.inl rfl) (pM (pv 0) cH GHT hr2 bE (aa (pv 1) (aa (pv 2) ae))))
   (aj (aC (ap bO (al av (by rfl) T.len zT (aa (pv 3) ae)) ag (ax _)) (ah (aq (cy hu (bD (pv 0) rfl) (pv 1) ¿))) ao)
   (ah (aq (am aK (am ak (pv 3) (eW dC ag) ¿) ag ¿))))),?_⟩
 try dsimp only[aE,aO]
 h hs:=aM;cu ∃ l ps,(z∈h.cl.map (·.1))∧(1≤d∧d≤400)∧σ'=[§A0.x,¢z,£d,§l]∧af H H'∧H' l=some (.lst (ps.map V.ref))∧cm H' ps ((aZ h.dp z d).map fun e=>[.int e.1,.str e.2.1,.str e.2.2])
 . w;e⟨A0.dx,_,hh.ins,d9 (by d) (by d) (by d) (by d),A0,W,ss,names,h,z,d,rfl,hh,ho,hz,fun hm hd l ps H' S' hl hH hT=>hR _ _ ⟨l,ps,hm,hd,rfl,S',hH,hT⟩,qc,qd⟩
 rintro σ1 H1 ⟨l,ps,hm,hd,rfl,S1,hl1,hT⟩;h q:=q hm hd;cu aZ h.dp z d≠[]∧σ'=[§A0.x,¢z,£d,§l]∧H'=H1
 . o⟨c,hc,rfl⟩:=List.mem_map.mp hm;w;h hpl:=hT.1;rw[be] at hpl;r⟨_,.inl (SqL.of hl1),rfl,?_⟩;rw[be,hpl];r az (fun h0=>?_) (fun h0=>hR _ _ ⟨fun e=>h0 (by rw[e];rfl),rfl,rfl⟩);h e0:aZ h.dp c.1 d=[]:=List.length_eq_zero_iff.mp (by m);r⟨CH,A0.dx,_,S1 _ _ hh.ins,hX.c,hX.n1,_,dI,_,rfl,_,.inl ⟨_,Sum.inr c.1,.inl (S1 _ _ hh.cl),rfl,(er ho.cnd hc).symm⟩,?_⟩
   h es:aX h c.1 d=c.2:=by
     unfold aX;rw[e0];show(h.cl.lookup c.1).getD _=_;rw[dt ho.cnd hc];rfl
   have:=q H1 S1;rw[es] at this;e this
 rintro σ2 H2 ⟨hne,rfl,rfl⟩;h hpl:=hT.1;rw[be] at hpl;h hlast:(aZ h.dp z d).getLast?=some ((aZ h.dp z d).getLast hne):=AH hne;h hps:ps≠[]:=fun e=>hne (List.length_eq_zero_iff.mp (by rw[←hpl,e];rfl));w
 h ea:atI (ps.map V.ref) (-1)=some (V.ref (ps.getLast hps)):=by
   h e:ps.map V.ref=ps.dropLast.map V.ref++[V.ref (ps.getLast hps)]:=by
     rw[←Bp,←zQ,Ac hps]
   rw[e];e eM _ _
 h ht:=hT.2 (ps.length - 1) (ps.getLast hps) [.int ((aZ h.dp z d).getLast hne).1,.str ((aZ h.dp z d).getLast hne).2.1,.str ((aZ h.dp z d).getLast hne).2.2] (by rw[Bn];e zJ _) (by rw[zK,hpl,Bn,zJ (by have:=List.length_pos_iff.mpr hne;m)];rfl);r⟨_,SqL.of hl1,_,ea,_,rfl,_,SqT.of ht,V.str ((aZ h.dp z d).getLast hne).2.2,rfl,?_⟩
 h es:aX h z d=((aZ h.dp z d).getLast hne).2.2:=by
   unfold aX;rw[hlast]
 rw[←es];e q H2 S1
þ pF1 {v:V}:cQ ¶"first_shades" v []=[(¶"first_shades",v)]:=rfl
þ pF2 {v u:V}:cQ ¶"day_now" u [(¶"first_shades",v)]=[(¶"first_shades",v),(¶"day_now",u)]:=by
 show(if ¶"first_shades"=¶"day_now" then _ else _)=_;rw[if_neg (by d)];rfl
þ pF3 {v u t:V}:cQ ¶"standing" t [(¶"first_shades",v),(¶"day_now",u)]=[(¶"first_shades",v),(¶"day_now",u),(¶"standing",t)]:=by
 unfold cQ;rw[if_neg (by d)];unfold cQ;rw[if_neg (by d)];rfl
þ pF4 {v u t r:V}:cQ ¶"books_from" r [(¶"first_shades",v),(¶"day_now",u),(¶"standing",t)]=[(¶"first_shades",v),(¶"day_now",u),(¶"standing",t),(¶"books_from",r)]:=by
 unfold cQ;rw[if_neg (by d)];unfold cQ;rw[if_neg (by d)];unfold cQ;rw[if_neg (by d)];rfl
þ pFd {A:Ad}{d e:Int}:cQ ¶"day_now" (.int e) (hfs A d)=hfs A e:=by
 unfold hfs cQ;rw[if_neg (by d)];unfold cQ;rw[if_pos rfl]
noncomputable def rK (CH CB:Addr):Sp:=fun vs H Q _=>∃ (x dx bk:Addr)(W:Hp)(ss:List Str)(bs:List (Str×List Str)),vs=[.ref x,.ref bk]∧H x=some (.ins CH dx [])∧af W (hide H x)∧bx W CB bk ss bs∧∀ (A:Ad) H',A.x=x→af (hide H x) (hid H' A)→aJ H' CH CB A W ss ⟨[],1,[],[(1,(ss,bs))]⟩→Q .non H'
þ xf:ay ["self", "book"] ["self", "book"] (ar p8):=®
þ vV {f:Addr}{fd:FuncData}{CH CB :Addr}(F:Fun K "__init__" "House.__init__" p8 f fd)
   (T:Txt mg)(hX:Hx K mg CH)(cB:Cls K CB)  :
   aW P w K mg base CX0 1 f fd ["self", "book"] (rK CH CB):=by
 fo xf;o⟨x,dx,bk,W,ss,bs,rfl,hx,hW,hbk,q⟩:=h;o⟨_,hfd⟩:=hX.fd
 r⟨_,(aj (eI (pv 0) ed rfl)
   (aj (eI (pv 0) (bf (v:=.int 1) rfl hfd ⟨_,rfl⟩) rfl)
   (aj (eI (pv 0) (bq ae) rfl)
   (ah (eI (pv 0) (wq (t8 (bf (v:=.int 1) rfl hfd ⟨_,rfl⟩) (pv 1) we) rfl rfl (by simp) (by decide)) rfl))))),?_⟩
 try dsimp only[aE,aO]
 h hs:=aM
 h hx0:hide H x x=none:=by unfold hide;rw[if_pos rfl]
 cu ∃ d1,σ'=[§x,§bk]∧H d1=none∧H'=upd (upd H d1 (.dK [])) x (.ins CH dx [("first_shades",.ref d1)])
 . w;intro d hd
   h hxd:x≠d:=fun e=>by rw[←e,hx] at hd;cases hd
   e⟨CH,dx,_,by rw[ai hxd];e hx,hX.c,hX.n1,by decide,hR _ _ ⟨d,rfl,hd,by rw[pF1]⟩⟩
 rintro σ1 H1 ⟨d1,rfl,hd1,rfl⟩
 h hxd1:x≠d1:=fun e=>by rw[←e,hx] at hd1;cases hd1
 cu σ'=[§x,§bk]∧H'=upd (upd H d1 (.dK [])) x (.ins CH dx [("first_shades",.ref d1),("day_now",.int 1)])
 . w;e⟨CH,dx,_,ac,hX.c,hX.n2,by simp,hR _ _ ⟨rfl,by rw[pF2,ic]⟩⟩
 rintro σ2 H2 ⟨rfl,rfl⟩;cu ∃ ls,σ'=[§x,§bk]∧upd (upd H d1 (.dK [])) x (.ins CH dx [("first_shades",.ref d1),("day_now",.int 1)]) ls=none∧H'=upd (upd (upd (upd H d1 (.dK [])) x (.ins CH dx [("first_shades",.ref d1),("day_now",.int 1)])) ls (.lst [])) x (.ins CH dx [("first_shades",.ref d1),("day_now",.int 1),("standing",.ref ls)])
 . w;r⟨by m,fun ls hls=>?_⟩
   h hxl:x≠ls:=fun e=>by rw[←e,ac] at hls;cases hls
   e⟨CH,dx,_,by rw[ai hxl];e ac,hX.c,hX.n3,by simp,hR _ _ ⟨ls,rfl,hls,by rw[pF3]⟩⟩
 rintro σ3 H3 ⟨ls,rfl,hls,rfl⟩
 h hxl:x≠ls:=fun e=>by rw[←e,ac] at hls;cases hls
 h hlsH:ls≠d1:=fun e=>by rw[e,ai (Ne.symm hxd1),ac] at hls;cases hls
 h hlsN:H ls=none:=by rw[ai (Ne.symm hxl),ai hlsH] at hls;e hls
 w;intro p hp
 h hxp:x≠p:=fun e=>by rw[←e,ac] at hp;cases hp
 h hlp:ls≠p:=fun e=>by rw[←e,ai (Ne.symm hxl),ac] at hp;cases hp
 h hdp:d1≠p:=fun e=>by rw[←e,ai (Ne.symm hxd1),ai (Ne.symm hlsH),ai (Ne.symm hxd1),ac] at hp;cases hp
 h hpN:H p=none:=by rw[ai (Ne.symm hxp),ai (Ne.symm hlp),ai (Ne.symm hxp),ai (Ne.symm hdp)] at hp;e hp
 r⟨ac,[(Sum.inl 1,V.ref bk)],rfl,by simp,CH,dx,_,by rw[ai hxp,ai hxp,ac],hX.c,hX.n4,by simp,?_⟩;rw[pF4];h e1:cO [] [((Sum.inl 1:Key),V.ref bk)]=[(Sum.inl 1,V.ref bk)]:=rfl;rw[e1]
 h S:af (hide H x) (hid (upd (upd (upd (upd (upd (upd (upd H d1 (.dK [])) x (.ins CH dx [("first_shades",.ref d1),("day_now",.int 1)])) ls (.lst [])) x (.ins CH dx [("first_shades",.ref d1),("day_now",.int 1),("standing",.ref ls)])) p (.dK [])) p (.dK [(Sum.inl 1,V.ref bk)])) x (.ins CH dx [("first_shades",.ref d1),("day_now",.int 1),("standing",.ref ls),("books_from",.ref p)])) ⟨x,dx,d1,ls,p⟩):=fun b o e=>by
   h hbx:b≠x:=fun z=>by rw[z,hx0] at e;cases e
   rw[aY hbx] at e;h h1:b≠d1:=aF e hd1;h h2:b≠ls:=aF e hlsN;h h3:b≠p:=aF e hpN;unfold hid;rw[if_neg (fun z=>by rcases z with z | z | z | z;e hbx z;e h1 z;e h2 z;e h3 z)];rw[ai hbx,ai h3,ai h3,ai hbx,ai h2,ai hbx,ai h1];e e
 r q ⟨x,dx,d1,ls,p⟩ _ rfl S ⟨ac,?_,⟨[],?_,rfl,by intro i p e h;simp at h⟩,⟨[bk],?_,rfl,?_⟩,hdp,hW.trans S⟩
 . show upd _ x _ d1=_;rw[ai (Ne.symm hxd1),ai hdp,ai hdp,ai (Ne.symm hxd1),ai (Ne.symm hlsH),ai (Ne.symm hxd1),ac];rfl
 . show upd _ x _ ls=_;rw[ai (Ne.symm hxl),ai hlp,ai hlp,ai (Ne.symm hxl),ac];rfl
 . show upd _ x _ p=_;rw[ai (Ne.symm hxp),ac];rfl
 . intro i r e hr he
   rcases i with _ | i
   . cases hr;cases he;e hbk
   . simp at hr
þ oC:∀ {bk:List (Int×Bk)}{d:Int},bk≠[]→∃ e∈bk,aV bk d=e.2
 | [],_,h=>absurd rfl h
 | [e],d,_=>⟨e,zV,rfl⟩
 | e::e2::r,d,_=>by
   unfold aV;by_cases h2:e2.1≤d
   . rw[if_pos h2];o⟨x,hx,hxe⟩:=oC (bk:=e2::r) (d:=d) (by simp);e⟨x,zX _ hx,hxe⟩
   . rw[if_neg h2];e⟨e,zV,rfl⟩
þ bK.on {ss names:List Str}{h:Hs}(ho:bK ss names h) (d:Int):aP (aV h.bk d).1 (aV h.bk d).2∧(∀ n,n∈(aV h.bk d).2.map (·.1)↔n∈names)∧∀ z,z∈(aV h.bk d).1↔z∈ss:=by
 o⟨b,r,hb⟩:=ho.k1;o⟨e,he,hbk⟩:=oC (bk:=h.bk) (d:=d) (by rw[hb];simp);rw[hbk];e ho.kb e he
þ vU {cl:List (Str×Str)}{c z:Str}(h:c∉cl.map (·.1)):dw (clV cl) (Sum.inr c) (V.str z)=clV (cl++[(c,z)]):=by
 rw[cZ _ (bN h)];unfold clV;rw[zQ];rfl
þ rM {cl:List (Str×Str)}:(clV cl).length=cl.length:=be ..
þ gp {H:Hp}{A:Ad}{b:Addr}{o:HO}(h:b=A.x∨b=A.d1∨b=A.ls∨b=A.db):hid (upd H b o) A=hid H A:=by
 funext y;unfold hid;by_cases hy:y=A.x∨y=A.d1∨y=A.ls∨y=A.db
 . rw[if_pos hy,if_pos hy]
 . rw[if_neg hy,if_neg hy];e ai fun e=>hy (by rw[e];e h)
þ aJ.xd {H:Hp}{C CB:Addr}{A:Ad}{W:Hp}{ss:List Str}{h:Hs}(hh:aJ H C CB A W ss h):A.x≠A.d1∧A.x≠A.ls∧A.x≠A.db∧A.d1≠A.ls∧A.ls≠A.db:=by
 o⟨h1,h2,⟨ps,h3,_⟩,⟨rs,h6,_⟩,_,_⟩:=hh;r⟨fun e=>?_,fun e=>?_,fun e=>?_,fun e=>?_,fun e=>?_⟩
 . rw[e,h2] at h1;cases h1
 . rw[e,h3] at h1;cases h1
 . rw[e,h6] at h1;cases h1
 . rw[e,h3] at h2;cases h2
 . rw[e,h6] at h3;cases h3
noncomputable def kA (CH CB cBN cKn cNS cFu:Addr):Sp:=fun vs H Q E=>∃ (A:Ad)(W:Hp)(ss names:List Str) (h:Hs) (c z:Str),vs=[.ref A.x,.str c,.str z]∧aJ H CH CB A W ss h∧bK ss names h∧h.cl.length≤1000∧Shw c∧Shw z∧(bc c=false→∀ H',af H H'→E (.ref cBN) none H')∧(bc c=true→c∈h.cl.map (·.1)→∀ H',af H H'→E (.ref cKn) none H')∧(bc c=true→c∉h.cl.map (·.1)→z∉ss→∀ H',af H H'→E (.ref cNS) none H')∧(bc c=true→c∉h.cl.map (·.1)→z∈ss→50≤h.cl.length→∀ H',af H H'→E (.ref cFu) none H')∧(bc c=true→c∉h.cl.map (·.1)→z∈ss→h.cl.length < 50→∀ H',af (hid H A) (hid H' A)→aJ H' CH CB A W ss { h with cl:=h.cl++[(c,z)] }→Q .non H')
þ vw:ay ["self", "cloth", "shade"] ["self", "cloth", "shade"] (ar nu):=®
þ sL {f fGd fHN fMH:Addr}{fd fdGd fdHN fdMH:FuncData}{CH CB cBN cFu cKn cNS:Addr}(F:Fun K "bring" "House.bring" nu f fd)
   (T:Txt mg)(hX:Hx K mg CH)(cB:Cls K CB)(XBN:ExcC K cBN)(mBN:mg "BadName"=§cBN)(XKn:ExcC K cKn)(mKn:mg "Known"=§cKn)(XFu:ExcC K cFu)(mFu:mg "Full"=§cFu)
   (GGd:Cl P w K mg base CX0 1 "good_name" ["text"] me fGd fdGd)
   (GHN:Cm P w K mg base (CX1 P w) 3 CH "newest_book" ["self"] (l9 CH CB) fHN fdHN)
   (GMH:Cm P w K mg base (CX1 P w) 1 CB "check_shade" ["self", "shade"] (kJ CB cNS) fMH fdMH) :
   aW P w K mg base (CX1 P w) 5 f fd ["self", "cloth", "shade"] (kA CH CB cBN cKn cNS cFu):=by
 fx vw;o⟨A0,W,ss,names,h,c,z,rfl,hh,ho,hcl,hc,hz,qb,qk,qs,qf,q⟩:=h;h hu:=eF hr;o⟨_,hmc⟩:=hX.mc;h cH:=hX.c;h hr1:=hr.mono (j:=1) (by m);h hr3:=hr.mono (j:=3) (by m)
 r⟨_,(aj (aC (bW (bF (pC GGd hr1 aA (aa (pv 1) ae)))) (ah (bB rfl rfl mBN XBN.exc zZ (aa (fh (pv 1)) ae) dk)) ao)
   (aj (aC (fk (uz hu (pv 1) (bD (pv 0) rfl))) (ah (bB rfl rfl mKn XKn.exc zZ (aa (fh (pv 1)) ae) dk)) ao)
   (aj (aR (ii (pM0 (pv 0) cH GHN hr3 bE) cB GMH.h GMH.g hr1 GMH.b .nil bE (aa (pv 2) ae)))
   (aj (aC (ap xw (al tD (by rfl) T.len zT (aa (bD (pv 0) rfl) ae)) (bf (v:=.int 50) rfl hmc ⟨_,rfl⟩) (ax _)) (ah (bB rfl rfl mFu XFu.exc zZ (aa aB ae) dk)) ao)
   (ah (dH hu (bD (pv 0) rfl) (pv 1) (pv 2) rfl)))))),?_⟩
 try dsimp only[aE,aO]
 h hs:=aM;cu bc c=true∧σ'=[§A0.x,¢c,¢z]∧af H H'
 . w;r⟨c,rfl,hc.1,fun H2 S2=>?_⟩;by_cases hg:bc c=true
   . rw[hg];e⟨_,rfl,az (fun h=>by cases h) (fun _=>hR _ _ ⟨hg,rfl,S2⟩)⟩
   . h hg':bc c=false:=by simpa using hg
     rw[hg'];e⟨_,rfl,az (fun _=>⟨hc.1,hc.2,fun y=>⟨by decide,qb hg' _ S2⟩⟩) (fun h=>absurd rfl h)⟩
 rintro σ1 H1 ⟨hg,rfl,S1⟩;h hh1:=af.house S1 hh;cu c∉h.cl.map (·.1)∧σ'=[§A0.x,¢c,¢z]∧H'=H1
 . by_cases hm:c∈h.cl.map (·.1)
   . o⟨c0,hc0,rfl⟩:=List.mem_map.mp hm;w;e⟨CH,A0.dx,_,hh1.ins,hX.c,hX.n1,_,dI,A0.d1,rfl,_,.inl ⟨_,Sum.inr c0.1,.inl hh1.cl,rfl,(er ho.cnd hc0).symm⟩,hc.1,hc.2,fun y=>⟨by decide,qk hg hm _ S1⟩⟩
   . w;e⟨CH,A0.dx,_,hh1.ins,hX.c,hX.n1,_,dI,A0.d1,rfl,none,.inl ⟨_,Sum.inr c,.inl hh1.cl,rfl,(bN hm).symm⟩,hR _ _ ⟨hm,rfl,rfl⟩⟩
 rintro σ2 H2 ⟨hm,rfl,rfl⟩;cu z∈ss∧σ'=[§A0.x,¢c,¢z]∧af H H'
 . w;r⟨A0.dx,_,hh1.ins,d9 (by d) (by d) (by d) (by d),A0,W,ss,names,h,rfl,hh1,ho,fun r H3 S3 hbk=>?_⟩;h hbk2:=af.book (af.house S3 hh1).up hbk;h hbk3:=hbk2;o⟨dxb,tb,db,so,b1,b2,b3,b4,b5⟩:=hbk2;e⟨r,rfl,dxb,_,b1,bP (by d) (by d),r,_,_,z,rfl,hbk3,hz,fun hzs=>hR _ _ ⟨((ho.on 400).2.2 z).mp hzs,rfl,S1.trans S3⟩,fun hzs=>qs hg hm (fun y=>hzs (((ho.on 400).2.2 z).mpr y)) _ (S1.trans S3)⟩
 rintro σ3 H3 ⟨hzs,rfl,S3⟩;h hh3:=af.house S3 hh;cu h.cl.length < 50∧σ'=[§A0.x,¢c,¢z]∧H'=H3
 . w;r⟨CH,A0.dx,_,hh3.ins,hX.c,hX.n1,_,dI,A0.d1,rfl,_,hh3.cl,?_⟩;rw[rM];e az (fun h5=>⟨by decide,qf hg hm hzs (by m) _ S3⟩) (fun h5=>hR _ _ ⟨by m,rfl,rfl⟩)
 rintro σ4 H4 ⟨h50,rfl,rfl⟩;o⟨n1,n2,n3,n4,n5⟩:=hh3.xd;w;r⟨CH,A0.dx,_,hh3.ins,hX.c,hX.n1,_,dI,A0.d1,rfl,_,.inl ⟨_,Sum.inr c,hh3.cl,rfl,by rw[rM];m,rfl⟩,?_⟩;rw[vU hm];h eh:hid (upd H4 A0.d1 (.dK (clV (h.cl++[(c,z)])))) A0=hid H4 A0:=gp (.inr (.inl rfl));r q hg hm hzs h50 _ (by rw[eh];e cj S3) ?_;o⟨h1,h2,⟨ps,h3,h4,h5⟩,⟨rs,h6,h7,h8⟩,h9,h10⟩:=hh3;e⟨by rw[ai n1];e h1,ac,⟨ps,by rw[ai (Ne.symm n4)];e h3,h4,h5⟩,⟨rs,by rw[ai (Ne.symm h9)];e h6,h7,h8⟩,h9,by rw[eh];e h10⟩
þ gG {ss names:List Str}{h:Hs}(ho:bK ss names h){c:Str}(hc:c∈h.cl.map (·.1)) (d:Int):aX h c d∈ss:=by
 unfold aX
 split
 . rename_i e he;h hm:=List.mem_of_getLast? he;unfold aZ at hm;o⟨x,hx,rfl⟩:=List.mem_map.mp hm;e ho.ds x (List.mem_filter.mp hx).1
 . o⟨c0,hc0,rfl⟩:=List.mem_map.mp hc;rw[dt ho.cnd hc0];e ho.csh c0 hc0
noncomputable def tZ (CH CB cNC cNB cND cLa cFu:Addr):Sp:=fun vs H Q E=>∃ (A:Ad)(W:Hp)(ss names:List Str) (h:Hs) (c b:Str) (d:Int),vs=[.ref A.x,.str c,.str b,.int d]∧aJ H CH CB A W ss h∧bK ss names h∧Shw c∧Shw b∧(c∉h.cl.map (·.1)→∀ H',af H H'→E (.ref cNC) none H')∧(c∈h.cl.map (·.1)→b∉names→∀ H',af H H'→E (.ref cNB) none H')∧(c∈h.cl.map (·.1)→b∈names→¬(1≤d∧d≤400)→∀ H',af H H'→E (.ref cND) none H')∧(c∈h.cl.map (·.1)→b∈names→(1≤d∧d≤400)→d < h.day→∀ H',af H H'→E (.ref cLa) none H')∧(c∈h.cl.map (·.1)→b∈names→(1≤d∧d≤400)→h.day≤d→1000≤h.dp.length→∀ H',af H H'→E (.ref cFu) none H')∧(c∈h.cl.map (·.1)→b∈names→(1≤d∧d≤400)→h.day≤d→h.dp.length < 1000→∀ H' W',af (hid H A) (hid H' A)→dM H W W'→aJ H' CH CB A W' ss { h with day:=d,dp:=h.dp++[(d,c,b,lkB (aV h.bk d).1 (aV h.bk d).2 b (aX h c d))] }→Q (.str (lkB (aV h.bk d).1 (aV h.bk d).2 b (aX h c d))) H')
þ vt:ay ["self", "cloth", "bath", "day", "out"] ["self", "cloth", "bath", "day"] (ar vy):=®
þ wP {f fHC fHN fMC fHD fHB fHS fMO:Addr}{fd fdHC fdHN fdMC fdHD fdHB fdHS fdMO:FuncData}{CH CB cFu cLa cNB cNC cND:Addr}(F:Fun K "dip" "House.dip" vy f fd)
   (T:Txt mg)(hX:Hx K mg CH)(cB:Cls K CB)(XFu:ExcC K cFu)(mFu:mg "Full"=§cFu)
   (GHC:Cm P w K mg base (CX1 P w) 1 CH "check_cloth" ["self", "cloth"] (uN CH CB cNC) fHC fdHC)
   (GHN:Cm P w K mg base (CX1 P w) 3 CH "newest_book" ["self"] (l9 CH CB) fHN fdHN)
   (GMC:Cm P w K mg base (CX1 P w) 1 CB "check_bath" ["self", "bath"] (iJ CB cNB) fMC fdMC)
   (GHD:Cm P w K mg base (CX1 P w) 2 CH "check_day_to_do" ["self", "day"] (rb CH CB cND cLa) fHD fdHD)
   (GHB:Cm P w K mg base (CX1 P w) 2 CH "book" ["self", "day"] (ia CH CB cND) fHB fdHB)
   (GHS:Cm P w K mg base (CX1 P w) 3 CH "shade" ["self", "cloth", "day"] (gX CH CB cNC cND) fHS fdHS)
   (GMO:Cm P w K mg base CX0 2 CB "out" ["self", "bath", "shade"] (qN CB) fMO fdMO) :
   aW P w K mg base (CX1 P w) 5 f fd ["self", "cloth", "bath", "day"] (tZ CH CB cNC cNB cND cLa cFu):=by
 fx vt;o⟨A0,W,ss,names,h,c,b,d,rfl,hh,ho,hc,hb,qc,qb,qd,ql,qf,q⟩:=h;o⟨_,hmd⟩:=hX.md;h cH:=hX.c;h hr1:=hr.mono (j:=1) (by m);h hr2:=hr.mono (j:=2) (by m);h hr3:=hr.mono (j:=3) (by m)
 r⟨_,(aj (aR (pM (pv 0) cH GHC hr1 bE (aa (pv 1) ae)))
   (aj (aR (ii (pM0 (pv 0) cH GHN hr3 bE) cB GMC.h GMC.g hr1 GMC.b .nil bE (aa (pv 2) ae)))
   (aj (aR (pM (pv 0) cH GHD hr2 bE (aa (pv 3) ae)))
   (aj (aC (ap xw (al av (by rfl) T.len zT (aa (bD (pv 0) rfl) ae)) (bf (v:=.int 1000) rfl hmd ⟨_,rfl⟩) (ax _)) (ah (bB rfl rfl mFu XFu.exc zZ (aa aB ae) dk)) ao)
   (aj (aL (i:=4) vt.nd rfl (Or.inl rfl) (ii (pM (pv 0) cH GHB hr2 bE (aa (pv 3) ae)) cB GMO.h GMO.g hr2 GMO.b .nil aA (aa (pv 2) (aa (pM (pv 0) cH GHS hr3 bE (aa (pv 1) (aa (pv 3) ae))) ae))))
   (aj (aR (eK Ak Aw Ax bT (bD (pv 0) rfl) (aa (bS (aa (pv 3) (aa (pv 1) (aa (pv 2) (aa (pv 4) ae))))) ae)))
   (aj (eI (pv 0) (pv 3) rfl)
   (ah (aq (pv 4)))))))))),?_⟩
 try dsimp only[aE,aO]
 h hs:=aM;h lo:∀ {m:Str}{dd:Int},(m==¶"first_shades")=false→(m==¶"day_now")=false→(m==¶"standing")=false→(m==¶"books_from")=false→Af m (hfs A0 dd)=none:=fun h1 h2 h3 h4=>d9 h1 h2 h3 h4;cu c∈h.cl.map (·.1)∧σ'=[§A0.x,¢c,¢b,£d,none]∧H'=H
 . w;e⟨A0.dx,_,hh.ins,lo (by d) (by d) (by d) (by d),A0,W,ss,h,c,rfl,hh,hc,ho.cnd,fun hm=>hR _ _ ⟨hm,rfl,rfl⟩,fun hm=>qc hm _ (af.refl H)⟩
 rintro σ1 H1 ⟨hm,rfl,rfl⟩;cu b∈names∧σ'=[§A0.x,¢c,¢b,£d,none]∧af H1 H'
 . w;r⟨A0.dx,_,hh.ins,lo (by d) (by d) (by d) (by d),A0,W,ss,names,h,rfl,hh,ho,fun r H3 S3 hbk=>?_⟩;h hbk2:=af.book (af.house S3 hh).up hbk;h hbk3:=hbk2;o⟨dxb,tb,db,so,b1,b2,b3,b4,b5⟩:=hbk2;o⟨B,hN,_⟩:=ho.on 400;e⟨r,rfl,dxb,_,b1,bP (by d) (by d),r,_,_,b,rfl,hbk3,B,hb,fun hzs=>hR _ _ ⟨(hN b).mp hzs,rfl,S3⟩,fun hzs=>qb hm (fun z=>hzs ((hN b).mpr z)) _ S3⟩
 rintro σ2 H2 ⟨hbn,rfl,S2⟩;h hh2:=af.house S2 hh;cu (1≤d∧d≤400)∧h.day≤d∧σ'=[§A0.x,¢c,¢b,£d,none]∧H'=H2
 . w;e⟨A0.dx,_,hh2.ins,lo (by d) (by d) (by d) (by d),A0,W,ss,h,d,rfl,hh2,fun hd hl=>hR _ _ ⟨hd,hl,rfl,rfl⟩,fun hd=>qd hm hbn hd _ S2,fun hd hl=>ql hm hbn hd hl _ S2⟩
 rintro σ3 H3 ⟨hd,hl,rfl,rfl⟩;o⟨ps,hls,hpl,hpT⟩:=hh2.dp;cu h.dp.length < 1000∧σ'=[§A0.x,¢c,¢b,£d,none]∧H'=H3
 . w;r⟨CH,A0.dx,_,hh2.ins,hX.c,hX.n3,_,f9,A0.ls,rfl,_,.inl (SqL.of hls),?_⟩;rw[be,hpl];e az (fun h5=>⟨by decide,qf hm hbn hd hl (by m) _ S2⟩) (fun h5=>hR _ _ ⟨by m,rfl,rfl⟩)
 rintro σ4 H4 ⟨h1000,rfl,rfl⟩;o⟨B,hN,hZ⟩:=ho.on d;cu σ'=[§A0.x,¢c,¢b,£d,some (.str (lkB (aV h.bk d).1 (aV h.bk d).2 b (aX h c d)))]∧af H4 H'
 . w;r⟨A0.dx,_,hh2.ins,lo (by d) (by d) (by d) (by d),A0,W,ss,names,h,d,rfl,hh2,ho,fun _ r H5 S5 hbk=>?_,fun hn=>absurd hd hn⟩;h hbk2:=af.book (af.house S5 hh2).up hbk;h hbk3:=hbk2;o⟨dxb,tb,db,so,b1,b2,b3,b4,b5⟩:=hbk2;r⟨r,rfl,dxb,_,b1,bP (by d) (by d),A0.dx,_,S5 _ _ hh2.ins,lo (by d) (by d) (by d) (by d),A0,W,ss,names,h,c,d,rfl,af.house S5 hh2,ho,hc,fun _ _ H6 S6=>?_,fun hn=>absurd hm hn,fun _ hn=>absurd hd hn⟩;o⟨bb,hbb,rfl⟩:=List.mem_map.mp ((hN b).mpr hbn);r⟨r,_,_,bb,_,rfl,af.book S6 hbk3,B,hbb,(hZ _).mpr (gG ho hm d),?_⟩;rw[←eD _ B.bnd hbb];e hR _ _ ⟨rfl,S5.trans S6⟩
 rintro σ5 H5 ⟨rfl,S5⟩;generalize hout:lkB (aV h.bk d).1 (aV h.bk d).2 b (aX h c d)=out at q;h hh5:=af.house S5 hh2;o⟨n1,n2,n3,n4,n5⟩:=hh5.xd;h hls5:=S5 _ _ hls;cu ∃ t,σ'=[§A0.x,¢c,¢b,£d,¢out]∧H5 t=none∧H'=upd (upd H5 t (.tup [.int d,.str c,.str b,.str out])) A0.ls (.lst (ps.map V.ref++[V.ref t]))
 . w;r⟨CH,A0.dx,_,hh5.ins,hX.c,hX.n3,_,f9,?_⟩;r⟨.inl ⟨rfl,_,SqL.of hls5⟩,by m,fun t ht=>⟨A0.ls,rfl,_,?_,by rw[be];m,hR _ _ ⟨t,rfl,ht,rfl⟩⟩⟩;rw[ai (aF hls5 ht)];e hls5
 rintro σ6 H6 ⟨t,rfl,ht,rfl⟩;h htx:A0.x≠t:=aF hh5.ins ht;h htl:A0.ls≠t:=aF hls5 ht;cu σ'=[§A0.x,¢c,¢b,£d,¢out]∧H'=upd (upd (upd H5 t (.tup [.int d,.str c,.str b,.str out])) A0.ls (.lst (ps.map V.ref++[V.ref t]))) A0.x (.ins CH A0.dx (hfs A0 d))
 . w;r⟨CH,A0.dx,_,by rw[ai n2,ai htx];e hh5.ins,hX.c,hX.n2,by show 4 < 1000;decide,hR _ _ ⟨rfl,?_⟩⟩;rw[pFd]
 rintro σ7 H7 ⟨rfl,rfl⟩;w
 h e1:hid (upd (upd (upd H5 t (.tup [.int d,.str c,.str b,.str out])) A0.ls (.lst (ps.map V.ref++[V.ref t]))) A0.x (.ins CH A0.dx (hfs A0 d))) A0=hid (upd H5 t (.tup [.int d,.str c,.str b,.str out])) A0:=by
   rw[gp (.inl rfl),gp (.inr (.inr (.inl rfl)))]
 h St:af H5 (upd H5 t (.tup [.int d,.str c,.str b,.str out])):=af.updN ht;o⟨h1,h2,⟨ps',h3,h4,h5⟩,⟨rs,h6,h7,h8⟩,h9,h10⟩:=hh5
 h hWt:W t=none:=by
   h hx:hid H5 A0 t=none:=by unfold hid;rw[ht];split<;>rfl
   e h10.free hx
 h htd:A0.d1≠t:=aF h2 ht;h htb:A0.db≠t:=aF h6 ht;h SW:af W (upd W t (.tup [.int d,.str c,.str b,.str out])):=af.updN hWt;r q hm hbn hd hl h1000 _ (upd W t (.tup [.int d,.str c,.str b,.str out])) (by rw[e1];e cj ((S2.trans S5).trans St)) ⟨SW,fun y o hy hHy=>?_⟩ ?_
 . h hyt:y≠t:=fun z=>by rw[z] at hHy;have:=(S2.trans S5) _ _ hHy;rw[ht] at this;cases this
   rw[ai hyt];e hy
 h eps:ps'=ps:=by
   rw[hls5] at h3
   h h3':ps.map V.ref=ps'.map V.ref:=by simpa using h3
   e(List.map_inj_right (fun a b e=>by simpa using e)).mp h3'.symm
 subst eps;r⟨ac,by rw[ai (Ne.symm n1),ai n4,ai htd];e h2,⟨ps'++[t],by rw[ai (Ne.symm n2),ac,zQ];rfl,by rw[zL,zL,h4];rfl,?_⟩,⟨rs,by rw[ai (Ne.symm n3),ai (Ne.symm n5),ai htb];e h6,h7,fun i r e hr he=>af.book SW (h8 i r e hr he)⟩,h9,?_⟩
 . intro i p e hp he;by_cases hi:i < ps'.length
   . rw[zU hi] at hp;rw[zU (by m)] at he;e SW _ _ (h5 i p e hp he)
   . h hj:i=ps'.length:=by
       have:=(List.getElem?_eq_some_iff.mp hp).1;rw[zL,zR] at this;m
     subst hj;rw[zP (zN _),Ay] at hp;rw[zP (by m),h4,Ay] at he;cases hp;cases he;e ac
 . rw[e1,mU (Ne.symm htx) (Ne.symm htd) (Ne.symm htl) (Ne.symm htb)];intro y o hy;by_cases hyt:y=t
   . rw[hyt,ac] at hy;rw[hyt,ac];e hy
   . rw[ai hyt] at hy;rw[ai hyt];e h10 _ _ hy
þ jb (dp:List (Int×Str×Str×Str)) (d:Int) (c b o z:Str) (e:Int):aZ (dp++[(d,c,b,o)]) z e=aZ dp z e++(if c=z∧d≤e then[(d,b,o)] else[]):=by
 unfold aZ;rw[AQ,zQ]
 congr 1
 by_cases h:c=z∧d≤e
 . rw[if_pos h];simp[h.1,h.2]
 . rw[if_neg h]
   h:(decide (c=z)&&decide (d≤e))=false:=by
     rw[Bool.and_eq_false_iff];by_cases hc:c=z
     . e .inr (decide_eq_false fun z=>h ⟨hc,z⟩)
     . e .inl (decide_eq_false hc)
   simp[this]
þ jc (h:Hs) (d:Int) (c b o z:Str) (e dy:Int):aX { h with day:=dy,dp:=h.dp++[(d,c,b,o)] } z e=if c=z∧d≤e then o else aX h z e:=by
 unfold aX;show(match (aZ (h.dp++[(d,c,b,o)]) z e).getLast? with | some e=>e.2.2 | none=>_)=_;rw[jb];by_cases hc:c=z∧d≤e
 . rw[if_pos hc,if_pos hc,List.getLast?_append];rfl
 . rw[if_neg hc,if_neg hc,AK]
   all_goals rfl
þ bK.dip {ss names:List Str}{h:Hs}{d:Int}{c b o:Str}(ho:bK ss names h)(hd:1≤d∧d≤400)(hl:h.day≤d)(hn:h.dp.length < 1000)(hos:o∈ss):bK ss names { h with day:=d,dp:=h.dp++[(d,c,b,o)] } :=
 ⟨ho.cnd,ho.csh,ho.cnm,hd.1,hd.2,by show(h.dp++_).length≤1000;rw[zL,zR];m,fun e he=>by
     rcases List.mem_append.mp he with he | he
     . have:=ho.dd e he;e⟨this.1,by show e.1≤d;m⟩
     . rw[List.mem_singleton.mp he];e⟨hd.1,Bv _⟩,fun e he=>by
     rcases List.mem_append.mp he with he | he
     . e ho.ds e he
     . rw[List.mem_singleton.mp he];e hos,ho.k1,ho.ks,fun e he=>by have:=ho.kd e he;e⟨this.1,by show e.1≤d;m⟩,ho.kl,ho.kb⟩
þ bK.bring {ss names:List Str}{h:Hs}{c z:Str}(ho:bK ss names h)(hc:c∉h.cl.map (·.1))(hz:z∈ss)(hg:bc c=true):bK ss names { h with cl:=h.cl++[(c,z)] } :=
 ⟨by show((h.cl++_).map _).Nodup;rw[zQ];e gR ho.cnd hc,fun e he=>by
     rcases List.mem_append.mp he with he | he
     . e ho.csh e he
     . rw[List.mem_singleton.mp he];e hz,fun e he=>by
     rcases List.mem_append.mp he with he | he
     . e ho.cnm e he
     . rw[List.mem_singleton.mp he];e hg,ho.d1,ho.d4,ho.dl,ho.dd,ho.ds,ho.k1,ho.ks,ho.kd,ho.kl,ho.kb⟩
þ bK.new {ss:List Str}{bs:List (Str×List Str)}(B:aP ss bs):bK ss (bs.map (·.1)) ⟨[],1,[],[(1,(ss,bs))]⟩ :=
 ⟨Cr,(fun e he=>by cases he),(fun e he=>by cases he),by show(1:Int)≤1;decide,by show(1:Int)≤400;decide,by show 0≤1000;decide,(fun e he=>by cases he),(fun e he=>by cases he),⟨(ss,bs),[],rfl⟩,Bl _ _,fun e he=>by rw[List.mem_singleton.mp he];e⟨by show(1:Int)≤1;decide,by show(1:Int)≤1;decide⟩,by show 1≤400;decide,fun e he=>by rw[List.mem_singleton.mp he];e⟨B,fun n=>Iff.rfl,fun z=>Iff.rfl⟩⟩
noncomputable def se (CH CB cND cLa cNo:Addr):Sp:=fun vs H Q E=>∃ (A:Ad)(W:Hp)(ss names:List Str) (h:Hs) (d:Int),vs=[.ref A.x,.int d]∧aJ H CH CB A W ss h∧bK ss names h∧(¬(1≤d∧d≤400)→∀ H',af H H'→E (.ref cND) none H')∧((1≤d∧d≤400)→d < h.day→∀ H',af H H'→E (.ref cLa) none H')∧((1≤d∧d≤400)→h.day≤d→bg h.dp d=[]→∀ H',af H H'→E (.ref cNo) none H')∧((1≤d∧d≤400)→h.day≤d→∀ e,(bg h.dp d).getLast?=some e→∀ t H',af (hid H A) (hid H' A)→H' t=some (.tup [.str e.1,.str e.2])→aJ H' CH CB A W ss { h with dp:=h.dp.dropLast }→Q (.ref t) H')
þ rN:ay ["self", "day", "dips"] ["self", "day"] (ar qo):=®
þ vL {f fHD fHP:Addr}{fd fdHD fdHP:FuncData}{CH CB cLa cND cNo:Addr}(F:Fun K "back" "House.back" qo f fd)
   (T:Txt mg)(hX:Hx K mg CH)(cB:Cls K CB)(XNo:ExcC K cNo)(mNo:mg "NoDip"=§cNo)
   (GHD:Cm P w K mg base (CX1 P w) 2 CH "check_day_to_do" ["self", "day"] (rb CH CB cND cLa) fHD fdHD)
   (GHP:Cm P w K mg base (CX1 P w) 2 CH "dips" ["self", "day"] (gT CH CB cND) fHP fdHP) :
   aW P w K mg base (CX1 P w) 4 f fd ["self", "day"] (se CH CB cND cLa cNo):=by
 fx rN;o⟨A0,W,ss,names,h,d,rfl,hh,ho,qd,ql,qn,q⟩:=h;h cH:=hX.c;h hr2:=hr.mono (j:=2) (by m)
 r⟨_,(aj (aR (pM (pv 0) cH GHD hr2 bE (aa (pv 1) ae)))
   (aj (aL (i:=2) rN.nd rfl (Or.inl rfl) (pM (pv 0) cH GHP hr2 bE (aa (pv 1) ae)))
   (aj (aC (ap bO (al av (by rfl) T.len zT (aa (pv 2) ae)) ag (ax _)) (ah (bB rfl rfl mNo XNo.exc zZ (aa aB ae) dk)) ao)
   (aj (aR (yj Ak PySem.F.slot_list_pop PySem.F.type_list_pop xS (bD (pv 0) rfl)))
   (ah (aq (am ak (pv 2) (eW dC ag) ¿))))))),?_⟩
 try dsimp only[aE,aO]
 h hs:=aM;h lo:∀ {m:Str}{dd:Int},(m==¶"first_shades")=false→(m==¶"day_now")=false→(m==¶"standing")=false→(m==¶"books_from")=false→Af m (hfs A0 dd)=none:=fun h1 h2 h3 h4=>d9 h1 h2 h3 h4;cu (1≤d∧d≤400)∧h.day≤d∧σ'=[§A0.x,£d,none]∧H'=H
 . w;e⟨A0.dx,_,hh.ins,lo (by d) (by d) (by d) (by d),A0,W,ss,h,d,rfl,hh,fun hd hl=>hR _ _ ⟨hd,hl,rfl,rfl⟩,fun hd=>qd hd _ (af.refl H),fun hd hl=>ql hd hl _ (af.refl H)⟩
 rintro σ1 H1 ⟨hd,hl,rfl,rfl⟩;cu ∃ l ps,σ'=[§A0.x,£d,§l]∧af H1 H'∧H1 l=none∧H' l=some (.lst (ps.map V.ref))∧cm H' ps ((bg h.dp d).map fun e=>[.str e.1,.str e.2])
 . w;e⟨A0.dx,_,hh.ins,lo (by d) (by d) (by d) (by d),A0,W,ss,names,h,d,rfl,hh,ho,fun _ l ps H' S' hl0 hH hT=>hR _ _ ⟨l,ps,rfl,S',hl0,hH,hT⟩,fun hn=>absurd hd hn⟩
 rintro σ2 H2 ⟨l,ps,rfl,S2,hl0,hl2,hT⟩;h hpl:=hT.1;rw[be] at hpl;cu bg h.dp d≠[]∧σ'=[§A0.x,£d,§l]∧H'=H2
 . w;r⟨_,.inl (SqL.of hl2),rfl,?_⟩;rw[be,hpl];e az (fun h0=>⟨by decide,qn hd hl (List.length_eq_zero_iff.mp (by m)) _ S2⟩) (fun h0=>hR _ _ ⟨fun e=>h0 (by rw[e];rfl),rfl,rfl⟩)
 rintro σ3 H3 ⟨hne,rfl,rfl⟩;h hh2:=af.house S2 hh;o⟨pz,hls,hpz,hpT⟩:=hh2.dp;h hdp:h.dp≠[]:=fun e=>hne (by unfold bg;rw[e];rfl);h hpz0:pz≠[]:=fun e=>hdp (List.length_eq_zero_iff.mp (by rw[←hpz,e];rfl));h hps:ps≠[]:=fun e=>hne (List.length_eq_zero_iff.mp (by rw[←hpl,e];rfl))
 h hlx:A0.ls≠l:=by
   o⟨_,hls1,_⟩:=hh.dp;e aF hls1 hl0
 cu σ'=[§A0.x,£d,§l]∧H'=upd H3 A0.ls (.lst (pz.dropLast.map V.ref))
 . w;r⟨CH,A0.dx,_,hh2.ins,hX.c,hX.n3,_,f9,.inl ⟨rfl,_,SqL.of hls⟩,A0.ls,pz.map V.ref,V.ref (pz.getLast hpz0),rfl,rfl,hls,?_,hR _ _ ⟨rfl,by rw[List.map_dropLast]⟩⟩;rw[zK,be,←List.getLast?_eq_getElem?,AH hpz0];rfl
 rintro σ4 H4 ⟨rfl,rfl⟩;w
 h ea:atI (ps.map V.ref) (-1)=some (V.ref (ps.getLast hps)):=by
   h e:ps.map V.ref=ps.dropLast.map V.ref++[V.ref (ps.getLast hps)]:=by
     rw[←Bp,←zQ,Ac hps]
   rw[e];e eM _ _
 h hlast:(bg h.dp d).getLast?=some ((bg h.dp d).getLast hne):=AH hne;h ht:=hT.2 (ps.length - 1) (ps.getLast hps) [.str ((bg h.dp d).getLast hne).1,.str ((bg h.dp d).getLast hne).2] (by rw[Bn];e zJ _) (by rw[zK,hpl,Bn,zJ (by have:=List.length_pos_iff.mpr hne;m)];rfl)
 h htl:ps.getLast hps≠A0.ls:=fun e=>by rw[e,hls] at ht;cases ht
 h e1:hid (upd H3 A0.ls (.lst (pz.dropLast.map V.ref))) A0=hid H3 A0:=gp (.inr (.inr (.inl rfl)));o⟨n1,n2,n3,n4,n5⟩:=hh2.xd;r⟨_,SqL.of (by rw[ai (Ne.symm hlx)];e hl2),_,ea,?_⟩;r q hd hl _ hlast _ _ (by rw[e1];e cj S2) (by rw[ai htl];e ht) ?_;o⟨h1,h2,⟨ps',h3,h4,h5⟩,⟨rs,h6,h7,h8⟩,h9,h10⟩:=hh2;r⟨by rw[ai n2];e h1,by rw[ai n4];e h2,⟨pz.dropLast,ac,by rw[AI,AI,hpz],fun i p e hp he=>?_⟩,⟨rs,by rw[ai (Ne.symm n5)];e h6,h7,h8⟩,h9,by rw[e1];e h10⟩
 h dl:∀ {α:Type}{xs:List α}{i:Nat}{y:α},xs.dropLast[i]?=some y→xs[i]?=some y:=fun {α xs i y} hy=>by
   rw[BM,B6] at hy
   split at hy
   . e hy
   . cases hy
 e hpT i p e (dl hp) (dl he)
noncomputable def cg (bk:List (Int×Bk)) (d:Int)(B:Bk):List (Int×Bk):=if(bk.any fun e=>decide (e.1=d))=true then bk.map (fun e=>if e.1=d then(e.1,B) else e) else bk++[(d,B)]
þ sg {d:Int}{y:Addr}{B:Bk}:∀ (bk:List (Int×Bk))(rs:List Addr),rs.length=bk.length→(bkV bk rs).map (fun kv=>if kv.1=Sum.inl d then(kv.1,V.ref y) else kv)=bkV (bk.map fun e=>if e.1=d then(e.1,B) else e) ((bk.zip rs).map fun e=>if e.1.1=d then y else e.2)
 | [],[],_=>rfl
 | [],_::_,h=>by simp at h
 | _::_,[],h=>by simp at h
 | b::bk,r::rs,h=>by
   h ih:=sg (d:=d) (y:=y) (B:=B) bk rs (by simpa using h);unfold bkV at ih ⊢;rw[A1,z8,z8,z8,z8,A1,z8,ih];by_cases e:b.1=d
   . simp[e]
   . simp[e]
þ rP {d:Int}:∀ (bk:List (Int×Bk))(rs:List Addr),rs.length=bk.length→((bkV bk rs).any fun kv=>decide (kv.1=Sum.inl d))=bk.any fun e=>decide (e.1=d)
 | [],[],_=>rfl
 | [],_::_,h=>by simp at h
 | _::_,[],h=>by simp at h
 | b::bk,r::rs,h=>by
   h ih:=rP (d:=d) bk rs (by simpa using h);unfold bkV at ih ⊢;rw[A1,z8,Bg,Bg,ih];simp
þ uG {bk:List (Int×Bk)}{rs:List Addr}(h:rs.length=bk.length):(bkV bk rs).length=bk.length:=by
 unfold bkV;rw[be,Bq,h,Cw]
þ wQ {bk:List (Int×Bk)}{rs:List Addr}{d:Int}{y:Addr}(B:Bk)(h:rs.length=bk.length):∃ rs',dw (bkV bk rs) (Sum.inl d) (V.ref y)=bkV (cg bk d B) rs'∧rs'.length=(cg bk d B).length∧∀ (i:Nat) r e,rs'[i]?=some r→(cg bk d B)[i]?=some e→(r=y∧e.2=B)∨(rs[i]?=some r∧bk[i]?=some e):=by
 unfold dw cg;rw[rP bk rs h];by_cases c:(bk.any fun e=>decide (e.1=d))=true
 . rw[if_pos c,if_pos c];r⟨_,sg bk rs h,by rw[be,be,Bq,h,Cw],fun i r e hr he=>?_⟩;rw[zK] at hr he;o⟨b,hb,rfl⟩:=Option.map_eq_some_iff.mp he;o⟨⟨b2,r2⟩,hz,rfl⟩:=Option.map_eq_some_iff.mp hr;rw[List.getElem?_zip_eq_some] at hz;o⟨h1,h2⟩:=hz;rw[hb] at h1
   h hbb:b=b2:=by simpa using h1
   subst hbb;by_cases e:b.1=d
   . r .inl ⟨?_,?_⟩
     . show(if b.1=d then y else r2)=y;rw[if_pos e]
     . rw[if_pos e]
   . r .inr ⟨?_,?_⟩
     . show rs[i]?=some (if b.1=d then y else r2);rw[if_neg e];e h2
     . rw[if_neg e];e hb
 . rw[if_neg c,if_neg c];r⟨rs++[y],?_,by rw[zL,zL,h];rfl,fun i r e hr he=>?_⟩
   . unfold bkV;rw[List.zip_append h.symm,zQ];rfl
   . by_cases hi:i < rs.length
     . rw[zU hi] at hr;rw[zU (by m)] at he;e .inr ⟨hr,he⟩
     . rw[zP (by m)] at hr;rw[zP (by m)] at he
       h hj:i - rs.length=0:=by
         have:=(List.getElem?_eq_some_iff.mp hr).1;simp only[zR] at this;m
       rw[hj] at hr;rw[show i - bk.length=0 by m] at he;cases hr;cases he;e .inl ⟨rfl,rfl⟩
noncomputable def nJ (W N:Hp):Hp:=fun a=>match W a with | some o=>some o | none=>N a
þ qD {W N:Hp}:af W (nJ W N):=fun a o e=>by
 unfold nJ;rw[e]
þ yp {W N:Hp}(h:∀ a o,N a=some o→W a=none):af N (nJ W N):=fun a o e=>by
 unfold nJ;rw[h a o e];e e
þ wI {W N H:Hp}(h1:af W H)(h2:af N H):af (nJ W N) H:=fun a o e=>by
 unfold nJ at e
 cases hw:W a with
 | some u=>rw[hw] at e;cases e;e h1 _ _ hw
 | none=>rw[hw] at e;e h2 _ _ e
þ kB {H H':Hp}{a:Addr}{o:HO}(e:cW H H' a=some o):H a=none:=by
 cases hH:H a with
 | none=>rfl
 | some u=>unfold cW at e;rw[hH] at e;cases e
noncomputable def ln (K:PySem.W.Frag)(CH CB cNB cBB cND cLa:Addr):Sp:=fun vs H Q E=>∃ (A:Ad)(W:Hp)(ss names os:List Str) (h:Hs) (b:Str)(lu:Addr) (d:Int),vs=[.ref A.x,.str b,.ref lu,.int d]∧aJ H CH CB A W ss h∧bK ss names h∧Shw b∧H lu=some (.lst (os.map V.str))∧os.length≤100∧(∀ v∈os,Shw v)∧(b∉names→∀ H',af H H'→E (.ref cNB) none H')∧(b∈names→¬GO (aV h.bk 400).1 os→∀ H',af H H'→E (.ref cBB) none H')∧(b∈names→GO (aV h.bk 400).1 os→¬(1≤d∧d≤400)→∀ H',af H H'→E (.ref cND) none H')∧(b∈names→GO (aV h.bk 400).1 os→(1≤d∧d≤400)→(d < h.day∨bg h.dp d≠[])→∀ H',af H H'→E (.ref cLa) none H')∧(b∈names→GO (aV h.bk 400).1 os→(1≤d∧d≤400)→h.day≤d→bg h.dp d=[]→∀ so ns H' W',kZ (aV h.bk 400).1 so ns (aV h.bk 400).2→aP so (ns.map (chB (aV h.bk 400).1 so (aV h.bk 400).2 b os))→af (hid H A) (hid H' A)→dM H W W'→aJ H' CH CB A W' ss { h with day:=d,bk:=cg h.bk d (so,ns.map (chB (aV h.bk 400).1 so (aV h.bk 400).2 b os)) }→Q .non H')
þ lI:ay ["self", "bath", "outs", "day", "newer"] ["self", "bath", "outs", "day"] (ar jQ):=®
þ qw {f fHN fMX fHD fHP:Addr}{fd fdHN fdMX fdHD fdHP:FuncData}{CH CB cBB cLa cNB cND:Addr}(F:Fun K "change" "House.change" jQ f fd)
   (T:Txt mg)(hX:Hx K mg CH)(cB:Cls K CB)(XLa:ExcC K cLa)(mLa:mg "Late"=§cLa)
   (GHN:Cm P w K mg base (CX1 P w) 3 CH "newest_book" ["self"] (l9 CH CB) fHN fdHN)
   (GMX:Cm P w K mg base (CX1 P w) 6 CB "changed" ["self", "bath", "outs"] (kR K CB cNB cBB) fMX fdMX)
   (GHD:Cm P w K mg base (CX1 P w) 2 CH "check_day_to_do" ["self", "day"] (rb CH CB cND cLa) fHD fdHD)
   (GHP:Cm P w K mg base (CX1 P w) 2 CH "dips" ["self", "day"] (gT CH CB cND) fHP fdHP) :
   aW P w K mg base (CX1 P w) 7 f fd ["self", "bath", "outs", "day"] (ln K CH CB cNB cBB cND cLa):=by
 fx lI;o⟨A0,W,ss,names,os,h,b,lu,d,rfl,hh,ho,hb,hlu,hol,hsh,qb,qg,qd,ql,q⟩:=h;h hu:=eF hr;h cH:=hX.c;h hr2:=hr.mono (j:=2) (by m);h hr3:=hr.mono (j:=3) (by m);h hr6:=hr.mono (j:=6) (by m)
 r⟨_,(aj (aL (i:=4) lI.nd rfl (Or.inl rfl) (ii (pM0 (pv 0) cH GHN hr3 bE) cB GMX.h GMX.g hr6 GMX.b .nil bE (aa (pv 1) (aa (pv 2) ae))))
   (aj (aR (pM (pv 0) cH GHD hr2 bE (aa (pv 3) ae)))
   (aj (aC (ap fJ (al av (by rfl) T.len zT (aa (pM (pv 0) cH GHP hr2 bE (aa (pv 3) ae)) ae)) ag (ax _)) (ah (bB rfl rfl mLa XLa.exc zZ (aa aB ae) dk)) ao)
   (aj (dH hu (bD (pv 0) rfl) (pv 3) (pv 4) rfl)
   (ah (eI (pv 0) (pv 3) rfl)))))),?_⟩
 try dsimp only[aE,aO]
 h hs:=aM;h lo:∀ {m:Str}{dd:Int},(m==¶"first_shades")=false→(m==¶"day_now")=false→(m==¶"standing")=false→(m==¶"books_from")=false→Af m (hfs A0 dd)=none:=fun h1 h2 h3 h4=>d9 h1 h2 h3 h4;o⟨B,hN,hZ⟩:=ho.on 400;generalize hbk0:aV h.bk 400=bz at *;cu ∃ y so ns,b∈names∧GO bz.1 os∧σ'=[§A0.x,¢b,§lu,£d,§y]∧af H H'∧H y=none∧kZ bz.1 so ns bz.2∧aP so (ns.map (chB bz.1 so bz.2 b os))∧bx (cW H H') CB y so (ns.map (chB bz.1 so bz.2 b os))
 . w;r⟨A0.dx,_,hh.ins,lo (by d) (by d) (by d) (by d),A0,W,ss,names,h,rfl,hh,ho,fun r H3 S3 hbk=>?_⟩;rw[hbk0] at hbk;h hbk2:=af.book (af.house S3 hh).up hbk;h hbk3:=hbk2;o⟨dxb,tb,db,so,b1,b2,b3,b4,b5⟩:=hbk2;r⟨r,rfl,dxb,_,b1,bP (by d) (by d),r,lu,bz.1,os,bz.2,b,rfl,hbk3,B,hb,S3 _ _ hlu,hol,hsh,fun hn=>qb (fun z=>hn ((hN b).mpr z)) _ S3,fun hm hg H4 S4=>qg ((hN b).mp hm) hg _ (S3.trans S4),fun hm hg y so ns H4 hy S4 CI B2 hbk4=>hR _ _ ⟨y,so,ns,(hN b).mp hm,hg,rfl,S3.trans S4,S3.free hy,CI,B2,af.book (gL S3) hbk4⟩⟩
 rintro σ1 H1 ⟨y,so,ns,hm,hg,rfl,S1,hy,CI,B2,hbk⟩;h hh1:=af.house S1 hh;cu (1≤d∧d≤400)∧h.day≤d∧σ'=[§A0.x,¢b,§lu,£d,§y]∧H'=H1
 . w;e⟨A0.dx,_,hh1.ins,lo (by d) (by d) (by d) (by d),A0,W,ss,h,d,rfl,hh1,fun hd hl=>hR _ _ ⟨hd,hl,rfl,rfl⟩,fun hd=>qd hm hg hd _ S1,fun hd hl=>ql hm hg hd (.inl hl) _ S1⟩
 rintro σ2 H2 ⟨hd,hl,rfl,rfl⟩;cu bg h.dp d=[]∧σ'=[§A0.x,¢b,§lu,£d,§y]∧af H2 H'
 . w;r⟨A0.dx,_,hh1.ins,lo (by d) (by d) (by d) (by d),A0,W,ss,names,h,d,rfl,hh1,ho,fun _ l ps H' S' hl0 hH hT=>?_,fun hn=>absurd hd hn⟩;h hpl:=hT.1;rw[be] at hpl;r⟨l,rfl,_,.inl (SqL.of hH),?_⟩;rw[be,hpl];e az (fun h0=>⟨by decide,ql hm hg hd (.inr fun e=>by rw[e] at h0;e absurd h0 (by decide)) _ (S1.trans S')⟩) (fun h0=>hR _ _ ⟨List.length_eq_zero_iff.mp (by m),rfl,S'⟩)
 rintro σ3 H3 ⟨hno,rfl,S3⟩;h hh3:=af.house S3 hh1;o⟨n1,n2,n3,n4,n5⟩:=hh3.xd;o⟨h1,h2,⟨ps',h3,h4,h5⟩,⟨rs,h6,h7,h8⟩,h9,h10⟩:=hh3;o⟨rs',hput,hrl,hrs⟩:=wQ (d:=d) (y:=y) (so,ns.map (chB bz.1 so bz.2 b os)) h7;h hkl:=ho.kl;cu σ'=[§A0.x,¢b,§lu,£d,§y]∧H'=upd H3 A0.db (.dK (bkV (cg h.bk d (so,ns.map (chB bz.1 so bz.2 b os))) rs'))
 . w;r⟨CH,A0.dx,_,h1,hX.c,hX.n4,_,kK,A0.db,rfl,_,.inl ⟨_,Sum.inl d,h6,rfl,by rw[uG h7];m,rfl⟩,?_⟩;rw[hput];e hR _ _ ⟨rfl,rfl⟩
 rintro σ4 H4 ⟨rfl,rfl⟩;w;r⟨CH,A0.dx,_,by rw[ai n3];e h1,hX.c,hX.n2,by show 4 < 1000;decide,?_⟩;rw[pFd];h hWN:∀ a o,cW H H2 a=some o→W a=none:=fun a o e=>hh.up.free (kB e)
 h SN:af (cW H H2) (hid H3 A0):=fun a o e=>by
   h e0:=kB e;o⟨_,z3,_,_⟩:=hh.dp;o⟨_,z4,_,_⟩:=hh.bk;unfold hid
   rw[if_neg (fun z=>by
     rcases z with z | z | z | z
     . rw[z,hh.ins] at e0;cases e0
     . rw[z,hh.cl] at e0;cases e0
     . rw[z,z3] at e0;cases e0
     . rw[z,z4] at e0;cases e0)]
   e S3 _ _ (lv _ _ e)
 h e1:∀ u v,hid (upd (upd H3 A0.db u) A0.x v) A0=hid H3 A0:=fun u v=>by
   rw[gp (.inl rfl),gp (.inr (.inr (.inr rfl)))]
 r q hm hg hd hl hno so ns _ (nJ W (cW H H2)) CI B2 (by rw[e1];e cj (S1.trans S3)) ⟨qD,fun a o hw hH=>?_⟩ ⟨ac,by rw[ai (Ne.symm n1),ai h9];e h2,⟨ps',by rw[ai (Ne.symm n2),ai n5];e h3,h4,fun i p e hp he=>qD _ _ (h5 i p e hp he)⟩,⟨rs',by rw[ai (Ne.symm n3),ac],hrl,fun i r e hr he=>?_⟩,h9,by rw[e1];e wI h10 SN⟩
 . unfold nJ cW;rw[hw,hH]
 . rcases hrs i r e hr he with ⟨rfl,he2⟩ | ⟨hr2,he2⟩
   . rw[he2];e af.book (yp hWN) hbk
   . e af.book qD (h8 i r e hr2 he2)
þ bK.back {ss names:List Str}{h:Hs}(ho:bK ss names h):bK ss names { h with dp:=h.dp.dropLast } :=
 ⟨ho.cnd,ho.csh,ho.cnm,ho.d1,ho.d4,by show h.dp.dropLast.length≤1000;rw[AI];have:=ho.dl;m,fun e he=>ho.dd e ((Ba _).subset he),fun e he=>ho.ds e ((Ba _).subset he),ho.k1,ho.ks,ho.kd,ho.kl,ho.kb⟩
þ iX {bk:List (Int×Bk)}{d:Int}{B:Bk}{e:Int×Bk}(h:e∈cg bk d B):e=(d,B)∨e∈bk:=by
 unfold cg at h
 split at h
 . o⟨x,hx,rfl⟩:=List.mem_map.mp h;by_cases c:x.1=d
   . rw[if_pos c,c];e .inl rfl
   . rw[if_neg c];e .inr hx
 . rcases List.mem_append.mp h with h | h
   . e .inr h
   . e .inl (List.mem_singleton.mp h)
þ u5:∀ {bk:List (Int×Bk)}{lo hi:Int},bk.Pairwise (fun a b=>a.1 < b.1)→(∀ e∈bk,lo≤e.1∧e.1≤hi)→lo≤hi+1→(bk.length:Int)≤hi - lo+1
 | [],_,_,_,_,h=>by simp;m
 | a::r,lo,hi,hp,hb,_=>by
   h h1:=List.pairwise_cons.mp hp;h h2:=hb a zV;have:=u5 (bk:=r) (lo:=a.1+1) (hi:=hi) h1.2 (fun e he=>⟨by have:=h1.1 e he;m,(hb e (zX _ he)).2⟩) (by m);rw[Av]
   push_cast
   m
þ bK.change {ss names:List Str}{h:Hs}{d:Int}{B:Bk}(ho:bK ss names h)(hd:1≤d∧d≤400)(hl:h.day≤d)(hB:aP B.1 B.2∧(∀ n,n∈B.2.map (·.1)↔n∈names)∧∀ z,z∈B.1↔z∈ss):bK ss names { h with day:=d,bk:=cg h.bk d B }:=by
 h hks:(cg h.bk d B).Pairwise (fun a b=>a.1 < b.1):=by
   unfold cg
   split
   . rw[List.pairwise_map];r ho.ks.imp fun {a b} hab=>?_
     h e:∀ x:Int×Bk,(if x.1=d then(x.1,B) else x).1=x.1:=fun x=>by split<;>rfl
     rw[e,e];e hab
   . rename_i hn;rw[Bt];r⟨ho.ks,Bl ..,fun a ha b hb=>?_⟩;rw[List.mem_singleton.mp hb];show a.1 < d;h h1:=(ho.kd a ha).2;h h2:a.1≠d:=fun e=>hn (List.any_eq_true.mpr ⟨a,ha,decide_eq_true e⟩);m
 h hkd:∀ e∈cg h.bk d B,1≤e.1∧e.1≤d:=fun e he=>by
   rcases iX he with rfl | he
   . e⟨hd.1,Bv _⟩
   . have:=ho.kd e he;e⟨this.1,by m⟩
 r⟨ho.cnd,ho.csh,ho.cnm,hd.1,hd.2,ho.dl,fun e he=>by have:=ho.dd e he;e⟨this.1,by show e.1≤d;m⟩,ho.ds,?_,hks,hkd,?_,fun e he=>?_⟩
 . o⟨b,r,hb⟩:=ho.k1;show ∃ b r,cg h.bk d B=(1,b)::r;unfold cg;rw[hb]
   split
   . rw[z8];by_cases c:(1:Int)=d
     . e⟨B,_,by rw[if_pos c]⟩
     . e⟨b,_,by rw[if_neg c]⟩
   . e⟨b,_,rfl⟩
 . have:=u5 hks hkd (by m);show(cg h.bk d B).length≤400;m
 . rcases iX he with rfl | he
   . e hB
   . e ho.kb e he
þ bK.ch {ss names so ns os:List Str}{h:Hs}{b:Str}(ho:bK ss names h)(CI:kZ (aV h.bk 400).1 so ns (aV h.bk 400).2)(B2:aP so (ns.map (chB (aV h.bk 400).1 so (aV h.bk 400).2 b os))):aP so (ns.map (chB (aV h.bk 400).1 so (aV h.bk 400).2 b os))∧(∀ n,n∈(ns.map (chB (aV h.bk 400).1 so (aV h.bk 400).2 b os)).map (·.1)↔n∈names)∧∀ z,z∈so↔z∈ss:=by
 o⟨_,hN,hZ⟩:=ho.on 400
 h e:(ns.map (chB (aV h.bk 400).1 so (aV h.bk 400).2 b os)).map (·.1)=ns:=by
   rw[Ao];e List.map_id ns
 r⟨B2,fun n=>?_,fun z=>?_⟩
 . rw[e,CI.pn.mem_iff];e hN n
 . rw[CI.ps.mem_iff];e hZ z
noncomputable def mH (K:PySem.W.Frag):Sp:=fun vs H Q _=>∃ (a b:Addr)(xs:List Str),vs=[.ref a,.ref b]∧H a=some (.lst (xs.map V.str))∧SqL K H b (xs.map V.str)∧xs.length≤1000∧Q (.bl true) H
þ rn:ay ["_law_found", "_law_due_here", "_law_k"] ["_law_found", "_law_due_here"] (ar qv):=®
þ vm {f:Addr}{fd:FuncData}(F:Fun K "_law_texts" "_law_texts" qv f fd)(T:Txt mg):aW P w K mg base CX0 1 f fd ["_law_found", "_law_due_here"] (mH K):=by
 fo rn;o⟨a,b,xs,rfl,ha,hb,hlen,q⟩:=h
 r⟨_,aN (aC (PW.pt (em (bW (bF (al cr (by rfl) T.isi (by d) (aa (pv 0) (aa (cJ (v:=.ty "list") rfl T.list (by d) rfl) ae))))) (cM (ap i6 (al av (by rfl) T.len zT (aa (pv 0) ae)) (al av (by rfl) T.len zT (aa (pv 1) ae)) (ax _))))) (ah (aq cx)) ao)
   (aN (bC PassesOwn.never rfl (ck rfl T.range (aa (al av (by rfl) T.len zT (aa (pv 1) ae)) ae)) (aw (i:=2) rn.nd rfl (Or.inl rfl))
     (ah (aC (PW.pt (em (bW (bF (al cr (by rfl) T.isi (by d) (aa (am ak (pv 0) (pv 2) ¿) (aa (cJ (v:=.ty "str") rfl T.str (by d) rfl) ae))))) (cM (ap i6 (am ak (pv 0) (pv 2) ¿) (am ak (pv 1) (pv 2) ¿) (ax _))))) (ah (aq cx)) ao)))
   (ah (aq cx))),?_⟩
 try dsimp only[aE,aO]
 h hs:=aM;w;r⟨_,cz.lst ha,true,rfl,az (fun h=>by cases h) (fun _=>⟨_,.inl (SqL.of ha),_,.inl hb,rfl,?_⟩)⟩;r az (fun h=>absurd rfl h) (fun _=>⟨_,.inl hb,?_⟩);rw[be];r⟨by m,by m,?_⟩;r bj (H0:=H) bv (fun i σ' H'=>∃ o,σ'=[§a,§b,o]∧H'=H) ⟨none,rfl,rfl⟩ (fun _ _ _ _ ⟨_,_,h⟩=>by rw[h];e af.refl _) ?_ ?_
 . rintro i x σ H' hi rfl ⟨o,rfl,rfl⟩
   h ei:(0:Int)+(i:Int)=i:=by m
   rw[ei];obtain⟨z,hz⟩:∃ z,xs[i]?=some z:=⟨_,zJ (by m)⟩;w;r⟨_,SqL.of ha,_,cc hz,_,cz.str z,true,rfl,az (fun h=>by cases h) (fun _=>⟨_,SqL.of ha,_,cc hz,_,hb,_,cc hz,rfl,?_⟩)⟩;r az (fun h=>absurd rfl h) (fun _=>⟨_,rfl⟩)
 . rintro σ H' ⟨o,rfl,rfl⟩;e q
noncomputable def jk (d:Addr)(H H':Hp):Prop:=∀ b o,b≠d→H b=some o→H' b=some o
þ ph {H1:Hp}{d:Addr}{kvs:List (Key×V)}{W:Obj→Hp→Prop}(h:Rd H1 d (.dK kvs))(k:∀ o HF,HF d=some (.frz o (.dK kvs))→Fz H1 HF→jk d H1 HF→W o HF) :
   (H1 d=some (.dK kvs)∧∀ o,W o (upd H1 d (.frz o (.dK kvs))))∨∃ o,H1 d=some (.frz o (.dK kvs))∧W o H1:=by
 rcases h with h | ⟨o,h⟩
 . e .inl ⟨h,fun o=>k o _ ac (tR h) (fun b u hb e=>by rw[ai hb];e e)⟩
 . e .inr ⟨o,h,k o _ h (Fz.refl _) (fun _ _ _ e=>e)⟩
noncomputable def mY (K:PySem.W.Frag)(C:Addr):Sp:=fun vs H Q _=>∃ (x lo d:Addr)(ss so ns:List Str)(bs:List (Str×List Str))(lk:Str→Str→Str),vs=[.ref x,.ref lo,.ref d]∧bx H C x ss bs∧aP ss bs∧SqL K H lo (so.map V.str)∧so.Perm ss∧Al so=true ∧
 dg H d ss ns lk∧ns.Perm (bs.map (·.1))∧(∀ b∈bs,∀ z∈ss,lk b.1 z=lkV ss b z)∧∀ H',Fz H H'→jk d H H'→Q (.bl true) H'
þ ny:ay ["_law_book", "_law_order", "_law_tables_here", "_law_bath", "_law_due_here"] ["_law_book", "_law_order", "_law_tables_here"] (ar qU):=®
þ uE {C f fT fS fB fTb fO:Addr}{fd fdT fdS fdB fdTb fdO:FuncData}(F:Fun K "_law_tells" "_law_tells" qU f fd)(T:Txt mg)(c:Cls K C)
   (GT:Cl P w K mg base CX0 1 "_law_texts" ["_law_found", "_law_due_here"] (mH K) fT fdT)
   (GS:Cm P w K mg base CX0 1 C "shades" ["self"] (ix C) fS fdS)
   (GB:Cm P w K mg base CX0 1 C "baths" ["self"] (kO C) fB fdB)
   (GTb:Cm P w K mg base CX0 2 C "table" ["self", "bath"] (jE C) fTb fdTb)
   (GO:Cm P w K mg base CX0 2 C "out" ["self", "bath", "shade"] (qN C) fO fdO) :
   aW P w K mg base CX0 3 f fd ["_law_book", "_law_order", "_law_tables_here"] (mY K C):=by
 fo ny;o⟨x,lo,d,ss,so,ns,bs,lk,rfl,hbk,B,hlo,hpm,hso,hG,hns,hlk,q⟩:=h;h hu:=eF hr;h hr1:=hr.mono (j:=1) (by m)
 r⟨_,aj (aC (PW.pt (em (bW (bF (pC GT hr1 aA (aa (pM0 (pv 0) c GS hr1 aA) (aa (pv 1) ae))))) (cM (bW (bF (pC GT hr1 aA (aa (pM0 (pv 0) c GB hr1 aA) (aa (al (dW rfl) (by rfl) T.sorted (by d) (aa (pv 2) ae)) ae)))))))) (ah (aq cx)) ao)
   (aN (bC PassesOwn.never rfl (mz (pv 2)) (aw (i:=3) ny.nd rfl (Or.inr rfl))
     (aj (jz (i:=4) (N':=["_law_shade", "_law_tables_here", "_law_bath"]) (pk:=[none,some 2,some 3]) ny.nd rfl (Or.inl rfl) rfl (bZ.of (by rfl)) (ba (pv 1)) (fun s H ex=>aw (i:=0) (by show(["_law_shade", "_law_tables_here", "_law_bath"]:List Str).Nodup;d) rfl (Or.inl rfl))
       (fun s H ex=>cy hu (cy hu (pv 1) (pv 2) ¿) (pv 0) ¿))
     (aj (aC (bW (bF (pC GT hr1 aA (aa (pM (pv 0) c GTb hr aA (aa (pv 3) ae)) (aa (pv 4) ae))))) (ah (aq cx)) ao)
     (ah (aC (bW (bF (pC GT hr1 aA (aa (fE (N':=["_law_shade", "_law_book", "_law_bath"]) (pk:=[none,some 0,some 3]) rfl (bZ.of (by rfl)) (ba (pv 1)) (fun s H ex=>aw (i:=0) (by show(["_law_shade", "_law_book", "_law_bath"]:List Str).Nodup;d) rfl (Or.inl rfl))
       (fun s H ex=>pM (pv 1) c GO hr aA (aa (pv 2) (aa (pv 0) ae)))) (aa (pv 4) ae))))) (ah (aq cx)) ao)))))
   (ah (aq cx))),?_⟩
 try dsimp only[aE,aO]
 h hs:=aM;h hs12:=B.s12;h hb8:=B.b8;h hsl:so.length=ss.length:=hpm.length_eq;r cut (fun σ' H'=>σ'=[§x,§lo,§d,none,none]∧af H H') ?_ ?_
 . o⟨dx,t,d',so',h1,h2,h3,h4,h5⟩:=hbk;h hbk:bx H C x ss bs:=⟨dx,t,d',so',h1,h2,h3,h4,h5⟩;o⟨kvs,hR,hkeys,htab⟩:=hG
   h hnl:ns.length=bs.length:=by rw[hns.length_eq,be]
   w;r⟨dx,_,h1,bP (by d) (by d),x,ss,bs,rfl,hbk,B,fun l so2 hl hp2 hs2=>?_⟩;h e2:so2=so:=cA hs2 hso (hp2.trans hpm.symm);subst e2;h Sa:af H (upd H l (.lst (so2.map V.str))):=af.updN hl;r⟨l,lo,so2,rfl,ac,Sa.seq hlo,by m,true,rfl,az (fun h=>by cases h) (fun _=>⟨dx,_,Sa _ _ h1,bP (by d) (by d),x,ss,bs,rfl,af.book Sa hbk,B,fun l2 ns2 hl2 hp3 hs3=>?_⟩)⟩;h Sb:=Sa.step (o:=.lst (ns2.map V.str)) (Sa.free hl2);r⟨ns,kvs,af.rd Sb hR,hkeys,by m,fun p ns3 hp hpp hs4=>?_⟩;h e3:ns3=ns2:=cA hs4 hs3 (hpp.trans (hns.trans hp3.symm));subst e3
   h hpl2:l2≠p:=fun e=>by rw[←e,ac] at hp;cases hp
   r⟨l2,p,ns3,rfl,by rw[ai hpl2];e ac,SqL.of ac,by rw[hpp.length_eq];m,true,rfl,az (fun h=>by cases h) (fun _=>Sb.step (Sb.free hp))⟩
 rintro σ1 H1 ⟨rfl,S1⟩;w;h hGR:=hG;o⟨kvs,hR,hkeys,htab⟩:=hGR;r⟨kvs,ph (W:=fun o HF=>t6 (Itd d o kvs) _ _ _ _ HF) (af.rd S1 hR) fun o HF hHF S2 X2=>?_⟩;h SF:Fz H HF:=(af.fz S1).trans S2;h hbkF:=Fz.book SF hbk;h hloF:SqL K HF lo (so.map V.str):=Fz.seq SF hlo;h hGF:=Fz.tabG SF hG;r bj (H0:=HF) (fL hHF) (fun i σ' H'=>∃ o3 o4,σ'=[§x,§lo,§d,o3,o4]∧af HF H') ⟨none,none,rfl,af.refl _⟩ (fun _ _ _ _ ⟨_,_,_,h⟩=>h) ?_ ?_
 . rintro i y σ H' hi ⟨k,v,hk,rfl⟩ ⟨o3,o4,rfl,hS⟩
   h hkm:k∈ns.map Sum.inr:=by
     rw[←hkeys];e zO (i:=i) (by rw[zK,hk];rfl)
   o⟨n,hn,rfl⟩:=List.mem_map.mp hkm;o⟨b,hb,rfl⟩:=List.mem_map.mp (hns.mem_iff.mp hn);h ek:kV (Sum.inr b.1)=V.str b.1:=rfl;rw[ek];w;r cut (fun σ' H''=>∃ du,σ'=[§x,§lo,§d,¢b.1,§du]∧af HF H''∧H'' du=some (.lst ((so.map (lkV ss b)).map V.str))) ?_ ?_
   . w;r⟨⟨_,hS.seq hloF⟩,fun D hD=>?_⟩;r cF (aH (hS.seq hloF)) (by rw[be];m) hD (fun σ=>∃ o,σ=[o,§d,¢b.1]) (fun k=>V.str (lkV ss b (so.getD k ⟨#[]⟩))) ⟨none,rfl⟩ ?_ ?_
     . rintro k y σ' H3 hk2 hy ⟨o,rfl⟩ hS3 R hR;rw[zK] at hy;o⟨z,hz,rfl⟩:=Option.map_eq_some_iff.mp hy;h hzs:z∈ss:=hpm.mem_iff.mp (zO hz);o⟨r,hg1,hg2⟩:=(Fz.tabG (af.fz (hS.trans hS3)) hGF).get hn hzs;w;r⟨_,hg1,r,rfl,_,hg2,?_⟩;rw[hlk b hb z hzs]
       h e:so.getD k ⟨#[]⟩=z:=by rw[zM,hz];rfl
       have:=hR [some (V.str z),some (V.ref d),some (V.str b.1)] ⟨_,rfl⟩;rw[e] at this;e this
     . h e:(zS (so.map V.str).length).map (fun k=>V.str (lkV ss b (so.getD k ⟨#[]⟩)))=(so.map (lkV ss b)).map V.str:=by
         rw[Ao];r cE _ so _ _ (by rw[be]) fun k y hy=>?_;rw[zM,hy];rfl
       rw[e];e⟨hS.step (hS.free hD),ac⟩
   rintro σ2 H2 ⟨du,rfl,S3,hdu⟩;r cut (fun σ' H''=>σ'=[§x,§lo,§d,¢b.1,§du]∧af HF H''∧H'' du=some (.lst ((so.map (lkV ss b)).map V.str))) ?_ ?_
   . o⟨dx,t,d',so',h1,h2,h3,h4,h5⟩:=hbkF;h hbkF:bx HF C x ss bs:=⟨dx,t,d',so',h1,h2,h3,h4,h5⟩;w;r⟨dx,_,S3 _ _ h1,bP (by d) (by d),x,ss,bs,b,rfl,af.book S3 hbkF,B,hb,fun l so2 hl hp2 hs2=>?_⟩;h e2:so2=so:=cA hs2 hso (hp2.trans hpm.symm);subst e2;h Sa:af H2 (upd H2 l (.lst ((so2.map (lkV ss b)).map V.str))):=af.updN hl;r⟨l,du,so2.map (lkV ss b),rfl,ac,SqL.of (Sa _ _ hdu),by rw[be];m,true,rfl,az (fun h=>by cases h) (fun _=>⟨S3.trans Sa,Sa _ _ hdu⟩)⟩
   rintro σ3 H3 ⟨rfl,S4,hdu3⟩;w;r⟨⟨_,S4.seq hloF⟩,fun D hD=>?_⟩;r cF (aH (S4.seq hloF)) (by rw[be];m) hD (fun σ=>∃ o,σ=[o,§x,¢b.1]) (fun k=>V.str (lkV ss b (so.getD k ⟨#[]⟩))) ⟨none,rfl⟩ ?_ ?_
   . rintro k y σ' H5 hk2 hy ⟨o,rfl⟩ hS5 R hR;rw[zK] at hy;o⟨z,hz,rfl⟩:=Option.map_eq_some_iff.mp hy;h hzs:z∈ss:=hpm.mem_iff.mp (zO hz);h hbk5:=af.book (S4.trans hS5) hbkF;o⟨dx,t,d',so',h1,h2,h3,h4,h5⟩:=hbk5;h hbk5:bx H5 C x ss bs:=⟨dx,t,d',so',h1,h2,h3,h4,h5⟩;w;r⟨dx,_,h1,bP (by d) (by d),x,ss,bs,b,z,rfl,hbk5,B,hb,hzs,?_⟩
     h e:so.getD k ⟨#[]⟩=z:=by rw[zM,hz];rfl
     have:=hR [some (V.str z),some (V.ref x),some (V.str b.1)] ⟨_,rfl⟩;rw[e] at this;e this
   . h e:(zS (so.map V.str).length).map (fun k=>V.str (lkV ss b (so.getD k ⟨#[]⟩)))=(so.map (lkV ss b)).map V.str:=by
       rw[Ao];r cE _ so _ _ (by rw[be]) fun k y hy=>?_;rw[zM,hy];rfl
     rw[e];h Sa:af H3 (upd H3 D (.lst ((so.map (lkV ss b)).map V.str))):=af.updN hD;e⟨D,du,so.map (lkV ss b),rfl,ac,SqL.of (Sa _ _ hdu3),by rw[be];m,true,rfl,az (fun h=>by cases h) (fun _=>⟨⟨_,rfl⟩,S4.trans Sa⟩)⟩
 . rintro σ H' ⟨o3,o4,rfl,hS⟩;w;e q _ (SF.trans (af.fz hS)) (fun b o hb e=>hS _ _ (X2 b o hb (S1 _ _ e)))
þ t9 {kvs:List (Key×V)}{k:Key}{v:V}(h:(bJ kvs k).isSome=true):(dw kvs k v).map (·.1)=kvs.map (·.1):=by
 unfold dw;rw[d6,if_pos h,Ao];r List.map_congr_left fun kv _=>?_;show(if kv.1=k then(kv.1,v) else kv).1=kv.1
 split<;>rfl
þ dg.perm {H:Hp}{d:Addr}{ss ss' ns:List Str}{lk:Str→Str→Str}(h:dg H d ss ns lk)(p:ss'.Perm ss):dg H d ss' ns lk:=by
 o⟨kvs,h1,h2,h3⟩:=h;r⟨kvs,h1,h2,fun n hn=>?_⟩;o⟨r,kv,e1,e2,e3⟩:=h3 n hn;e⟨r,kv,e1,e2,fun z hz=>e3 z (p.mem_iff.mp hz)⟩
noncomputable def d5 (so:List Str) (t:Str)(os:List Str)(lk:Str→Str→Str):Str→Str→Str:=fun n z=>if n=t then lkV so (t,os) z else lk n z
þ rp:∀ (a:Int×Bk)(r:List (Int×Bk)) (e:Int),(a::r).Pairwise (fun a b=>a.1 < b.1)→a.1≤e→∃ x∈a::r,x.1≤e∧(∀ y∈a::r,y.1≤e→y.1≤x.1)∧aV (a::r) e=x.2
 | a,[],e,_,h=>⟨a,zV,h,fun y hy _=>by rw[List.mem_singleton.mp hy];e Bv _,rfl⟩
 | a,b::r,e,hp,h=>by
   h hp2:=List.pairwise_cons.mp hp;by_cases hb:b.1≤e
   . o⟨x,hx,h1,h2,h3⟩:=rp b r e hp2.2 hb;r⟨x,zX _ hx,h1,fun y hy hye=>?_,?_⟩
     . rcases List.mem_cons.mp hy with rfl | hy
       . h h4:=hp2.1 b zV;h h5:=h2 b zV hb;m
       . e h2 y hy hye
     . show(if b.1≤e then aV (b::r) e else a.2)=x.2;rw[if_pos hb];e h3
   . r⟨a,zV,h,fun y hy hye=>?_,?_⟩
     . rcases List.mem_cons.mp hy with rfl | hy
       . e Bv _
       . rcases List.mem_cons.mp hy with rfl | hy
         . e absurd hye hb
         . have:=(List.pairwise_cons.mp hp2.2).1 y hy;m
     . show(if b.1≤e then aV (b::r) e else a.2)=a.2;rw[if_neg hb]
þ bK.ex {ss names:List Str}{h:Hs}(ho:bK ss names h){e:Int}(he:1≤e):∃ x∈h.bk,x.1≤e∧(∀ y∈h.bk,y.1≤e→y.1≤x.1)∧aV h.bk e=x.2:=by
 o⟨b1,r1,hb⟩:=ho.k1;h hks:=ho.ks;rw[hb] at hks ⊢;e rp (1,b1) r1 e hks he
þ qQ {bk:List (Int×Bk)}{d:Int}{B:Bk}:(d,B)∈cg bk d B:=by
 unfold cg
 split
 . rename_i h;o⟨x,hx,hd⟩:=List.any_eq_true.mp h;h hd:=of_decide_eq_true hd;e List.mem_map.mpr ⟨x,hx,by rw[if_pos hd,hd]⟩
 . e Ae _ zV
þ sD {bk:List (Int×Bk)}{d:Int}{B:Bk}{x:Int×Bk}(hx:x∈bk)(hd:x.1≠d):x∈cg bk d B:=by
 unfold cg
 split
 . e List.mem_map.mpr ⟨x,hx,by rw[if_neg hd]⟩
 . e AR _ hx
þ oJ {ss names:List Str}{h:Hs}{d:Int}{B:Bk}(ho:bK ss names h)(ho2:bK ss names { h with day:=d,bk:=cg h.bk d B }){e:Int}(he:1≤e):aV (cg h.bk d B) e=if d≤e then B else aV h.bk e:=by
 h hks:(cg h.bk d B).Pairwise (fun a b=>a.1 < b.1):=ho2.ks;by_cases hde:d≤e
 . rw[if_pos hde];e jt _ e d B hks qQ hde (fun x hx _=>(ho2.kd x hx).2)
 . rw[if_neg hde];o⟨x,hx,h1,h2,h3⟩:=ho.ex he;rw[h3];r jt _ e x.1 x.2 hks (sD hx (by m)) h1 (fun y hy hye=>?_)
   rcases iX hy with rfl | hy
   . e absurd hye hde
   . e h2 y hy hye
þ xG {ss so ns:List Str}{bs:List (Str×List Str)}{t:Str}{os:List Str}(B:aP ss bs)(CI:kZ ss so ns bs)(B2:aP so (ns.map (chB ss so bs t os))){n z:Str}(hn:n∈ns)(hz:z∈so):lkB so (ns.map (chB ss so bs t os)) n z=if n=t then lkV so (t,os) z else lkB ss bs n z:=by
 h h1:=eD (ss:=so) z B2.bnd (Aj (f:=chB ss so bs t os) hn);e h1.trans (wS B CI hz)
þ zn {ss names so so2 ns:List Str}{h:Hs}{bs:List (Str×List Str)}(ho:bK ss names h)(hn:ss.Nodup)(hp:so.Perm ss)(ht:Al so=true)(CI:kZ (aV h.bk 400).1 so2 ns bs):so2=so:=by
 o⟨B,_,hZ⟩:=ho.on 400;h hp2:(aV h.bk 400).1.Perm ss:=(Bw B.snd hn).mpr hZ;e cA CI.ts ht (CI.ps.trans (hp2.trans hp.symm))
þ aJ.frz {H H':Hp}{C CB:Addr}{A:Ad}{W:Hp}{ss:List Str}{h:Hs}{d:Addr}(hh:aJ H C CB A W ss h)(hx:d≠A.x∧d≠A.d1∧d≠A.ls∧d≠A.db)(hw:W d=none)(S:jk d H H'):aJ H' C CB A W ss h:=by
 o⟨n1,n2,n3,n4⟩:=hx;o⟨h1,h2,⟨ps,h3,h4,h5⟩,⟨rs,h6,h7,h8⟩,h9,h10⟩:=hh;r⟨S _ _ (Ne.symm n1) h1,S _ _ (Ne.symm n2) h2,⟨ps,S _ _ (Ne.symm n3) h3,h4,h5⟩,⟨rs,S _ _ (Ne.symm n4) h6,h7,h8⟩,h9,fun b o e=>?_⟩
 h hb:b≠d:=fun z=>by rw[z,hw] at e;cases e
 h e2:=h10 b o e;unfold hid at e2 ⊢
 split at e2
 . cases e2
 . rename_i hn;rw[if_neg hn];e S _ _ hb e2
þ jJ {ss names:List Str}{h:Hs}(ho:bK ss names h)(hn:names.Nodup) (d:Int):names.Perm ((aV h.bk d).2.map (·.1)):=by
 o⟨B,hN,_⟩:=ho.on d;e(Bw hn B.bnd).mpr fun n=>(hN n).symm
þ gg {ss names:List Str}{h:Hs}(ho:bK ss names h)(hn:ss.Nodup) (d:Int):(aV h.bk d).1.Perm ss:=by
 o⟨B,_,hZ⟩:=ho.on d;e(Bw B.snd hn).mpr hZ
þ fb {H:Hp}{A:Ad}{b:Addr}{o:HO}(h:H b=some o)(b1:b≠A.x)(b2:b≠A.d1)(b3:b≠A.ls)(b4:b≠A.db):hid H A b=some o:=by
 unfold hid;rw[if_neg (fun z=>by rcases z with z | z | z | z;e b1 z;e b2 z;e b3 z;e b4 z)];e h
þ mJ {H H':Hp}{C CB:Addr}{A:Ad}{W:Hp}{ss:List Str}{h:Hs}{b:Addr}{o:HO}(hh:aJ H C CB A W ss h)(hb:H b=none)(h':H' b=some o):hid H' A b=some o:=by
 o⟨_,hls,_⟩:=hh.dp;o⟨_,hdb,_⟩:=hh.bk;e fb h' (fun z=>by rw[z,hh.ins] at hb;cases hb) (fun z=>by rw[z,hh.cl] at hb;cases hb) (fun z=>by rw[z,hls] at hb;cases hb) (fun z=>by rw[z,hdb] at hb;cases hb)
þ mQ {H:Hp}{C CB:Addr}{A:Ad}{W:Hp}{ss:List Str}{h:Hs}{b:Addr}{xs:List V}(hh:aJ H C CB A W ss h)(hb:H b=some (.tup xs)):hid H A b=some (.tup xs):=by
 o⟨_,hls,_⟩:=hh.dp;o⟨_,hdb,_⟩:=hh.bk;e fb hb (fun z=>by rw[z,hh.ins] at hb;cases hb) (fun z=>by rw[z,hh.cl] at hb;cases hb) (fun z=>by rw[z,hls] at hb;cases hb) (fun z=>by rw[z,hdb] at hb;cases hb)
noncomputable def lL (CH CB:Addr):Sp:=fun vs H Q E=>∃ (A:Ad)(W:Hp)(ss:List Str) (h:Hs),vs=[.ref A.x]∧aJ H CH CB A W ss h∧h.cl.length < 64∧∀ p (os:List Str),H p=none→os.Perm (h.cl.map (·.1))→Al os=true→Q (.ref p) (upd H p (.lst (os.map V.str)))
þ tz:ay ["self"] ["self"] (ar jT):=®
þ pS {f:Addr}{fd:FuncData}{CH CB :Addr}(F:Fun K "cloths" "House.cloths" jT f fd)
   (T:Txt mg)(hX:Hx K mg CH)(cB:Cls K CB)  :
   aW P w K mg base (CX1 P w) 1 f fd ["self"] (lL CH CB):=by
 fx tz;o⟨A0,W,ss,h,rfl,hh,hl,q⟩:=h;r⟨_,(ah (aq (al (dW rfl) (by rfl) T.sorted (by d) (aa (bD (pv 0) rfl) ae)))),?_⟩
 try dsimp only[aE,aO]
 w;e⟨CH,A0.dx,_,hh.ins,hX.c,hX.n1,_,dI,A0.d1,rfl,h.cl.map (·.1),_,.inl hh.cl,by unfold clV;rw[Ao,Ao];rfl,by rw[be];e hl,fun p os hp hperm hso=>q p os hp hperm hso⟩
noncomputable def kL (CH CB:Addr):Sp:=fun vs H Q E=>∃ (A:Ad)(W:Hp)(ss:List Str) (h:Hs),vs=[.ref A.x]∧aJ H CH CB A W ss h∧Q (.int h.day) H
þ t3:ay ["self"] ["self"] (ar mX):=®
þ sj {f:Addr}{fd:FuncData}{CH CB :Addr}(F:Fun K "today" "House.today" mX f fd)
   (T:Txt mg)(hX:Hx K mg CH)(cB:Cls K CB)  :
   aW P w K mg base (CX1 P w) 1 f fd ["self"] (kL CH CB):=by
 fx t3;o⟨A0,W,ss,h,rfl,hh,q⟩:=h;r⟨_,(ah (aq (bD (pv 0) rfl))),?_⟩
 try dsimp only[aE,aO]
 w;e⟨CH,A0.dx,_,hh.ins,hX.c,hX.n2,_,uL,q⟩
noncomputable def df:List Str:=["ValueError", "BadName", "Known", "NoCloth", "NoBath", "NoShade", "BadBook", "BadText", "TooLong", "NoDay", "Late", "NoDip", "Full"]
noncomputable def kW (bits:List Bool):List Str:=((zS 13).filter (fun i=>bits.getD i false)).map (fun i=>df.getD i "")
noncomputable def dQ (bits:List Bool):Str:=Txt.join " " (kW bits)
þ fr {H:Hp}{a b:Addr}{xs ys:List V}{Q:VK}(ha:H a=some (.lst xs))(hb:H b=some (.lst ys))(hz:xs.length+ys.length≤sizeLine)(q:∀ p,H p=none→Q (.ref p) (upd H p (.lst (xs++ys)))):zd (.ref a) (.ref b) H Q:=⟨a,b,xs,ys,rfl,rfl,ha,hb,hz,q⟩
noncomputable def ly:Sp:=fun vs H Q _=>∃ (l:Addr)(bits:List Bool),vs=[.ref l]∧H l=some (.lst (bits.map V.bl))∧bits.length=13∧∀ t H',af H H'→H' t=some (.tup [.str "refused",.str (dQ bits),.int 0])→Q (.ref t) H'
þ iM:ay ["_law_flags", "_law_words_here"] ["_law_flags"] (ar kT):=®
þ qP {f:Addr}{fd:FuncData}(F:Fun K "_law_refusal" "_law_refusal" kT f fd)(T:Txt mg):aW P w K mg base CX0 1 f fd ["_law_flags"] ly:=by
 fo iM;o⟨l,bits,rfl,hl,hlen,q⟩:=h
 r⟨_,aj (aL (i:=1) iM.nd rfl (Or.inr rfl) (bq zc))
   (aj (aL (i:=1) iM.nd rfl (Or.inr rfl) (aI gM (pv 1) (bq (aa aB (aa aB (aa aB (aa aB (aa aB ae))))))))
   (ah (aq (bS (aa aB (aa (eK PySem.F.plainAttrs_str PySem.F.slot_str_join PySem.F.type_str_join wt aB (aa (eX (N':=["_law_k", "_law_words_here", "_law_flags"]) (pk:=[none,some 1,some 0]) rfl (bZ.of (by rfl)) (ck rfl T.range (aa (al av (by rfl) T.len zT (aa (pv 1) ae)) ae)) (fun s H ex=>aw (i:=0) (by show(["_law_k", "_law_words_here", "_law_flags"]:List Str).Nodup;d) rfl (Or.inl rfl))
       (fun s H ex=>bF (am (ak:IxR _ (gP K)) (pv 2) (pv 0) ¿)) (fun s H ex=>am (ak:IxR _ (gP K)) (pv 1) (pv 0) ¿)) ae)) (aa ag ae))))))),?_⟩
 try dsimp only[aE,aO]
 h hs:=aM;r cut (fun σ' H'=>∃ l1,σ'=[§l,§l1]∧af H H'∧H' l1=some (.lst ((df.take 8).map V.str))) ?_ ?_
 . w;e⟨by m,fun p hp=>⟨af.updN hp,ac⟩⟩
 rintro σ1 H1 ⟨l1,rfl,S1,hl1⟩;r cut (fun σ' H'=>∃ l2,σ'=[§l,§l2]∧af H H'∧H' l2=some (.lst (df.map V.str))) ?_ ?_
 . w;r⟨by m,fun p hp=>?_⟩;h Sp:af H1 (upd H1 p (.lst [V.str "TooLong",V.str "NoDay",V.str "Late",V.str "NoDip",V.str "Full"])):=af.updN hp;r fr (Sp _ _ hl1) ac (by rw[be];e AB (by decide) hs) fun p2 hp2=>⟨p2,rfl,?_,?_⟩
   . e(S1.trans Sp).step ((S1.trans Sp).free hp2)
   . rw[ac];rfl
 rintro σ2 H2 ⟨l2,rfl,S2,hl2⟩;w;r⟨rfl,_,.inl (SqL.of hl2),?_⟩;rw[be,show df.length=13 from rfl];r⟨by decide,by decide,fun D hD=>?_⟩;r fm (n:=13) (bv (n:=13)) (by m) hD (fun σ=>∃ o,σ=[o,§l2,§l]) (fun i=>bits.getD i false) (fun i=>V.str (df.getD i "")) ⟨none,rfl⟩ ?_ ?_
 . rintro i x σ' H' hi rfl ⟨o,rfl⟩ hS R1 R0 h1 h0
   h ei:(0:Int)+(i:Int)=i:=by m
   rw[ei];obtain⟨b,hb⟩:∃ b,bits[i]?=some b:=⟨_,zJ (by m)⟩;obtain⟨wd,hw⟩:∃ z,df[i]?=some z:=⟨_,zJ (by show i < 13;m)⟩
   h eb:bits.getD i false=b:=by rw[zM,hb];rfl
   h ew:df.getD i ""=wd:=by rw[zM,hw];rfl
   rw[eb] at h1 h0;rw[ew] at h1;w;r⟨_,hS.seq (SqL.of (S2 _ _ hl)),V.bl b,bU (by rw[zK,hb];rfl),b,rfl,?_⟩
   cases b with
   | true=>e⟨_,hS.seq (SqL.of hl2),_,cc hw,h1 rfl _ ⟨_,rfl⟩⟩
   | false=>e h0 rfl _ ⟨_,rfl⟩
 . h e:((zS 13).filter (fun i=>bits.getD i false)).map (fun i=>V.str (df.getD i ""))=(kW bits).map V.str:=by unfold kW;rw[Ao];rfl
   rw[e]
   h hsum:∀ (l:List Nat),(((l.map (fun i=>df.getD i "")).map (·.length)).sum)≤20*l.length:=by
     intro l
     induction l with
     | nil=>e zN _
     | cons a r ih =>
       h ha:(df.getD a "").length≤20:=by
         by_cases h:a < 13
         . h:∀ i:_root_.Fin 13,(df.getD i.val "").length≤20:=by d
           e this ⟨a,h⟩
         . rw[zM,A9 (by show 13≤a;m)];d
       rw[z8,z8,List.sum_cons,Av];m
   h hfl:((zS 13).filter (fun i=>bits.getD i false)).length≤13:=by
     have:=AZ (fun i=>bits.getD i false) (zS 13)
     rwa [AW] at this
   r⟨kW bits,SqL.of ac,?_,by m,fun p hp=>?_⟩
   . h h1:=hsum ((zS 13).filter (fun i=>bits.getD i false))
     h h2:(kW bits).length≤13:=by unfold kW;rw[be];e hfl
     h h3:¶" ".length=1:=by d
     rw[h3];show(((kW bits).map (·.length)).sum)+(kW bits).length*1≤16777216;unfold kW at h2 ⊢;m
   . h S3:af H2 (upd H2 D (.lst ((kW bits).map V.str))):=af.updN hD;e q p _ ((S2.trans S3).step ((S2.trans S3).free hp)) ac
structure zj (K:PySem.W.Frag)(mg:Str→Option Value)(cs:List Addr)(dip:Addr):Prop where
 m1:∃ c,cs[0]?=some c∧mg "BadName"=§c
 m2:∃ c,cs[1]?=some c∧mg "Known"=§c
 m3:∃ c,cs[2]?=some c∧mg "NoCloth"=§c
 m4:∃ c,cs[3]?=some c∧mg "NoBath"=§c
 m5:∃ c,cs[4]?=some c∧mg "NoShade"=§c
 m6:∃ c,cs[5]?=some c∧mg "BadBook"=§c
 m7:∃ c,cs[6]?=some c∧mg "BadText"=§c
 m8:∃ c,cs[7]?=some c∧mg "TooLong"=§c
 m9:∃ c,cs[8]?=some c∧mg "NoDay"=§c
 m10:∃ c,cs[9]?=some c∧mg "Late"=§c
 m11:∃ c,cs[10]?=some c∧mg "NoDip"=§c
 m12:∃ c,cs[11]?=some c∧mg "Full"=§c
 md:mg "DipError"=§dip
 ve:mg "ValueError"=none
structure Bits (K:PySem.W.Frag)(cs:List Addr)(dip C:Addr)(bits:List Bool):Prop where
 exc:ExcC K C
 len:bits.length=12
 val:Ab K (.ref C) (.type "ValueError")=some true
 bit:∀ (i:Nat) c b,cs[i]?=some c→bits[i]?=some b→Ab K (.ref C) (.ref c)=some b
 dip:PySem.W.exmOne K (.ref C) (.ref dip)=some true
noncomputable def ye (K:PySem.W.Frag)(C e:Addr):List V→Hp→VK→Prop:=fun xs H Q=>∃ D b,((xs=[.ref e,.ref D]∧Ab K (.ref C) (.ref D)=some b)∨∃ T,xs=[.ref e,.ty T]∧Ab K (.ref C) (.type T)=some b)∧Q (.bl b) H
þ iB {X:Cx}{e C:Addr}{oe:Obj}(hcl:oe.cls=.ref C)(XC:ExcC X.K C):cv (cxH X e oe) (.builtin "isinstance") (ye X.K C e):=sq (X:=cxH X e oe) zV hcl XC
þ cL {K:PySem.W.Frag}{C e D:Addr}{b:Bool}{H:Hp}{Q:VK}(h:Ab K (.ref C) (.ref D)=some b)(q:Q (.bl b) H):ye K C e [.ref e,.ref D] H Q:=⟨D,b,.inl ⟨rfl,h⟩,q⟩
þ xO {K:PySem.W.Frag}{C e:Addr}{T:String}{b:Bool}{H:Hp}{Q:VK}(h:Ab K (.ref C) (.type T)=some b)(q:Q (.bl b) H):ye K C e [.ref e,.ty T] H Q:=⟨0,b,.inr ⟨T,rfl,h⟩,q⟩
noncomputable def yY (spA:Sp)(K:PySem.W.Frag)(cs:List Addr)(dip:Addr):Sp:=fun vs H Q _=>∃ v1 v2,vs=[v1,v2]∧∀ H1 (E':XK),af H H1 →
 (∀ C bits H',Bits K cs dip C bits→(∀ t H'',af H' H''→H'' t=some (.tup [.str "refused",.str (dQ (true::bits)),.int 0])→Q (.ref t) H'')→E' (.ref C) none H')→spA [v1,v2] H1 Q E'
þ yf:∀ l:List Bool,l.length=12→∃ b1 b2 b3 b4 b5 b6 b7 b8 b9 b10 b11 b12,l=[b1,b2,b3,b4,b5,b6,b7,b8,b9,b10,b11,b12]
 | [b1,b2,b3,b4,b5,b6,b7,b8,b9,b10,b11,b12],_=>⟨b1,b2,b3,b4,b5,b6,b7,b8,b9,b10,b11,b12,rfl⟩
þ st4:∀ l:St,l.length=4→∃ a0 a1 a2 a3,l=[a0,a1,a2,a3]
 | [a0,a1,a2,a3],_=>⟨a0,a1,a2,a3,rfl⟩
þ qh:ay ["_law_thing", "_law_deed_here", "_law_flags", "e"] ["_law_thing", "_law_deed_here"] (ar sDo):=®
þ yN {spA:Sp}{ps:List Str}{j:Nat}{cs:List Addr}{dip f fA fR:Addr}{fd fdA fdR:FuncData}(F:Fun K "_law_do" "_law_do" sDo f fd)(T:Txt mg)(R:zj K mg cs dip)
   (GA:Cl P w K mg base (CX1 P w) (j+1) "_law_asked" ps spA fA fdA)
   (GR:Cl P w K mg base CX0 1 "_law_refusal" ["_law_flags"] ly fR fdR) :
   aW P w K mg base (CX1 P w) (j+2) f fd ["_law_thing", "_law_deed_here"] (yY spA K cs dip):=by
 fx qh;o⟨v1,v2,rfl,hA⟩:=h;h hr1:=hr.mono (j:=1) (by m);o⟨c1,e1,m1⟩:=R.m1;o⟨c2,e2,m2⟩:=R.m2;o⟨c3,e3,m3⟩:=R.m3;o⟨c4,e4,m4⟩:=R.m4;o⟨c5,e5,m5⟩:=R.m5;o⟨c6,e6,m6⟩:=R.m6;o⟨c7,e7,m7⟩:=R.m7;o⟨c8,e8,m8⟩:=R.m8;o⟨c9,e9,m9⟩:=R.m9;o⟨c10,e10,m10⟩:=R.m10;o⟨c11,e11,m11⟩:=R.m11;o⟨c12,e12,m12⟩:=R.m12
 r⟨_,aN (aL (i:=2) qh.nd rfl (Or.inl rfl) (bq ae))
   (aN (yx (i:=3) qh.nd rfl rfl rfl rfl rfl R.md (by decide)
       (fun pn W E1 hp=>ah (aq (pC GA hr hp (aa (pv 0) (aa (pv 1) ae)))))
       (fun C e oe hcl XC=>aj (aL (i:=2) qh.nd rfl (Or.inl rfl) (bq (aa (al (iB hcl XC) (by rfl) T.isi (by d) (aa (pv 3) (aa (cJ (v:=.ty "ValueError") rfl R.ve (by d) rfl) ae))) (aa (al (iB hcl XC) (by rfl) T.isi (by d) (aa (pv 3) (aa (bf (v:=.ref c1) rfl m1 rfl) ae))) (aa (al (iB hcl XC) (by rfl) T.isi (by d) (aa (pv 3) (aa (bf (v:=.ref c2) rfl m2 rfl) ae))) ae)))))
         (aj (aL (i:=2) qh.nd rfl (Or.inl rfl) (aI gM (pv 2) (bq (aa (al (iB hcl XC) (by rfl) T.isi (by d) (aa (pv 3) (aa (bf (v:=.ref c3) rfl m3 rfl) ae))) (aa (al (iB hcl XC) (by rfl) T.isi (by d) (aa (pv 3) (aa (bf (v:=.ref c4) rfl m4 rfl) ae))) (aa (al (iB hcl XC) (by rfl) T.isi (by d) (aa (pv 3) (aa (bf (v:=.ref c5) rfl m5 rfl) ae))) ae))))))
         (aj (aL (i:=2) qh.nd rfl (Or.inl rfl) (aI gM (pv 2) (bq (aa (al (iB hcl XC) (by rfl) T.isi (by d) (aa (pv 3) (aa (bf (v:=.ref c6) rfl m6 rfl) ae))) (aa (al (iB hcl XC) (by rfl) T.isi (by d) (aa (pv 3) (aa (bf (v:=.ref c7) rfl m7 rfl) ae))) (aa (al (iB hcl XC) (by rfl) T.isi (by d) (aa (pv 3) (aa (bf (v:=.ref c8) rfl m8 rfl) ae))) ae))))))
         (ah (aL (i:=2) qh.nd rfl (Or.inl rfl) (aI gM (pv 2) (bq (aa (al (iB hcl XC) (by rfl) T.isi (by d) (aa (pv 3) (aa (bf (v:=.ref c9) rfl m9 rfl) ae))) (aa (al (iB hcl XC) (by rfl) T.isi (by d) (aa (pv 3) (aa (bf (v:=.ref c10) rfl m10 rfl) ae))) (aa (al (iB hcl XC) (by rfl) T.isi (by d) (aa (pv 3) (aa (bf (v:=.ref c11) rfl m11 rfl) ae))) (aa (al (iB hcl XC) (by rfl) T.isi (by d) (aa (pv 3) (aa (bf (v:=.ref c12) rfl m12 rfl) ae))) ae)))))))))))
     )
   (ah (aq (pC GR hr1 aA (aa (pv 2) ae))))),?_⟩
 try dsimp only[aE,aO]
 h hs:=aM;w;r⟨by m,fun p hp=>?_⟩;unfold xr;w;r hA _ _ (af.updN hp) fun C bits H' hB hq=>⟨C,rfl,hB.exc,hB.dip,fun e σ' hlen=>?_⟩;o⟨a0,a1,a2,a3,rfl⟩:=st4 σ' hlen;o⟨b1,b2,b3,b4,b5,b6,b7,b8,b9,b10,b11,b12,rfl⟩:=yf bits hB.len;unfold u0;w;r cut (fun σ' H''=>∃ l,σ'=[a0,a1,§l,§e]∧af H' H''∧H'' l=some (.lst (([true,b1,b2]:List Bool).map V.bl))) ?_ ?_
 . w;r xO hB.val (cL (hB.bit 0 _ _ e1 rfl) (cL (hB.bit 1 _ _ e2 rfl) ⟨by m,fun l hl=>⟨af.updN hl,ac⟩⟩))
 rintro σ1 H1 ⟨l1,rfl,S1,hl1⟩;r cut (fun σ' H''=>∃ l,σ'=[a0,a1,§l,§e]∧af H' H''∧H'' l=some (.lst (([true,b1,b2,b3,b4,b5]:List Bool).map V.bl))) ?_ ?_
 . w;r cL (hB.bit 2 _ _ e3 rfl) (cL (hB.bit 3 _ _ e4 rfl) (cL (hB.bit 4 _ _ e5 rfl) ⟨by m,fun l hl=>?_⟩));h Sl:af H1 (upd H1 l (.lst [V.bl b3,V.bl b4,V.bl b5])):=af.updN hl;e fr (Sl _ _ hl1) ac (AB (by simp) hs) fun p2 hp2=>⟨p2,rfl,(S1.trans Sl).step ((S1.trans Sl).free hp2),by rw[ac];rfl⟩
 rintro σ2 H2 ⟨l2,rfl,S2,hl2⟩;r cut (fun σ' H''=>∃ l,σ'=[a0,a1,§l,§e]∧af H' H''∧H'' l=some (.lst (([true,b1,b2,b3,b4,b5,b6,b7,b8]:List Bool).map V.bl))) ?_ ?_
 . w;r cL (hB.bit 5 _ _ e6 rfl) (cL (hB.bit 6 _ _ e7 rfl) (cL (hB.bit 7 _ _ e8 rfl) ⟨by m,fun l hl=>?_⟩));h Sl:af H2 (upd H2 l (.lst [V.bl b6,V.bl b7,V.bl b8])):=af.updN hl;e fr (Sl _ _ hl2) ac (AB (by simp) hs) fun p2 hp2=>⟨p2,rfl,(S2.trans Sl).step ((S2.trans Sl).free hp2),by rw[ac];rfl⟩
 rintro σ3 H3 ⟨l3,rfl,S3,hl3⟩;w;r cL (hB.bit 8 _ _ e9 rfl) (cL (hB.bit 9 _ _ e10 rfl) (cL (hB.bit 10 _ _ e11 rfl) (cL (hB.bit 11 _ _ e12 rfl) ⟨by m,fun l hl=>?_⟩)));h Sl:af H3 (upd H3 l (.lst [V.bl b9,V.bl b10,V.bl b11,V.bl b12])):=af.updN hl;r fr (Sl _ _ hl3) ac (AB (by simp) hs) fun p2 hp2=>?_;h S4:=(S3.trans Sl).step (o:=.lst (([true,b1,b2,b3,b4,b5,b6,b7,b8,b9,b10,b11,b12]:List Bool).map V.bl)) ((S3.trans Sl).free hp2);e⟨p2,[true,b1,b2,b3,b4,b5,b6,b7,b8,b9,b10,b11,b12],rfl,ac,rfl,fun t H'' S hH=>hq t H'' (S4.trans S) hH⟩
noncomputable def rF (H0 H:Hp)(d:Addr)(ss:List Str)(bs:List (Str×List Str)):Prop :=
 ∃ ds:List Addr,H d=some (.dK (cb (bs.map (·.1)) (ds.map V.ref)))∧ds.length=bs.length∧∀ (i:Nat) r b,ds[i]?=some r→bs[i]?=some b→H0 r=none∧hide H d r=some (.dK (iE ss b))
noncomputable def lj (K:PySem.W.Frag):Sp:=fun vs H Q _=>∃ (l lb:Addr)(ss:List Str)(bs:List (Str×List Str)),vs=[.ref l,.ref lb]∧SqL K H l (ss.map V.str)∧iq H lb bs∧aP ss bs ∧
 ∀ d H',H d=none→af H H'→rF H H' d ss bs→Q (.ref d) H'
þ qY {f:Addr}{fd:FuncData}(F:Fun K "_law_tables" "_law_tables" mw f fd)(T:Txt mg):aW P w K mg base CX0 1 f fd ["_law_shades", "_law_baths"] (lj K):=by
 fo gc;o⟨l,lb,ss,bs,rfl,hl,hb,B,q⟩:=h;h hu:=eF hr
 r⟨_,aN (aL (i:=2) gc.nd rfl (Or.inl rfl) ed)
   (aN (bC PassesOwn.never rfl (ba (pv 1)) (cC (n:=2) rfl (aG (aw (i:=3) gc.nd rfl (Or.inl rfl)) (aG (aw (i:=4) gc.nd rfl (Or.inl rfl)) bV)))
     (aj (dH hu (pv 2) (pv 3) ed rfl)
     (ah (bC PassesOwn.never rfl (ck rfl T.range (aa (al av (by rfl) T.len zT (aa (pv 0) ae)) ae)) (aw (i:=5) gc.nd rfl (Or.inl rfl))
       (ah (dH hu (cy hu (pv 2) (pv 3) ¿) (am ak (pv 0) (pv 5) ¿) (am ak (pv 4) (pv 5) ¿) rfl))))))
   (ah (aq (pv 2)))),?_⟩
 try dsimp only[aE,aO]
 h hs:=aM;w;intro d hd;o⟨ps,hlb,hpl,hB⟩:=hb;h hb8:=B.b8;h S0:af H (upd H d (.dK [])):=af.updN hd;r⟨⟨_,SqL.of (S0 _ _ hlb)⟩,?_⟩
 r bj (H0:=H) (aH (SqL.of hlb)) (fun i σ' H'=>∃ (ds:List Addr)(o3 o4 o5:Option V),σ'=[§l,§lb,§d,o3,o4,o5]∧af H H'∧H' d=some (.dK (cb ((bs.map (·.1)).take i) (ds.map V.ref))) ∧
   ds.length=i∧∀ (j:Nat) r b,ds[j]?=some r→bs[j]?=some b→H r=none∧hide H' d r=some (.dK (iE ss b)))
   ⟨[],none,none,none,rfl,S0,ac,rfl,(by intro j r b h;simp at h)⟩ (fun _ _ _ _ ⟨_,_,_,_,_,h,_⟩=>h) ?_ ?_
 . rintro i x σ H' hi hx ⟨ds,o3,o4,o5,rfl,hS,hH,hdl,hD⟩;rw[zK] at hx;o⟨pr,hpr,rfl⟩:=Option.map_eq_some_iff.mp hx;rw[be,hpl] at hi;obtain⟨b,hb⟩:∃ b,bs[i]?=some b:=⟨_,zJ hi⟩;o⟨lo,ht,hlo⟩:=hB i pr b hpr hb;h hbm:b∈bs:=zO hb
   h hk:(bs.map (·.1))[i]?=some b.1:=by rw[zK,hb];rfl
   h hnk:b.1∉(bs.map (·.1)).take i:=eS B.bnd hk
   h hln:((bs.map (·.1)).take i).length=(ds.map V.ref).length:=by rw[Aa,be,be,hdl];m
   r d7 (hS _ _ ht) ?_;w;r cut (fun σ' H''=>∃ r,σ'=[§l,§lb,§d,¢b.1,§lo,o5]∧H' r=none∧r≠d∧H''=upd (upd H' r (.dK [])) d (.dK (cb ((bs.map (·.1)).take (i+1)) ((ds++[r]).map V.ref)))) ?_ ?_
   . w;intro r hr
     h hrd:r≠d:=fun e=>by rw[e,hH] at hr;cases hr
     r⟨_,.inl ⟨_,Sum.inr b.1,by rw[ai (Ne.symm hrd)];e hH,rfl,by rw[fP hln,Aa];m,rfl⟩,r,hr,hrd,?_⟩;rw[cZ _ (bX _ _ _ hnk),bw hk,zQ];e congrArg (fun z=>upd (upd H' r (HO.dK [])) d (HO.dK z)) (eN b.1 (V.ref r) hln).symm
   rintro σ2 H2 ⟨r,rfl,hr,hrd,rfl⟩;h hrH:H r=none:=hS.free hr;generalize hG:(upd (upd H' r (.dK [])) d (.dK (cb ((bs.map (·.1)).take (i+1)) ((ds++[r]).map V.ref))))=G
   h hGr:G r=some (.dK []):=by rw[←hG,ai hrd];e ac
   h hGd:G d=some (.dK (cb ((bs.map (·.1)).take (i+1)) ((ds++[r]).map V.ref))):=by rw[←hG];e ac
   h SG:af H G:=by rw[←hG];e(hS.step hrH).step hd
   h SG':af (hide H' d) (hide G d):=by rw[←hG,ee];e af.hide (af.updN hr)
   h hval:bJ (cb ((bs.map (·.1)).take (i+1)) ((ds++[r]).map V.ref)) (Sum.inr b.1)=some (V.ref r):=by
     r dJ _ _ i _ _ (B.bnd.sublist (Br _ _)) ?_ ?_
     . rw[B6,if_pos (Bj i)];e hk
     . rw[zK,zP (by m),hdl,Ay];rfl
   h hbl:b.2.length=ss.length:=B.bln b hbm;h hs12:=B.s12;w;r⟨_,.inl (SG.seq hl),?_⟩;rw[be];r⟨by m,by m,?_⟩
   r bj (H0:=H) bv (fun k σ' H''=>∃ o5,σ'=[§l,§lb,§d,¢b.1,§lo,o5]∧H''=upd G r (.dK (cb (ss.take k) ((b.2.take k).map V.str))))
     ⟨o5,rfl,?_⟩ (fun _ _ _ _ ⟨_,_,e⟩=>by rw[e];e SG.step hrH) ?_ ?_
   . funext y;by_cases e:y=r
     . rw[e,ac];e hGr
     . rw[ai e]
   . rintro k x σ H'' hk2 rfl ⟨o5,rfl,rfl⟩
     h ek:(0:Int)+(k:Int)=k:=by m
     rw[ek]
     h hkn:k < ss.length:=by m
     obtain⟨sk,hsk⟩:∃ y,ss[k]?=some y:=⟨_,zJ hkn⟩;obtain⟨ok,hok⟩:∃ y,b.2[k]?=some y:=⟨_,zJ (by m)⟩;h S2:af H (upd G r (.dK (cb (ss.take k) ((b.2.take k).map V.str)))):=SG.step hrH
     h hl2:(ss.take k).length=((b.2.take k).map V.str).length:=by rw[be,Aa,Aa];m
     w;r⟨_,SqL.of (S2 _ _ hlo),_,cc hok,V.ref r,.inl ⟨_,Sum.inr b.1,.inl (by rw[ai (Ne.symm hrd)];e hGd),rfl,hval.symm⟩,_,S2.seq hl,_,cc hsk,r,rfl,_,.inl ⟨_,Sum.inr sk,ac,rfl,by rw[fP hl2,Aa];m,rfl⟩,?_⟩;rw[ic,cZ _ (bX _ _ _ (eS B.snd hsk)),bw hsk,bw hok,zQ];e congrArg (fun z=>upd G r (HO.dK z)) (eN sk (V.str ok) hl2).symm
   . rintro σ H'' ⟨o5,rfl,rfl⟩
     h e1:ss.take ((ss.length:Int)).toNat=ss:=by rw[An,AE]
     h e2:b.2.take ((ss.length:Int)).toNat=b.2:=by rw[An,←hbl,AE]
     rw[e1,e2];r⟨⟨_,_,_,rfl⟩,SG.step hrH,ds++[r],by rw[ai (Ne.symm hrd)];e hGd,by rw[zL,hdl];rfl,fun j r2 b2 hr2 hb2=>?_⟩;by_cases hj:j < i
     . rw[zU (by m)] at hr2;h h1:=SG' _ _ (hD j r2 b2 hr2 hb2).2;h h2:H' r2=some (.dK (iE ss b2)):=bM _ _ (hD j r2 b2 hr2 hb2).2
       h hne:r2≠r:=fun e=>by rw[e,hr] at h2;cases h2
       r⟨(hD j r2 b2 hr2 hb2).1,?_⟩;unfold hide at h1 ⊢;by_cases e:r2=d
       . rw[if_pos e] at h1;cases h1
       . rw[if_neg e] at h1 ⊢;rw[ai hne];e h1
     . h hj2:j=i:=by
         have:=(List.getElem?_eq_some_iff.mp hr2).1;rw[zL,hdl] at this;simp only[zR] at this;m
       subst hj2;rw[zP (by m),hdl,Ay] at hr2;cases hr2;rw[hb] at hb2;cases hb2;r⟨hrH,?_⟩;rw[aY hrd,ac];rfl
 . rintro σ H' ⟨ds,o3,o4,o5,rfl,hS,hH,hdl,hD⟩;rw[be,hpl] at hH hdl;w;r q d H' hd hS ⟨ds,?_,hdl,fun j r b hr hb=>hD j r b hr hb⟩;rw[hH,AC (by rw[be];e zN _)]
þ rF.tabG {H0 H G:Hp}{d:Addr}{ss:List Str}{bs:List (Str×List Str)}(B:aP ss bs)(h:rF H0 H d ss bs)(hd0:H0 d=none)(k:∀ b u,H0 b=none→H b=some (.dK u)→G b=some (.dK u)):dg G d ss (bs.map (·.1)) (lkB ss bs):=by
 o⟨ds,h1,h2,h3⟩:=h;e gQ.toG B ⟨ds,.inl (k _ _ hd0 h1),h2,fun i r b hr hb=>.inl (k _ _ (h3 i r b hr hb).1 (bM _ _ (h3 i r b hr hb).2))⟩
noncomputable def lm (K:PySem.W.Frag)(C:Addr):Sp:=fun vs H Q _=>∃ (l lb:Addr)(ss:List Str)(bs:List (Str×List Str)),vs=[.ref l,.ref lb]∧SqL K H l (ss.map V.str)∧iq H lb bs∧aP ss bs∧∀ x H',H x=none→af H H'→bx (cW H H') C x ss bs→Q (.ref x) H'
þ pL {C f fI cB:Addr}{fd fdI:FuncData}(F:Fun K "_law_handed" "_law_handed" mG f fd)(T:Txt mg)(M:Mk K C fI)(GI:aW P w K mg base (CX1 P w) 4 fI fdI ["self", "shades", "baths"] (nA K C cB))(bI:eC K fdI ["self", "shades", "baths"] [])(mC:mg "Book"=§C) :
   aW P w K mg base CX0 6 f fd ["_law_shades", "_law_baths"] (lm K C):=by
 fo ud;o⟨l,lb,ss,bs,rfl,hl,⟨ps,hlb,hpl,hB⟩,B,q⟩:=h
 r⟨_,ah (aq (mR M GI hr rfl mC bI .nil gA (aa (cw dY (by rfl) T.list (by d) (aa (pv 0) ae)) (aa (fE (N':=["_law_title", "_law_outs"]) (pk:=[none,none]) rfl (bZ.of (by rfl)) (ba (pv 1))
     (fun s H ex=>(cC (n:=2) rfl (aG (aw (i:=0) (by show(["_law_title", "_law_outs"]:List Str).Nodup;d) rfl (Or.inl rfl)) (aG (aw (i:=1) (by show(["_law_title", "_law_outs"]:List Str).Nodup;d) rfl (Or.inl rfl)) bV)):PG _ _ (kC K 2 (bQ (bG 0) (bQ (bG 1) iQ)))))
     (fun s H ex=>bS (aa (pv 0) (aa (cw (dY:cv _ (.type "list") (fun xs H Q=>∃ p ys,xs=[.ref p]∧(SqL K H p ys∨SqT K H p ys)∧∀ l,H l=none→Q (.ref l) (upd H l (.lst ys)))) (by rfl) T.list (by d) (aa (pv 1) ae)) ae)))) ae)))),?_⟩
 try dsimp only[aE,aO]
 h hs:=aM;h hb8:=B.b8;w;r⟨_,.inl hl,fun l2 hl2=>?_⟩;h Sa:af H (upd H l2 (.lst (ss.map V.str))):=af.updN hl2;r⟨⟨_,SqL.of (Sa _ _ hlb)⟩,fun D hD=>?_⟩;generalize hG:upd H l2 (.lst (ss.map V.str))=G at Sa hD
 h hGl:G l2=some (.lst (ss.map V.str)):=by rw[←hG];e ac
 r rW (H0:=G) (aH (SqL.of (Sa _ _ hlb))) (by rw[be];m) (fun i xs σ' H'=>(∃ o1 o2,σ'=[o1,o2])∧af G H'∧H' D=some (.lst xs)∧∃ qs:List Addr,xs=qs.map V.ref∧qs.length=i∧∀ (j:Nat) p b,qs[j]?=some p→bs[j]?=some b→jP (hide H' D) p b)
   ⟨⟨none,none,rfl⟩,af.updN hD,ac,[],rfl,rfl,(by intro j p b h;simp at h)⟩ (fun i xs σ' H' ⟨_,h1,_,qs,h2,h3,_⟩=>⟨h1,by rw[h2,be];e h3⟩) ?_ ?_
 . rintro i xs σ' H' x hi hx ⟨⟨o1,o2,rfl⟩,hS,hHD,qs,rfl,hql,hqB⟩ R hR;rw[zK] at hx;o⟨p,hp,rfl⟩:=Option.map_eq_some_iff.mp hx;obtain⟨b,hb⟩:∃ b,bs[i]?=some b:=⟨_,zJ (by rw[be] at hi;m)⟩;o⟨lo,ht,hlo⟩:=hB i p b hp hb;r d7 (hS _ _ (Sa _ _ ht)) ?_;w;r⟨_,.inl (SqL.of (hS _ _ (Sa _ _ hlo))),fun l3 hl3=>⟨by m,fun t ht3=>?_⟩⟩;h S3:af H' (upd H' l3 (.lst (b.2.map V.str))):=af.updN hl3;h ht':H' t=none:=S3.free ht3;h S4:=S3.step (o:=.tup [.str b.1,.ref l3]) ht'
   h hl3D:l3≠D:=fun e=>by rw[e,hHD] at hl3;cases hl3
   h htD:t≠D:=fun e=>by rw[e,hHD] at ht';cases ht'
   h hl3t:l3≠t:=fun e=>by rw[←e,ac] at ht3;cases ht3
   r hR _ _ _ (S4 _ _ hHD) ⟨⟨_,_,rfl⟩,(hS.trans S4).step hD,ac,qs++[t],by rw[zQ];rfl,by rw[zL,hql];rfl,fun j p2 b2 hp2 hb2=>?_⟩;rw[ee];by_cases hj:j < i
   . rw[zU (by m)] at hp2;e af.bthAt (af.hide S4) (hqB j p2 b2 hp2 hb2)
   . h hj2:j=i:=by
       have:=(List.getElem?_eq_some_iff.mp hp2).1;rw[zL,hql] at this;simp only[zR] at this;m
     subst hj2;rw[zP (by m),hql,Ay] at hp2;cases hp2;rw[hb] at hb2;cases hb2;r⟨l3,?_,?_⟩
     . rw[aY htD];e ac
     . rw[aY hl3D,ai hl3t];e ac
 . rintro xs σ' H' ⟨_,hS,hHD,qs,rfl,hql,hqB⟩ x dx hx hdx hne;rw[be,hpl] at hql;h S5:af H' (upd (upd H' dx (.own x)) x (.ins C dx [])):=(af.updN hdx).step hx
   h S6:af H' (hide (upd (upd H' dx (.own x)) x (.ins C dx [])) x):=fun y o e=>by
     rw[aY (aF e hx)];e S5 y o e
   r⟨x,dx,l2,D,ss,bs,rfl,ac,SqL.of (S5 _ _ (hS _ _ hGl)),⟨qs,S5 _ _ hHD,hql,fun j p b hp hb=>af.bthAt (bM.trans S5) (hqB j p b hp hb)⟩,B.txt,fun _ H2 S2 hbk=>⟨rfl,?_⟩,fun hn=>absurd B hn⟩;e q x H2 ((Sa.trans hS).free hx) (((Sa.trans hS).trans S6).trans S2) (af.book (gL ((Sa.trans hS).trans S6)) hbk)
noncomputable def eU (spR:Sp):Sp:=fun vs H Q _=>∃ x y,vs=[x,y]∧((∃ z u:Str,x=.str z∧y=.str u∧Q (.bl (decide (z=u))) H)∨(∃ z u:Int,x=.int z∧y=.int u∧Q (.bl (decide (z=u))) H)∨(x=.non∧y=.non∧Q (.bl true) H) ∨
 (∃ a b xs ys,x=.ref a∧y=.ref b∧((H a=some (.lst xs)∧H b=some (.lst ys))∨(H a=some (.tup xs)∧H b=some (.tup ys)))∧xs.length=ys.length∧ys.length≤1000∧(∀ (i:Nat) u v,xs[i]?=some u→ys[i]?=some v→∀ (Q':VK)(E':XK),Q' (.bl true) H→spR [u,v] H Q' E')∧Q (.bl true) H))
þ re:ay ["_law_found", "_law_due_here", "_law_k"] ["_law_found", "_law_due_here"] (ar pY):=®
þ kS {f fR:Addr}{fd fdR:FuncData}{spR:Sp}{j:Nat}(F:Fun K "_law_alike" "_law_alike" pY f fd)
   (T:Txt mg)(TBo:mg "bool"=none)
   (GR:Cl P w K mg base CX0 j "_law_alike" ["_law_found", "_law_due_here"] spR fR fdR) :
   aW P w K mg base CX0 (j+1) f fd ["_law_found", "_law_due_here"] (eU spR):=by
 fo re;o⟨x,y,rfl,h⟩:=h;h hr76:=hr.mono (j:=j) (by m)
 r⟨_,(aj (aC (PW.pt (em (ap uw (pv 1) kF (ax _)) (cM (bF (al cr (by rfl) T.isi (by d) (aa (pv 1) (aa (cJ (v:=.ty "str") rfl T.str (by d) rfl) ae))))))) (ah (aq (mO (jB bO (al cr (by rfl) T.isi (by d) (aa (pv 0) (aa (cJ (v:=.ty "str") rfl T.str (by d) rfl) ae))) (al cr (by rfl) T.isi (by d) (aa (pv 1) (aa (cJ (v:=.ty "str") rfl T.str (by d) rfl) ae))) (ax _)) (qj (jB bO (pv 0) (pv 1) (ax _)))))) ao)
   (aj (aC (bF (al cr (by rfl) T.isi (by d) (aa (pv 1) (aa (cJ (v:=.ty "int") rfl T.int (by d) rfl) ae)))) (ah (aq (mO (al cr (by rfl) T.isi (by d) (aa (pv 0) (aa (cJ (v:=.ty "int") rfl T.int (by d) rfl) ae))) (mO (xC (al cr (by rfl) T.isi (by d) (aa (pv 0) (aa (cJ (v:=.ty "bool") rfl TBo (by d) rfl) ae)))) (qj (jB bO (pv 0) (pv 1) (ax _))))))) ao)
   (aj (aC (PW.pt (iK (bF (al cr (by rfl) T.isi (by d) (aa (pv 1) (aa (cJ (v:=.ty "list") rfl T.list (by d) rfl) ae)))) (gj (bW (bF (al cr (by rfl) T.isi (by d) (aa (pv 0) (aa (cJ (v:=.ty "list") rfl T.list (by d) rfl) ae)))))))) (ah (aq cx)) ao)
   (aj (aC (PW.pt (iK (bF (al cr (by rfl) T.isi (by d) (aa (pv 1) (aa (cJ (v:=.ty "tuple") rfl T.tuple (by d) rfl) ae)))) (gj (bW (bF (al cr (by rfl) T.isi (by d) (aa (pv 0) (aa (cJ (v:=.ty "tuple") rfl T.tuple (by d) rfl) ae)))))))) (ah (aq cx)) ao)
   (aj (aC (ap i6 (al av (by rfl) T.len zT (aa (pv 0) ae)) (al av (by rfl) T.len zT (aa (pv 1) ae)) (ax _)) (ah (aq cx)) ao)
   (aj (bC PassesOwn.never rfl (ck rfl T.range (aa (al av (by rfl) T.len zT (aa (pv 1) ae)) ae)) (aw (i:=2) re.nd rfl (Or.inl rfl)) (ah (aC (bW (bF (pC GR hr76 aA (aa (am tW (pv 0) (pv 2) ¿) (aa (am tW (pv 1) (pv 2) ¿) ae))))) (ah (aq cx)) ao)))
   (ah (aq cx)))))))),?_⟩
 try dsimp only[aE,aO]
 h hs:=aM
 rcases h with ⟨z,u,rfl,rfl,q⟩ | ⟨z,u,rfl,rfl,q⟩ | ⟨rfl,rfl,q⟩ | ⟨a,b,xs,ys,rfl,rfl,ht,hl,hn,hE,q⟩
 . r cY (fun _ _=>False) (fun R hR=>?_) (fun _ _ h=>h.elim);w;e az (fun h=>(by cases h)) (fun _=>⟨_,cz.str _,true,rfl,az (fun _=>⟨_,cz.str _,true,rfl,_,cz.str _,true,rfl,rfl,az (fun _=>⟨rfl,q⟩) (fun h=>absurd rfl h)⟩) (fun h=>absurd rfl h)⟩)
 . cu σ'=[£z,£u,none]∧H'=H
   . w;e az (fun h=>(by cases h)) (fun _=>⟨_,cz.int _,false,rfl,az (fun h=>(by cases h)) (fun _=>hR _ _ ⟨rfl,rfl⟩)⟩)
   rintro σ1 H1 ⟨rfl,rfl⟩;r cY (fun _ _=>False) (fun R hR=>?_) (fun _ _ h=>h.elim);w;e⟨_,cz.int _,true,rfl,az (fun _=>⟨_,cz.int _,true,rfl,az (fun _=>⟨_,cz.int _,false,rfl,az (fun _=>⟨rfl,q⟩) (fun h=>absurd rfl h)⟩) (fun h=>absurd rfl h)⟩) (fun h=>absurd rfl h)⟩
 . r cY (fun _ _=>False) (fun R hR=>?_) (fun _ _ h=>h.elim);w;e⟨_,cz.non,false,rfl,_,cz.non,false,rfl,rfl,az (fun _=>⟨rfl,by rw[decide_eq_true trivial];e q⟩) (fun h=>absurd rfl h)⟩
 . cu σ'=[§a,§b,none]∧H'=H
   . w;r az (fun h=>(by cases h)) (fun _=>?_)
     rcases ht with ⟨ha,hb⟩ | ⟨ha,hb⟩
     . e⟨_,cz.lst hb,false,rfl,az (fun h=>(by cases h)) (fun _=>hR _ _ ⟨rfl,rfl⟩)⟩
     . e⟨_,cz.tup hb,false,rfl,az (fun h=>(by cases h)) (fun _=>hR _ _ ⟨rfl,rfl⟩)⟩
   rintro σ1 H1 ⟨rfl,rfl⟩;cu σ'=[§a,§b,none]∧H'=H1
   . w
     rcases ht with ⟨ha,hb⟩ | ⟨ha,hb⟩
     . e⟨_,cz.lst hb,false,rfl,az (fun h=>(by cases h)) (fun _=>hR _ _ ⟨rfl,rfl⟩)⟩
     . e⟨_,cz.tup hb,false,rfl,az (fun h=>(by cases h)) (fun _=>hR _ _ ⟨rfl,rfl⟩)⟩
   rintro σ1 H2 ⟨rfl,rfl⟩;cu σ'=[§a,§b,none]∧H'=H2
   . w
     rcases ht with ⟨ha,hb⟩ | ⟨ha,hb⟩
     . e⟨_,cz.lst hb,true,rfl,az (fun _=>⟨_,cz.lst ha,true,rfl,az (fun h=>(by cases h)) (fun _=>hR _ _ ⟨rfl,rfl⟩)⟩) (fun h=>absurd rfl h)⟩
     . e⟨_,cz.tup hb,false,rfl,az (fun h=>(by cases h)) (fun _=>hR _ _ ⟨rfl,rfl⟩)⟩
   rintro σ1 H3 ⟨rfl,rfl⟩;cu σ'=[§a,§b,none]∧H'=H3
   . w
     rcases ht with ⟨ha,hb⟩ | ⟨ha,hb⟩
     . e⟨_,cz.lst hb,false,rfl,az (fun h=>(by cases h)) (fun _=>hR _ _ ⟨rfl,rfl⟩)⟩
     . e⟨_,cz.tup hb,true,rfl,az (fun _=>⟨_,cz.tup ha,true,rfl,az (fun h=>(by cases h)) (fun _=>hR _ _ ⟨rfl,rfl⟩)⟩) (fun h=>absurd rfl h)⟩
   rintro σ1 H4 ⟨rfl,rfl⟩;h sA:SqL K H4 a xs∨SqT K H4 a xs:=ht.elim (fun h=>.inl (SqL.of h.1)) (fun h=>.inr (SqT.of h.1));h sB:SqL K H4 b ys∨SqT K H4 b ys:=ht.elim (fun h=>.inl (SqL.of h.2)) (fun h=>.inr (SqT.of h.2));cu σ'=[§a,§b,none]∧H'=H4
   . w;e⟨_,sA,_,sB,rfl,az (fun h=>absurd (by rw[hl]) h) (fun _=>hR _ _ ⟨rfl,rfl⟩)⟩
   rintro σ1 H5 ⟨rfl,rfl⟩;cu ∃ o,σ'=[§a,§b,o]∧H'=H5
   . w;r⟨_,sB,by m,by m,?_⟩;rw[An];r bo (H0:=H5) bv (fun i σ' H'=>∃ o,σ'=[§a,§b,o]∧H'=H5) ⟨none,rfl,rfl⟩ (fun _ _ _ _ ⟨_,_,h⟩=>h▸af.refl _) ?_ ?_
     . rintro i x σ H' hi rfl ⟨o,rfl,rfl⟩ R2 hR2;obtain⟨u,hu0⟩:∃ e,xs[i]?=some e:=⟨_,zJ (by m)⟩;obtain⟨v,hv0⟩:∃ e,ys[i]?=some e:=⟨_,zJ (by m)⟩
       h hz:(0:Int)+(i:Int)=i:=by m
       rw[hz];w;h k1:∀ Q':VK,Q' u H'→rIx K (V.ref a) (V.int i) H' Q':=fun Q' q'=>sA.elim (fun s=>.inl ⟨xs,u,s,bU hu0,q'⟩) (fun s=>.inr (.inl ⟨xs,u,s,bU hu0,q'⟩));h k2:∀ Q':VK,Q' v H'→rIx K (V.ref b) (V.int i) H' Q':=fun Q' q'=>sB.elim (fun s=>.inl ⟨ys,v,s,bU hv0,q'⟩) (fun s=>.inr (.inl ⟨ys,v,s,bU hv0,q'⟩));e k1 _ (k2 _ (hE i u v hu0 hv0 _ _ ⟨true,rfl,az (fun h=>by cases h) (fun _=>hR2 _ _ ⟨_,rfl,rfl⟩)⟩))
     . rintro σ H' ⟨o,rfl,rfl⟩;e hR _ _ ⟨o,rfl,rfl⟩
   rintro σ2 H6 ⟨o,rfl,rfl⟩;w;e q
þ ng {h:Hs}{d e:Int}(hd:∀ x∈h.dp,x.1≤d)(he:d≤e) (c:Str):aX h c e=aX h c d:=by
 h:aZ h.dp c e=aZ h.dp c d:=by
   unfold aZ
   congr 1
   r List.filter_congr fun x hx=>?_;have:=hd x hx;rw[decide_eq_true (show x.1≤e by m),decide_eq_true this]
 unfold aX;rw[this]
þ tj {H:Hp}{ps:List Addr}{L:List (List V)}{p l:Addr}{e:List V}(hT:cm H ps L)(hl:H l=some (.lst (ps.map V.ref)))(hp:H p=none):cm (upd (upd H p (.tup e)) l (.lst ((ps++[p]).map V.ref))) (ps++[p]) (L++[e]):=by
 h hlp:p≠l:=fun z=>by rw[z,hl] at hp;cases hp
 h hlen:=hT.1;r⟨by rw[zL,zL,hT.1];rfl,fun i q x hq hx=>?_⟩;by_cases hi:i < ps.length
 . rw[zU hi] at hq;rw[zU (by m)] at hx;h h1:=hT.2 i q x hq hx;rw[ai (fun z=>by rw[z,hl] at h1;cases h1),ai (fun z=>by rw[z,hp] at h1;cases h1)];e h1
 . rw[zP (by m)] at hq hx
   h hi0:i - ps.length=0:=by
     have:=(List.getElem?_eq_some_iff.mp hq).1;simp at this;m
   rw[hi0] at hq;rw[show i - L.length=0 by m] at hx;cases hq;cases hx;rw[ai hlp,ac]
þ qa {K:PySem.W.Frag}{H:Hp}{a:Addr}{x y z:V}{i j k:Nat}{σ:St}{Q:St→Hp→Prop}(h:H a=some (.tup [x,y,z]))(q:Q (((σ.set i (some x)).set j (some y)).set k (some z)) H):kC K 3 (bQ (bG i) (bQ (bG j) (bQ (bG k) iQ))) (.ref a) σ H Q :=
 ⟨a,[x,y,z],rfl,SqT.of h,rfl,x,[y,z],rfl,y,[z],rfl,z,[],rfl,rfl,q⟩
þ cK {B0 G:Hp}{x:Addr}{o:HO}(S:af B0 G)(h:B0 x=none):af B0 (upd G x o):=fun b u e=>by
 rw[ai (fun z=>by rw[z,h] at e;cases e)];e S _ _ e
þ dg.congr {H:Hp}{d:Addr}{ss ns:List Str}{lk lk2:Str→Str→Str}(h:dg H d ss ns lk)(e:∀ n∈ns,∀ z∈ss,lk n z=lk2 n z):dg H d ss ns lk2:=by
 o⟨kvs,h1,h2,h3⟩:=h;r⟨kvs,h1,h2,fun n hn=>?_⟩;o⟨r,kv,e1,e2,e3⟩:=h3 n hn;e⟨r,kv,e1,e2,fun z hz=>by rw[←e n hn z hz];e e3 z hz⟩
abbrev LK:=Str→Str→Str
noncomputable def fZ (T:List (Int×LK)) (d:Int):Option LK:=((T.filter fun e=>decide (e.1≤d)).getLast?).map (·.2)
þ gh (T:List (Int×LK))(e:Int×LK) (d:Int):fZ (T++[e]) d=if e.1≤d then some e.2 else fZ T d:=by
 unfold fZ;rw[AQ];by_cases h:e.1≤d
 . rw[if_pos h,AV (by simp[h]),Bc,List.getLast?_append];rfl
 . rw[if_neg h,BE (by simp[h]),Bc,AK]
structure TOk (ss ns:List Str) (h:Hs)(T:List (Int×LK)):Prop where
 t0:∃ e r,T=e::r
 to:∀ d,1≤d→∃ lk,fZ T d=some lk∧∀ n∈ns,∀ z∈ss,lk n z=lkB (aV h.bk d).1 (aV h.bk d).2 n z
 tl:T.length≤1000
structure KR (G:Hp)(lk kc kd kt lo:Addr)(so ns ss:List Str) (h:Hs)(T:List (Int×LK)):Prop where
 hlk:G lk=some (.lst [.ref kc,.ref kd,.ref kt,.int h.day,.ref lo])
 hlo:G lo=some (.lst (so.map V.str))
 hkc:Rd G kc (.dK (clV h.cl))
 hkd:∃ ps:List Addr,G kd=some (.lst (ps.map V.ref))∧cm G ps (h.dp.map fun e=>[.int e.1,.str e.2.1,.str e.2.2.1])
 hkt:∃ ps ds:List Addr,G kt=some (.lst (ps.map V.ref))∧ps.length=T.length∧ds.length=T.length∧∀ (i:Nat) p d e,ps[i]?=some p→ds[i]?=some d→T[i]?=some e→G p=some (.tup [.int e.1,.ref d])∧dg (hide G kc) d ss ns e.2
þ wO {G G':Hp}(S:Fz G G')(c:Addr):Fz (hide G c) (hide G' c):=by
 h k:∀ {b o},hide G c b=some o→b≠c∧G b=some o:=fun {b o} h=>by
   by_cases e:b=c
   . rw[e] at h;unfold hide at h;rw[if_pos rfl] at h;cases h
   . e⟨e,by rw[aY e] at h;e h⟩
 r⟨fun b o h n=>?_,fun b o h=>?_⟩
 . o⟨e,h⟩:=k h;rw[aY e];e S.1 b o h n
 . h hb:b≠c∧Rd G b o:=by
     rcases h with h | ⟨u,h⟩
     . e⟨(k h).1,.inl (k h).2⟩
     . e⟨(k h).1,.inr ⟨u,(k h).2⟩⟩
   rcases S.2 b o hb.2 with h | ⟨u,h⟩
   . e .inl (by rw[aY hb.1];e h)
   . e .inr ⟨u,by rw[aY hb.1];e h⟩
þ cm.fz {H H':Hp}{ps:List Addr}{L:List (List V)}(S:Fz H H')(h:cm H ps L):cm H' ps L:=⟨h.1,fun i p e hp he=>S.1 _ _ (h.2 i p e hp he) (fun _ e=>by cases e)⟩
þ KR.fz {G G':Hp}{lk kc kd kt lo:Addr}{so ns ss:List Str}{h:Hs}{T:List (Int×LK)}(R:KR G lk kc kd kt lo so ns ss h T)(S:Fz G G'):KR G' lk kc kd kt lo so ns ss h T:=by
 o⟨h1,h2,h3,⟨ps,h4,h5⟩,⟨qs,ds,h6,h7,h8,h9⟩⟩:=R;e⟨S.1 _ _ h1 (fun _ e=>by cases e),S.1 _ _ h2 (fun _ e=>by cases e),S.2 _ _ h3,⟨ps,S.1 _ _ h4 (fun _ e=>by cases e),h5.fz S⟩,⟨qs,ds,S.1 _ _ h6 (fun _ e=>by cases e),h7,h8,fun i p d e a b c=>⟨S.1 _ _ (h9 i p d e a b c).1 (fun _ e=>by cases e),Fz.tabG (wO S kc) (h9 i p d e a b c).2⟩⟩⟩
þ KR.same {G G':Hp}{lk kc kd kt lo:Addr}{so ns ss:List Str}{h:Hs}{T:List (Int×LK)}(R:KR G lk kc kd kt lo so ns ss h T)(S:af G G'):KR G' lk kc kd kt lo so ns ss h T:=R.fz (af.fz S)
structure ge (h:Hs):Prop where
 srt:h.dp.Pairwise (fun a b=>a.1≤b.1)
 out:∀ (i:Nat) e,h.dp[i]?=some e→e.2.2.2=lkB (aV h.bk e.1).1 (aV h.bk e.1).2 e.2.2.1 (aX { h with dp:=h.dp.take i } e.2.1 e.1)
þ oH {h:Hs}{c:Str}{d:Int}{x:Int×Str×Str}(hl:(aZ h.dp c d).getLast?=some x):aX h c d=x.2.2:=by
 unfold aX;rw[hl]
þ f7 {h:Hs}{c:Str}{d:Int}(hl:aZ h.dp c d=[]):aX h c d=(h.cl.lookup c).getD ⟨#[]⟩:=by
 unfold aX;rw[hl];rfl
noncomputable def gk:Sp:=fun vs H Q _=>∃ (G:Hp)(lk kc kd kt lo:Addr)(so ns ss:List Str) (h:Hs)(Tb:List (Int×LK)) (day:Int),vs=[.ref lk,.int day]∧af G H∧KR G lk kc kd kt lo so ns ss h Tb∧TOk ss ns h Tb∧1≤day∧∀ d,dg (hide G kc) d ss ns (lkB (aV h.bk day).1 (aV h.bk day).2)→Q (.ref d) H
þ eP:ay ["_law_kept", "_law_day_here", "_law_found", "_law_since", "_law_tables_here"] ["_law_kept", "_law_day_here"] (ar kq):=®
þ pJ {f:Addr}{fd:FuncData}(F:Fun K "_law_in_force" "_law_in_force" kq f fd)
   (T:Txt mg)  :
   aW P w K mg base CX0 1 f fd ["_law_kept", "_law_day_here"] gk:=by
 fo eP;o⟨G,lk,kc,kd,kt,lo,so,ns,ss,h,Tb,day,rfl,SG,KR0,TO,hd,q⟩:=h
 r⟨_,(aj (aL (i:=2) eP.nd rfl (Or.inl rfl) (am aK (am ak (am ak (pv 0) ag ¿) ag ¿) ag ¿))
   (aj (bC PassesOwn.never rfl (ba (am ak (pv 0) ag ¿)) (cC (n:=2) rfl (aG (aw (i:=3) eP.nd rfl (Or.inl rfl)) (aG (aw (i:=4) eP.nd rfl (Or.inl rfl)) bV))) (ah (aC (ap rh (pv 3) (pv 1) (ax _)) (ah (aL (i:=2) eP.nd rfl (Or.inl rfl) (pv 4))) ao)))
   (ah (aq (pv 2))))),?_⟩
 try dsimp only[aE,aO]
 h hs:=aM;o⟨ps,ds,hkt,hpl,hdl,hE⟩:=KR0.hkt;o⟨e0,Tr,hTe⟩:=TO.t0
 h hp0:0 < ps.length:=by rw[hpl,hTe];e Cy _
 obtain⟨p0,hp0'⟩:∃ p,ps[0]?=some p:=⟨_,zJ hp0⟩;obtain⟨d0,hd0'⟩:∃ d,ds[0]?=some d:=⟨_,zJ (by m)⟩;o⟨ht0,_⟩:=hE 0 p0 d0 e0 hp0' hd0' (by rw[hTe];rfl);cu σ'=[§lk,£day,§d0,none,none]∧H'=H
 . w;e⟨_,SqL.of (SG _ _ KR0.hlk),_,rfl,kt,rfl,_,SqL.of (SG _ _ hkt),_,bU (j:=0) (by rw[zK,hp0'];rfl),p0,rfl,_,SqT.of (SG _ _ ht0),_,rfl,hR _ _ ⟨rfl,rfl⟩⟩
 rintro σ1 H1 ⟨rfl,rfl⟩;cu ∃ (d:Addr)(o3 o4:Option V),σ'=[§lk,£day,§d,o3,o4]∧H'=H1∧dg (hide G kc) d ss ns (lkB (aV h.bk day).1 (aV h.bk day).2)
 . w;r⟨_,SqL.of (SG _ _ KR0.hlk),_,rfl,kt,rfl,⟨_,SqL.of (SG _ _ hkt)⟩,?_⟩;r bo (H0:=H1) (aH (SqL.of (SG _ _ hkt))) (fun i σ' H'=>∃ (d:Addr)(o3 o4:Option V),σ'=[§lk,£day,§d,o3,o4]∧H'=H1∧∀ b,fZ (Tb.take i) day=some b→dg (hide G kc) d ss ns b) ⟨d0,none,none,rfl,rfl,fun b hb=>by cases hb⟩ (fun _ _ _ _ ⟨_,_,_,_,e,_⟩=>by rw[e];e af.refl _) ?_ ?_
   . rintro i x σ' H' hi hx ⟨d,o3,o4,rfl,rfl,hb⟩ R2 hR2;rw[zK] at hx;o⟨p,hp,rfl⟩:=Option.map_eq_some_iff.mp hx;rw[be] at hi;obtain⟨e,he⟩:∃ e,Tb[i]?=some e:=⟨_,zJ (by m)⟩;obtain⟨d1,hd1⟩:∃ d,ds[i]?=some d:=⟨_,zJ (by m)⟩;o⟨ht,hG⟩:=hE i p d1 e hp hd1 he;r d7 (SG _ _ ht) ?_;w;r az (fun hle=>hR2 _ _ ⟨d1,_,_,rfl,rfl,fun b hb2=>?_⟩) (fun hle=>hR2 _ _ ⟨d,_,_,rfl,rfl,fun b hb2=>hb b ?_⟩)
     . rw[bw he,gh,if_pos hle] at hb2;cases hb2;e hG
     . rw[bw he,gh,if_neg hle] at hb2;e hb2
   . rintro σ' H' ⟨d,o3,o4,rfl,rfl,hb⟩;rw[be,hpl,AE] at hb;o⟨b,hb1,hb2⟩:=TO.to day hd;e hR _ _ ⟨d,_,_,rfl,rfl,dg.congr (hb b hb1) hb2⟩
 rintro σ2 H2 ⟨d,o3,o4,rfl,rfl,hd2⟩;w;e q d hd2
noncomputable def fu:Sp:=fun vs H Q _=>∃ (lk kc kd kt lo:Addr)(so ns ss:List Str) (h:Hs)(Tb:List (Int×LK)) (c:Str) (day:Int),vs=[.ref lk,.str c,.int day]∧KR H lk kc kd kt lo so ns ss h Tb∧TOk ss ns h Tb∧ge h∧bK ss ns h∧(∀ e∈h.dp,e.2.2.1∈ns)∧c∈h.cl.map (·.1)∧∀ l ps H',af H H'→H l=none→H' l=some (.lst (ps.map V.ref))→cm H' ps ((aZ h.dp c day).map fun e=>[.int e.1,.str e.2.1,.str e.2.2])→Q (.ref l) H'
þ cP:ay ["_law_kept", "_law_cloth", "_law_day_here", "_law_at_here", "_law_told", "_law_on", "_law_who", "_law_bath"] ["_law_kept", "_law_cloth", "_law_day_here"] (ar iH):=®
þ pj {f fIF:Addr}{fd fdIF:FuncData}(F:Fun K "_law_trail_due" "_law_trail_due" iH f fd)
   (T:Txt mg)
   (GIF:Cl P w K mg base CX0 1 "_law_in_force" ["_law_kept", "_law_day_here"] gk fIF fdIF) :
   aW P w K mg base CX0 2 f fd ["_law_kept", "_law_cloth", "_law_day_here"] fu:=by
 fo cP;o⟨lk,kc,kd,kt,lo,so,ns,ss,h,Tb,c,day,rfl,KR0,TO,HR,ho,hbn,hc,q⟩:=h;h hu:=eF hr;h hr1:=hr.mono (j:=1) (by m)
 r⟨_,(aj (aL (i:=3) cP.nd rfl (Or.inl rfl) (cy hu (am ak (pv 0) ag ¿) (pv 1) ¿))
   (aj (aL (i:=4) cP.nd rfl (Or.inl rfl) (bq ae))
   (aj (bC PassesOwn.never rfl (ba (am ak (pv 0) ag ¿)) (cC (n:=3) rfl (aG (aw (i:=5) cP.nd rfl (Or.inl rfl)) (aG (aw (i:=6) cP.nd rfl (Or.inl rfl)) (aG (aw (i:=7) cP.nd rfl (Or.inl rfl)) bV)))) (ah (aC (PW.pt (iK (ap bO (pv 6) (pv 1) (ax _)) (gj (ap rh (pv 5) (pv 2) (ax _))))) (aN (aL (i:=3) cP.nd rfl (Or.inl rfl) (cy hu (cy hu (pC GIF hr1 aA (aa (pv 0) (aa (pv 5) ae))) (pv 7) ¿) (pv 3) ¿))
   (ah (aR (eK Ak Aw Ax bT (pv 4) (aa (bS (aa (pv 5) (aa (pv 7) (aa (pv 3) ae)))) ae))))) ao)))
   (ah (aq (pv 4)))))),?_⟩
 try dsimp only[aE,aO]
 h hs:=aM;o⟨ps,hkd,hT⟩:=KR0.hkd;h hpl:=hT.1;rw[be] at hpl;h hdl:=ho.dl
 obtain⟨z0,hz0⟩:∃ z0,(h.cl.lookup c)=some z0:=by
   o⟨x,hx,rfl⟩:=List.mem_map.mp hc;e⟨_,dt ho.cnd hx⟩
 h hz0m:(c,z0)∈h.cl:=by
   o⟨x,hx,hxe⟩:=List.mem_map.mp hc;have:=dt ho.cnd hx;rw[hxe,hz0] at this;cases this;rw[←hxe];e hx
 h hval:bJ (clV h.cl) (Sum.inr c)=some (V.str z0):=er ho.cnd hz0m;cu σ'=[§lk,¢c,£day,¢z0,none,none,none,none]∧H'=H
 . w;e⟨_,SqL.of KR0.hlk,_,rfl,kc,rfl,_,.inl ⟨_,Sum.inr c,KR0.hkc,rfl,hval.symm⟩,hR _ _ ⟨rfl,rfl⟩⟩
 rintro σ1 H1 ⟨rfl,rfl⟩;cu ∃ lt,H1 lt=none∧σ'=[§lk,¢c,£day,¢z0,§lt,none,none,none]∧H'=upd H1 lt (.lst [])
 . w;e⟨by m,fun p hp=>hR _ _ ⟨p,hp,rfl,rfl⟩⟩
 rintro σ2 H2 ⟨lt,hlt,rfl,rfl⟩;h S2:=af.updN (o:=.lst []) hlt;h hlt2:upd H1 lt (.lst []) lt=some (.lst []):=ac;generalize upd H1 lt (.lst [])=H2 at *;h hkd2:=S2 _ _ hkd;cu ∃ (at_:Str)(qs:List Addr)(o5 o6 o7:Option V),σ'=[§lk,¢c,£day,¢at_,§lt,o5,o6,o7]∧af H1 H'∧H' lt=some (.lst (qs.map V.ref))∧cm H' qs ((aZ h.dp c day).map fun e=>[.int e.1,.str e.2.1,.str e.2.2])
 . w;r⟨_,SqL.of (S2 _ _ KR0.hlk),_,rfl,kd,rfl,⟨_,SqL.of hkd2⟩,?_⟩;r bo (H0:=H1) (aH (SqL.of hkd)) (fun i σ' H'=>∃ (qs:List Addr)(o5 o6 o7:Option V),σ'=[§lk,¢c,£day,some (.str (aX { h with dp:=h.dp.take i } c day)),§lt,o5,o6,o7]∧af H1 H'∧aX { h with dp:=h.dp.take i } c day∈ss∧H' lt=some (.lst (qs.map V.ref))∧cm H' qs ((aZ (h.dp.take i) c day).map fun e=>[.int e.1,.str e.2.1,.str e.2.2])) ⟨[],none,none,none,?_,S2,?_,hlt2,rfl,fun _ _ _ h=>by cases h⟩ (fun _ _ _ _ ⟨_,_,_,_,_,h,_⟩=>h) ?_ ?_
   . rw[show aX { h with dp:=h.dp.take 0 } c day=z0 from by rw[f7 rfl];show(h.cl.lookup c).getD _=z0;rw[hz0];rfl]
   . rw[show aX { h with dp:=h.dp.take 0 } c day=z0 from by rw[f7 rfl];show(h.cl.lookup c).getD _=z0;rw[hz0];rfl];e ho.csh _ hz0m
   . rintro i x σ' H' hi hx ⟨qs,o5,o6,o7,rfl,hS,hat,hl,hTq⟩ R2 hR2;rw[zK] at hx;o⟨p,hp,rfl⟩:=Option.map_eq_some_iff.mp hx;rw[be] at hi;obtain⟨e,he⟩:∃ e,h.dp[i]?=some e:=⟨_,zJ (by m)⟩;h ht:=hS _ _ (hT.2 i p _ hp (by rw[zK,he];rfl));h hem:=zO he
     h hts:aZ (h.dp.take (i+1)) c day=aZ (h.dp.take i) c day++(if e.2.1=c∧e.1≤day then[(e.1,e.2.2.1,e.2.2.2)] else[]):=by
       rw[bw he];e jb (h.dp.take i) e.1 e.2.1 e.2.2.1 e.2.2.2 c day
     h hss:aX { h with dp:=h.dp.take (i+1) } c day=if e.2.1=c∧e.1≤day then e.2.2.2 else aX { h with dp:=h.dp.take i } c day:=by
       rw[bw he];e jc { h with dp:=h.dp.take i } e.1 e.2.1 e.2.2.1 e.2.2.2 c day h.day
     h hql:qs.length≤i:=by
       rw[hTq.1,be];unfold aZ;rw[be];e AB (AZ _ _) (by rw[Aa];m)
     r qa ht ?_;w;by_cases hce:e.2.1=c∧e.1≤day
     . o⟨hc1,hc2⟩:=hce;rw[if_pos ⟨hc1,hc2⟩] at hts hss;h hout:=HR.out i e he
       h hsh:aX { h with dp:=h.dp.take i } e.2.1 e.1=aX { h with dp:=h.dp.take i } c day:=by
         rw[hc1];r(ng (fun x hx=>?_) hc2 c).symm;o⟨j,hj⟩:=AF hx
         h hji:j < i:=by
           have:=(List.getElem?_eq_some_iff.mp hj).1;rw[Aa] at this;m
         h hj2:h.dp[j]?=some x:=by
           have:=hj;rw[List.getElem?_take_of_lt hji] at this;e this
         e List.pairwise_iff_getElem.mp HR.srt j i (List.getElem?_eq_some_iff.mp hj2).1 (List.getElem?_eq_some_iff.mp he).1 hji |> fun k=>by
           rw[(List.getElem?_eq_some_iff.mp hj2).2,(List.getElem?_eq_some_iff.mp he).2] at k;e k
       rw[hsh] at hout;r⟨rfl,az (fun _=>az (fun _=>?_) (fun h=>absurd hc2 h)) (fun h=>absurd hc1 h)⟩;r⟨_,lk,kc,kd,kt,lo,so,ns,ss,h,Tb,e.1,rfl,af.refl _,KR0.same hS,TO,(ho.dd e hem).1,fun d hG0=>?_⟩;h hG:=Fz.tabG (af.fz bM) hG0;o⟨r,g1,g2⟩:=hG.get (hbn e hem) hat;rw[←hout] at g2;r⟨d,rfl,_,g1,r,rfl,_,g2,.inl ⟨rfl,_,SqL.of hl⟩,by m,fun p1 hp1=>⟨_,by rw[ai (aF hl hp1)];e hl,by rw[be];m,?_⟩⟩;rw[show qs.map V.ref++[V.ref p1]=(qs++[p1]).map V.ref by rw[zQ];rfl];r hR2 _ _ ⟨qs++[p1],_,_,_,by rw[hss],?_,by rw[hss];e ho.ds e hem,ac,?_⟩
       . e cK (hS.trans (af.updN hp1)) hlt
       . rw[hts,zQ (f:=fun e:Int×Str×Str=>[V.int e.1,V.str e.2.1,V.str e.2.2])];e tj hTq hl hp1
     . rw[if_neg hce] at hts hss;rw[AK] at hts;h hno:R2 [§lk,¢c,£day,some (.str (aX { h with dp:=h.dp.take i } c day)),§lt,£e.1,¢e.2.1,¢e.2.2.1] H':=hR2 _ _ ⟨qs,_,_,_,by rw[hss],hS,by rw[hss];e hat,hl,by rw[hts];e hTq⟩;e⟨rfl,az (fun h1=>az (fun h2=>absurd ⟨h1,h2⟩ hce) (fun _=>hno)) (fun _=>hno)⟩
   . rintro σ' H' ⟨qs,o5,o6,o7,rfl,hS,hat,hl,hTq⟩;rw[be,hpl,AE] at hTq;e hR _ _ ⟨_,qs,_,_,_,rfl,hS,hl,hTq⟩
 rintro σ3 H3 ⟨at_,qs,o5,o6,o7,rfl,S3,hl3,hT3⟩;w;e q lt qs H3 S3 hlt hl3 hT3
noncomputable def fc:Sp:=fun vs H Q _=>∃ (lk kc kd kt lo:Addr)(so ns ss:List Str) (h:Hs)(Tb:List (Int×LK)) (c:Str) (day:Int),vs=[.ref lk,.str c,.int day]∧KR H lk kc kd kt lo so ns ss h Tb∧TOk ss ns h Tb∧ge h∧bK ss ns h∧(∀ e∈h.dp,e.2.2.1∈ns)∧c∈h.cl.map (·.1)∧∀ H',af H H'→Q (.str (aX h c day)) H'
þ kM:ay ["_law_kept", "_law_cloth", "_law_day_here", "_law_told"] ["_law_kept", "_law_cloth", "_law_day_here"] (ar iV):=®
þ oB {f fTD:Addr}{fd fdTD:FuncData}(F:Fun K "_law_shade_due" "_law_shade_due" iV f fd)
   (T:Txt mg)
   (GTD:Cl P w K mg base CX0 2 "_law_trail_due" ["_law_kept", "_law_cloth", "_law_day_here"] fu fTD fdTD) :
   aW P w K mg base CX0 3 f fd ["_law_kept", "_law_cloth", "_law_day_here"] fc:=by
 fo kM;o⟨lk,kc,kd,kt,lo,so,ns,ss,h,Tb,c,day,rfl,KR0,TO,HR,ho,hbn,hc,q⟩:=h;h hu:=eF hr;h hr2:=hr.mono (j:=2) (by m)
 r⟨_,(aj (aL (i:=3) kM.nd rfl (Or.inl rfl) (pC GTD hr2 aA (aa (pv 0) (aa (pv 1) (aa (pv 2) ae)))))
   (aj (aC (ap (uR (BJ hu)) (pv 3) (bq ae) (ax _)) (ah (aq (cy hu (am ak (pv 0) ag ¿) (pv 1) ¿))) ao)
   (ah (aq (am aK (am ak (pv 3) (eW dC ag) ¿) ag ¿))))),?_⟩
 try dsimp only[aE,aO]
 h hs:=aM
 obtain⟨z0,hz0⟩:∃ z0,(h.cl.lookup c)=some z0:=by
   o⟨x,hx,rfl⟩:=List.mem_map.mp hc;e⟨_,dt ho.cnd hx⟩
 h hz0m:(c,z0)∈h.cl:=by
   o⟨x,hx,hxe⟩:=List.mem_map.mp hc;have:=dt ho.cnd hx;rw[hxe,hz0] at this;cases this;rw[←hxe];e hx
 h hval:bJ (clV h.cl) (Sum.inr c)=some (V.str z0):=er ho.cnd hz0m;cu ∃ (l:Addr)(ps:List Addr),σ'=[§lk,¢c,£day,§l]∧af H H'∧H' l=some (.lst (ps.map V.ref))∧cm H' ps ((aZ h.dp c day).map fun e=>[.int e.1,.str e.2.1,.str e.2.2])
 . w;e⟨lk,kc,kd,kt,lo,so,ns,ss,h,Tb,c,day,rfl,KR0,TO,HR,ho,hbn,hc,fun l ps H' S _ hl hT=>hR _ _ ⟨l,ps,rfl,S,hl,hT⟩⟩
 rintro σ1 H1 ⟨l,ps,rfl,S1,hl,hT⟩;h KR1:=KR0.same S1;h hpl:=hT.1;rw[be] at hpl;cu aZ h.dp c day≠[]∧σ'=[§lk,¢c,£day,§l]∧af H1 H'
 . w;r⟨by m,fun p hp=>?_⟩;h Sp:=af.updN (o:=.lst []) hp;r⟨_,SqL.of (Sp _ _ hl),[],SqL.of ac,?_,?_⟩
   . by_cases e:ps=[]
     . e .inr (.inr (by rw[e];rfl))
     . e .inr (.inl (by rw[be];e fun z=>e (List.length_eq_zero_iff.mp z)))
   rw[hJ];by_cases hne:aZ h.dp c day=[]
   . h hpe:ps=[]:=List.length_eq_zero_iff.mp (by rw[hpl,hne];rfl);rw[hpe,if_pos (by decide)];r⟨_,SqL.of (Sp _ _ KR1.hlk),_,rfl,kc,rfl,_,.inl ⟨_,Sum.inr c,af.rd Sp KR1.hkc,rfl,hval.symm⟩,?_⟩;have:=q _ (S1.trans Sp);rw[f7 hne,hz0] at this;e this
   . h hpe:ps≠[]:=fun e=>hne (List.length_eq_zero_iff.mp (by rw[←hpl,e];rfl));rw[if_neg (by rw[decide_eq_false (fun e=>hpe (List.map_eq_nil_iff.mp e))];decide)];e hR _ _ ⟨hne,rfl,Sp⟩
 rintro σ2 H2 ⟨hne,rfl,S2⟩;obtain⟨x,hx⟩:∃ x,(aZ h.dp c day).getLast?=some x:=⟨_,AH hne⟩;w;h hpe:ps≠[]:=fun e=>hne (List.length_eq_zero_iff.mp (by rw[←hpl,e];rfl));obtain⟨ps0,p0,rfl⟩:∃ s q,ps=s++[q]:=⟨_,_,(Ac hpe).symm⟩;obtain⟨L0,rfl'⟩:∃ L0,aZ h.dp c day=L0++[x]:=⟨_,by rw[AH hne] at hx;rw[←Option.some.inj hx];e(Ac hne).symm⟩;rw[rfl'] at hT hpl
 h hpl0:ps0.length=L0.length:=by
   rw[zL,zL] at hpl
   simpa using hpl
 h ht0:H1 p0=some (.tup [.int x.1,.str x.2.1,.str x.2.2]):=hT.2 ps0.length p0 _ (by rw[zP (zN _),Ay];rfl) (by rw[zQ,zP (by rw[be,hpl0];e zN _),be,hpl0,Ay];rfl);r⟨_,SqL.of (S2 _ _ hl),V.ref p0,by rw[zQ];e eM _ _,p0,rfl,_,SqT.of (S2 _ _ ht0),_,rfl,?_⟩;have:=q _ (S1.trans S2);rw[oH hx] at this;e this
noncomputable def gl:Sp:=fun vs H Q _=>∃ (lk kc kd kt lo:Addr)(so ns ss:List Str) (h:Hs)(Tb:List (Int×LK)) (day:Int),vs=[.ref lk,.int day]∧KR H lk kc kd kt lo so ns ss h Tb∧h.dp.length≤1000∧∀ l ps H',af H H'→H l=none→H' l=some (.lst (ps.map V.ref))→cm H' ps ((bg h.dp day).map fun e=>[.str e.1,.str e.2])→Q (.ref l) H'
þ tQ:ay ["_law_kept", "_law_day_here"] ["_law_kept", "_law_day_here"] (ar jG):=®
þ qM {f:Addr}{fd:FuncData}(F:Fun K "_law_dips_due" "_law_dips_due" jG f fd)
   (T:Txt mg)  :
   aW P w K mg base CX0 1 f fd ["_law_kept", "_law_day_here"] gl:=by
 fo tQ;o⟨lk,kc,kd,kt,lo,so,ns,ss,h,Tb,day,rfl,KR0,hdl,q⟩:=h;r⟨_,(ah (aq (eX (N':=["_law_on", "_law_who", "_law_bath", "_law_day_here"]) (pk:=[none,none,none,some 1]) rfl (bZ.of (by rfl)) (ba (am ak (pv 0) ag ¿)) (fun s H ex=>((cC (n:=3) rfl (aG (aw (i:=0) (by show(["_law_on", "_law_who", "_law_bath", "_law_day_here"]:List Str).Nodup;d) rfl (Or.inl rfl)) (aG (aw (i:=1) (by show(["_law_on", "_law_who", "_law_bath", "_law_day_here"]:List Str).Nodup;d) rfl (Or.inl rfl)) (aG (aw (i:=2) (by show(["_law_on", "_law_who", "_law_bath", "_law_day_here"]:List Str).Nodup;d) rfl (Or.inl rfl)) bV)))):PG _ _ (kC K 3 (bQ (bG 0) (bQ (bG 1) (bQ (bG 2) iQ)))))) (fun s H ex=>(ap bO (pv 0) (pv 3) (ax _))) (fun s H ex=>(bS (aa (pv 1) (aa (pv 2) ae))))))),?_⟩
 try dsimp only[aE,aO]
 h hs:=aM;o⟨ps,hkd,hT⟩:=KR0.hkd;h hpl:=hT.1;rw[be] at hpl;w;r⟨_,SqL.of KR0.hlk,_,rfl,kd,rfl,⟨_,SqL.of hkd⟩,fun D hD=>?_⟩;r iP (aH (SqL.of hkd)) (by rw[be];m) hD (fun σ=>∃ o1 o2 o3,σ=[o1,o2,o3,£day]) (fun i=>(fun e:Int×Str×Str×Str=>decide (e.1=day)) (h.dp.getD i d0)) (fun i=>(fun e:Int×Str×Str×Str=>[V.str e.2.1,.str e.2.2.1]) (h.dp.getD i d0)) ⟨none,none,none,rfl⟩ ?_ ?_
 . rintro i x σ' H3 hi hx ⟨o1,o2,o3,rfl⟩ hS R1 R0 h1 h0;rw[zK] at hx;o⟨p,hp,rfl⟩:=Option.map_eq_some_iff.mp hx;obtain⟨e,he⟩:∃ e,h.dp[i]?=some e:=⟨_,zJ (by rw[be] at hi;m)⟩;h ht:=hS _ _ (hT.2 i p _ hp (by rw[zK,he];rfl))
   h eg:h.dp.getD i d0=e:=by rw[zM,he];rfl
   simp only[eg] at h1 h0;r qa ht ?_;w;r⟨rfl,az (fun hle=>⟨by m,fun p hp=>h1 (by simp[hle]) p _ ⟨_,_,_,rfl⟩ hp⟩) (fun hle=>h0 (by simp[hle]) _ ⟨_,_,_,rfl⟩)⟩
 . intro qs H' S' hHD hT2;rw[be,hpl,fg h.dp d0 (fun e=>decide (e.1=day)) (fun e=>[V.str e.2.1,.str e.2.2.1])] at hT2;r q D qs H' S' hD hHD ?_;unfold bg;rw[Ao];e hT2
noncomputable def bn (F:Addr→Bool)(H:Hp):Hp:=fun b=>if F b=true then none else H b
þ aU {F:Addr→Bool}{H:Hp}{b:Addr}{o:HO}(h:bn F H b=some o):H b=some o∧F b=false:=by
 unfold bn at h
 cases hf:F b with
 | true=>rw[if_pos hf] at h;cases h
 | false=>rw[if_neg (by rw[hf];decide)] at h;e⟨h,rfl⟩
þ cf {F:Addr→Bool}{H:Hp}{b:Addr}{o:HO}(h:H b=some o)(f:F b=false):bn F H b=some o:=by
 unfold bn;rw[if_neg (by rw[f];decide)];e h
þ au {F:Addr→Bool}{H:Hp}:af (bn F H) H:=fun b o e=>(aU e).1
þ aQ {F:Addr→Bool}{H H':Hp}(S:af H H'):af (bn F H) (bn F H'):=fun b o e=>cf (S b o (aU e).1) (aU e).2
þ dz {F:Addr→Bool}{H:Hp}{x:Addr}{o:HO}(f:F x=false):bn F (upd H x o)=upd (bn F H) x o:=by
 funext b;by_cases e:b=x
 . rw[e,ac];e cf ac f
 . rw[ai e];unfold bn;rw[ai e]
noncomputable def eO (F:Addr→Bool)(H:Hp):Prop:=∀ b,F b=true→H b≠none
þ eO.new {F:Addr→Bool}{H:Hp}{b:Addr}(h:eO F H)(n:H b=none):F b=false:=by
 cases hf:F b with
 | true=>e absurd n (h b hf)
 | false=>rfl
þ eO.same {F:Addr→Bool}{H H':Hp}(h:eO F H)(S:af H H'):eO F H':=fun b hb e=>h b hb (S.free e)
noncomputable def Owx (ks:List Addr)(H H':Hp):Prop:=∀ b o,b∉ks→H b=some o→H' b=some o
þ Owx.same {ks:List Addr}{H H':Hp}(S:af H H'):Owx ks H H':=fun b o _ h=>S b o h
þ Owx.trans {ks:List Addr}{H H1 H2:Hp}(a:Owx ks H H1)(b:Owx ks H1 H2):Owx ks H H2:=fun c o n h=>b c o n (a c o n h)
þ Owx.upd {ks:List Addr}{H:Hp}{x:Addr}{o:HO}(hx:x∈ks):Owx ks H (L2.upd H x o):=fun b u n h=>by
 rw[ai (fun e=>n (by rw[e];e hx))];e h
þ uM {G:Hp}{x d:Addr}{ss ns:List Str}{lk:LK}{xs:List V}{o:HO}(h:dg G d ss ns lk)(hx:G x=some (.lst xs)):dg (upd G x o) d ss ns lk:=by
 h k:∀ {b kv},Rd G b (.dK kv)→Rd (upd G x o) b (.dK kv):=fun {b kv} h=>by
   h hne:b≠x:=fun e=>by rcases h with h | ⟨_,h⟩<;>(rw[e,hx] at h;cases h)
   rcases h with h | ⟨w,h⟩
   . e .inl (by rw[ai hne];e h)
   . e .inr ⟨w,by rw[ai hne];e h⟩
 o⟨kvs,h1,h2,h3⟩:=h;r⟨kvs,k h1,h2,fun n hn=>?_⟩;o⟨r,kv,e1,e2,e3⟩:=h3 n hn;e⟨r,kv,e1,k e2,e3⟩
þ lc {G:Hp}{x:Addr}{o:HO}:hide (upd G x o) x=hide G x:=by
 funext b;by_cases e:b=x
 . rw[e];unfold hide;rw[if_pos rfl,if_pos rfl]
 . rw[aY e,aY e,ai e]
þ nY {G:Hp}{x y:Addr}{o:HO}(h:x≠y):hide (upd G x o) y=upd (hide G y) x o:=by
 funext b;by_cases e:b=y
 . rw[e,ai (Ne.symm h)];unfold hide;rw[if_pos rfl,if_pos rfl]
 . rw[aY e];by_cases k:b=x
   . rw[k,ac,ac]
   . rw[ai k,ai k,aY e]
þ eT {G G':Hp}(S:af G G')(c:Addr):af (hide G c) (hide G' c):=fun b o h=>by
 by_cases e:b=c
 . rw[e] at h;unfold hide at h;rw[if_pos rfl] at h;cases h
 . rw[aY e] at h ⊢;e S b o h
structure KI (G:Hp)(lk kc kd kt lo:Addr)(so ns ss:List Str) (h:Hs)(T:List (Int×LK)):Prop where
 r:KR G lk kc kd kt lo so ns ss h T
 kcx:G kc=some (.dK (clV h.cl))
 ne:lk≠kd∧lk≠kt∧kd≠kt∧lo≠lk∧lo≠kd∧lo≠kt
section
variable {G G':Hp}{lk kc kd kt lo:Addr}{so ns ss:List Str}{h:Hs}{T:List (Int×LK)}
þ KI.same (K:KI G lk kc kd kt lo so ns ss h T)(S:af G G'):KI G' lk kc kd kt lo so ns ss h T:=⟨K.r.same S,S _ _ K.kcx,K.ne⟩
þ jO {ps:List Addr}{L:List (List V)}{x:Addr}{xs:List V}{o:HO}(t:cm G ps L)(hx:G x=some (.lst xs)):cm (upd G x o) ps L :=
 ⟨t.1,fun i p e hp he=>by
   h ht:=t.2 i p e hp he
   rw[ai (fun z=>by rw[z,hx] at ht;cases ht)];e ht⟩
þ wB {ps:List Addr}{L:List (List V)}{x:Addr}{xs:List (Key×V)}{o:HO}(t:cm G ps L)(hx:G x=some (.dK xs)):cm (upd G x o) ps L :=
 ⟨t.1,fun i p e hp he=>by
   h ht:=t.2 i p e hp he
   rw[ai (fun z=>by rw[z,hx] at ht;cases ht)];e ht⟩
þ KI.cl {cl2:List (Str×Str)}(K:KI G lk kc kd kt lo so ns ss h T):KI (upd G kc (.dK (clV cl2))) lk kc kd kt lo so ns ss { h with cl:=cl2 } T:=by
 o⟨⟨h1,h2,h3,⟨ps,h4,h5⟩,⟨qs,ds,h6,h7,h8,h9⟩⟩,h10,h11⟩:=K
 h nl:∀ {x xs},G x=some (.lst xs)→x≠kc:=fun {x xs} e z=>by rw[z,h10] at e;cases e
 h nt:∀ {x xs},G x=some (.tup xs)→x≠kc:=fun {x xs} e z=>by rw[z,h10] at e;cases e
 e⟨⟨by rw[ai (nl h1)];e h1,by rw[ai (nl h2)];e h2,.inl ac,⟨ps,by rw[ai (nl h4)];e h4,wB h5 h10⟩,⟨qs,ds,by rw[ai (nl h6)];e h6,h7,h8,fun i p d e a b c=>⟨by rw[ai (nt (h9 i p d e a b c).1)];e(h9 i p d e a b c).1,by rw[lc];e(h9 i p d e a b c).2⟩⟩⟩,ac,h11⟩
þ KI.tabl {x:Addr}{xs:List V}{o:HO}{d:Addr}{lk2:LK}(hx:G x=some (.lst xs))(hkc:G kc=some (.dK (clV h.cl)))(t:dg (hide G kc) d ss ns lk2):dg (hide (upd G x o) kc) d ss ns lk2:=by
 h hne:x≠kc:=fun z=>by rw[z,hkc] at hx;cases hx
 rw[nY hne];e uM t (by rw[aY hne];e hx)
þ KI.dp {dp2:List (Int×Str×Str×Str)}{ps2:List Addr}(K:KI G lk kc kd kt lo so ns ss h T)(hT:cm G ps2 (dp2.map fun e=>[.int e.1,.str e.2.1,.str e.2.2.1])):KI (upd G kd (.lst (ps2.map V.ref))) lk kc kd kt lo so ns ss { h with dp:=dp2 } T:=by
 o⟨⟨h1,h2,h3,⟨ps,h4,h5⟩,⟨qs,ds,h6,h7,h8,h9⟩⟩,h10,h11⟩:=K
 h hne:kc≠kd:=fun z=>by rw[z,h4] at h10;cases h10
 h nt:∀ {x xs},G x=some (.tup xs)→x≠kd:=fun {x xs} e z=>by rw[z,h4] at e;cases e
 e⟨⟨by rw[ai h11.1];e h1,by rw[ai h11.2.2.2.2.1];e h2,.inl (by rw[ai hne];e h10),⟨ps2,ac,jO hT h4⟩,⟨qs,ds,by rw[ai (Ne.symm h11.2.2.1)];e h6,h7,h8,fun i p d e a b c=>⟨by rw[ai (nt (h9 i p d e a b c).1)];e(h9 i p d e a b c).1,KI.tabl h4 h10 (h9 i p d e a b c).2⟩⟩⟩,by rw[ai hne];e h10,h11⟩
þ KI.dy {d2:Int}(K:KI G lk kc kd kt lo so ns ss h T):KI (upd G lk (.lst [.ref kc,.ref kd,.ref kt,.int d2,.ref lo])) lk kc kd kt lo so ns ss { h with day:=d2 } T:=by
 o⟨⟨h1,h2,h3,⟨ps,h4,h5⟩,⟨qs,ds,h6,h7,h8,h9⟩⟩,h10,h11⟩:=K
 h hne:kc≠lk:=fun z=>by rw[z,h1] at h10;cases h10
 h nt:∀ {x xs},G x=some (.tup xs)→x≠lk:=fun {x xs} e z=>by rw[z,h1] at e;cases e
 e⟨⟨ac,by rw[ai h11.2.2.2.1];e h2,.inl (by rw[ai hne];e h10),⟨ps,by rw[ai (Ne.symm h11.1)];e h4,jO h5 h1⟩,⟨qs,ds,by rw[ai (Ne.symm h11.2.1)];e h6,h7,h8,fun i p d e a b c=>⟨by rw[ai (nt (h9 i p d e a b c).1)];e(h9 i p d e a b c).1,KI.tabl h1 h10 (h9 i p d e a b c).2⟩⟩⟩,by rw[ai hne];e h10,h11⟩
þ KI.tb {p d:Addr}{dd:Int}{lk2:LK}{qs ds:List Addr}(K:KI G lk kc kd kt lo so ns ss h T)(hq:G kt=some (.lst (qs.map V.ref)))(hd:ds.length=T.length)(hE:∀ (i:Nat) p d e,qs[i]?=some p→ds[i]?=some d→T[i]?=some e→G p=some (.tup [.int e.1,.ref d])∧dg (hide G kc) d ss ns e.2)(hp:G p=some (.tup [.int dd,.ref d]))(ht:dg (hide G kc) d ss ns lk2):KI (upd G kt (.lst ((qs++[p]).map V.ref))) lk kc kd kt lo so ns ss h (T++[(dd,lk2)]):=by
 o⟨⟨h1,h2,h3,⟨ps,h4,h5⟩,⟨qs0,ds0,h6,h7,h8,h9⟩⟩,h10,h11⟩:=K
 h hqe:qs=qs0:=by
   rw[hq] at h6;have:=HO.lst.inj (Option.some.inj h6);e List.map_inj_right (fun _ _ e=>V.ref.inj e) |>.mp this
 subst hqe
 h hne:kc≠kt:=fun z=>by rw[z,hq] at h10;cases h10
 h nt:∀ {x xs},G x=some (.tup xs)→x≠kt:=fun {x xs} e z=>by rw[z,hq] at e;cases e
 r⟨⟨by rw[ai h11.2.1];e h1,by rw[ai h11.2.2.2.2.2];e h2,.inl (by rw[ai hne];e h10),⟨ps,by rw[ai h11.2.2.1];e h4,jO h5 hq⟩,⟨qs++[p],ds++[d],ac,by rw[zL,zL,h7];rfl,by rw[zL,zL,hd];rfl,fun i p' d' e' a b c=>?_⟩⟩,by rw[ai hne];e h10,h11⟩
 h key:G p'=some (.tup [.int e'.1,.ref d'])∧dg (hide G kc) d' ss ns e'.2:=by
   by_cases hi:i < qs.length
   . rw[zU hi] at a;rw[zU (by m)] at b c;e hE i p' d' e' a b c
   . rw[zP (by m)] at a b c
     h hj0:i - qs.length=0:=by
       have:=(List.getElem?_eq_some_iff.mp a).1;simp only[zR] at this;m
     rw[hj0] at a;rw[show i - ds.length=0 by m] at b;rw[show i - T.length=0 by m] at c;cases a;cases b;cases c;e⟨hp,ht⟩
 e⟨by rw[ai (nt key.1)];e key.1,KI.tabl hq h10 key.2⟩
end
noncomputable def cU (w:Str):List V:=[.str "refused",.str (¶"ValueError "++w),.int 0]
noncomputable def i4:Sp:=fun vs H Q _=>∃ wd:Str,vs=[.str wd]∧wd.length≤100∧∀ t,H t=none→Q (.ref t) (upd H t (.tup [.str "refused",.str (¶"ValueError "++wd),.int 0]))
þ zI:ay ["_law_word"] ["_law_word"] (ar sNo):=®
þ zh {f:Addr}{fd:FuncData}(F:Fun K "_law_no" "_law_no" sNo f fd)
   (T:Txt mg)  :
   aW P w K mg base CX0 1 f fd ["_law_word"] i4:=by
 fo zI;o⟨wd,rfl,hw,q⟩:=h;r⟨_,(ah (aq (bS (aa aB (aa (aI fq aB (pv 0)) (aa ag ae)))))),?_⟩
 try dsimp only[aE,aO]
 h hs:=aM
 h h11:¶"ValueError ".length=11:=by d
 w;e⟨by rw[h11];m,by m,fun p hp=>q p hp⟩
noncomputable def oO:Sp:=fun vs H Q _=>∃ z:Str,vs=[.str z]∧z.length≤1000∧Q (.bl (bc z)) H
þ oX:ay ["_law_text", "_law_sign"] ["_law_text"] (ar ml):=®
þ sZ {f:Addr}{fd:FuncData}(F:Fun K "_law_is_name" "_law_is_name" ml f fd)
   (T:Txt mg)  :
   aW P w K mg base CX0 1 f fd ["_law_text"] oO:=by
 fo oX;o⟨z,rfl,hz,q⟩:=h
 r⟨_,(aj (aC (PW.pt (em (ap cX (al dS (by rfl) T.len zT (aa (pv 0) ae)) ag (ax _)) (cM (ap fJ (al dS (by rfl) T.len zT (aa (pv 0) ae)) ag (ax _))))) (ah (aq cx)) ao)
   (aj (bC PassesOwn.never rfl (uK (pv 0)) (aw (i:=1) oX.nd rfl (Or.inl rfl)) (ah (aC (ap nD (pv 1) aB (by with_unfolding_all rfl)) (ah (aq cx)) ao)))
   (ah (aq cx)))),?_⟩
 try dsimp only[aE,aO]
 h hs:=aM
 h hgl:∀ c,c∈z.cps.toList→inL c=false→bc z=false:=fun c hc h=>by
   cases hg:bc z with
   | false=>rfl
   | true =>
     unfold bc at hg;rw[Bool.and_eq_true] at hg;have:=List.all_eq_true.mp hg.2 c hc;rw[h] at this;cases this
 cu σ'=[¢z,none]∧H'=H∧1≤z.length∧z.length≤8
 . h gf:¬(1≤z.length∧z.length≤8)→bc z=false:=fun h=>by
     cases hg:bc z with
     | false=>rfl
     | true =>
       unfold bc at hg;rw[Bool.and_eq_true,Bool.and_eq_true] at hg;e absurd ⟨of_decide_eq_true hg.1.1,of_decide_eq_true hg.1.2⟩ h
   w;e⟨by m,az (fun h=>by rw[←gf (by m)];e q) (fun h=>⟨by m,az (fun h'=>by rw[←gf (by m)];e q) (fun h'=>hR _ _ ⟨rfl,rfl,by m,by m⟩)⟩)⟩
 rintro σ1 H1 ⟨rfl,rfl,h1,h8⟩;cu ∃ o,σ'=[¢z,o]∧H'=H1∧bc z=true
 . w;r bo (H0:=H1) ja (fun i σ' H'=>∃ o,σ'=[¢z,o]∧H'=H1∧(z.cps.toList.take i).all inL=true) ⟨none,rfl,rfl,rfl⟩ (fun _ _ _ _ ⟨_,_,h,_⟩=>h▸af.refl _) ?_ ?_
   . rintro i x σ H' hi ⟨c,hc,rfl⟩ ⟨o,rfl,rfl,hp⟩ R2 hR2
     h hc':z.cps.toList[i]?=some c:=by simpa using hc
     h e:inL c=!(Builtin.Str.occurrences ¶"abcdefghijklmnopqrstuvwxyz" ⟨#[c]⟩ 0 ¶"abcdefghijklmnopqrstuvwxyz".length 1).isEmpty:=rfl;w;rw[←e];e az (fun h=>by rw[←hgl c (zO hc') h];e q) (fun h=>hR2 _ _ ⟨_,rfl,rfl,by rw[bw hc',List.all_append,hp];simp[Bool.of_not_eq_false h]⟩)
   . rintro σ H' ⟨o,rfl,rfl,hp⟩;rw[show z.cps.size=z.cps.toList.length from Array.length_toList.symm,AE] at hp;r hR _ _ ⟨o,rfl,rfl,?_⟩;unfold bc;rw[decide_eq_true h1,decide_eq_true h8,hp];rfl
 rintro σ2 H2 ⟨o,rfl,rfl,hg⟩;w;rw[←hg];e q
noncomputable def jM:Sp:=fun vs H Q _=>∃ (F:Addr→Bool)(lk kc kd kt lo:Addr)(so ns ss:List Str) (h:Hs)(Tb:List (Int×LK)) (c z:Str),vs=[.ref lk,.str c,.str z]∧KI (bn F H) lk kc kd kt lo so ns ss h Tb∧eO F H∧bK ss ns h∧Shw c∧h.cl.length≤60∧(∀ t H' w,((bc c=false∧w=¶"BadName")∨(bc c=true∧c∈h.cl.map (·.1)∧w=¶"Known")∨(bc c=true∧c∉h.cl.map (·.1)∧z∉so∧w=¶"NoShade"))→af H H'→H t=none→H' t=some (.tup (cU w))→Q (.ref t) H')∧(bc c=true→c∉h.cl.map (·.1)→z∈so→∀ H',Owx [lk,kc,kd,kt] H H'→KI (bn F H') lk kc kd kt lo so ns ss { h with cl:=h.cl++[(c,z)] } Tb→Q .non H')
þ pZ:ay ["_law_kept", "_law_cloth", "_law_shade"] ["_law_kept", "_law_cloth", "_law_shade"] (ar iy):=®
þ nN {f fIs fNw:Addr}{fd fdIs fdNw:FuncData}(F:Fun K "_law_bring_due" "_law_bring_due" iy f fd)
   (T:Txt mg)
   (GIs:Cl P w K mg base CX0 1 "_law_is_name" ["_law_text"] oO fIs fdIs)
   (GNw:Cl P w K mg base CX0 1 "_law_no" ["_law_word"] i4 fNw fdNw) :
   aW P w K mg base CX0 2 f fd ["_law_kept", "_law_cloth", "_law_shade"] jM:=by
 fo pZ;o⟨F,lk,kc,kd,kt,lo,so,ns,ss,h,Tb,c,z,rfl,K0,oF,ho,hc,hcl,q1,q2⟩:=h;h hu:=eF hr;h hr1:=hr.mono (j:=1) (by m)
 r⟨_,(aj (aC (bW (bF (pC GIs hr1 aA (aa (pv 1) ae)))) (ah (aq (pC GNw hr1 aA (aa aB ae)))) ao)
   (aj (aC (fk (uz hu (pv 1) (am ak (pv 0) ag ¿))) (ah (aq (pC GNw hr1 aA (aa aB ae)))) ao)
   (aj (aC (ap cG (pv 2) (am ak (pv 0) ag ¿) (by with_unfolding_all rfl)) (ah (aq (pC GNw hr1 aA (aa aB ae)))) ao)
   (aj (dH hu (am ak (pv 0) ag ¿) (pv 1) (pv 2) rfl)
   (ah (aq kF)))))),?_⟩
 try dsimp only[aE,aO]
 h hs:=aM;h up:=au (F:=F) (H:=H);h KR0:=K0.r
 h hcll:(clV h.cl).length=h.cl.length:=by unfold clV;rw[be]
 cu bc c=true∧σ'=[§lk,¢c,¢z]∧H'=H
 . w;e⟨c,rfl,hc.1,_,rfl,az (fun hg=>⟨_,rfl,by d,fun t ht=>q1 t _ _ (.inl ⟨hg,rfl⟩) (af.updN ht) ht ac⟩) (fun hg=>hR _ _ ⟨by cases hb:bc c<;>first | rfl | e absurd hb hg,rfl,rfl⟩)⟩
 rintro σ1 H1 ⟨hg,rfl,rfl⟩;cu c∉h.cl.map (·.1)∧σ'=[§lk,¢c,¢z]∧H'=H1
 . w;by_cases hm:c∈h.cl.map (·.1)
   . obtain⟨z0,hv⟩:∃ z0,bJ (clV h.cl) (Sum.inr c)=some (V.str z0):=by
       o⟨x,hx,rfl⟩:=List.mem_map.mp hm;e⟨x.2,er ho.cnd hx⟩
     e⟨_,SqL.of (up _ _ KR0.hlk),_,rfl,kc,rfl,some _,.inl ⟨_,Sum.inr c,af.rd up KR0.hkc,rfl,hv.symm⟩,az (fun _=>⟨_,rfl,by d,fun t ht=>q1 t _ _ (.inr (.inl ⟨hg,hm,rfl⟩)) (af.updN ht) ht ac⟩) (fun h=>absurd rfl h)⟩
   . e⟨_,SqL.of (up _ _ KR0.hlk),_,rfl,kc,rfl,none,.inl ⟨_,Sum.inr c,af.rd up KR0.hkc,rfl,(bN hm).symm⟩,az (fun h=>by cases h) (fun _=>hR _ _ ⟨hm,rfl,rfl⟩)⟩
 rintro σ2 H2 ⟨hcn,rfl,rfl⟩;cu z∈so∧σ'=[§lk,¢c,¢z]∧H'=H2
 . w;r⟨_,SqL.of (up _ _ KR0.hlk),_,rfl,lo,rfl,_,.inl (SqL.of (up _ _ KR0.hlo)),rfl,cR so,az (fun hn=>?_) (fun hn=>hR _ _ ⟨?_,rfl,rfl⟩)⟩
   . rw[da,decide_eq_false_iff_not] at hn;e⟨_,rfl,by d,fun t ht=>q1 t _ _ (.inr (.inr ⟨hg,hcn,hn,rfl⟩)) (af.updN ht) ht ac⟩
   . rw[da,decide_eq_false_iff_not] at hn;e Classical.not_not.mp hn
 rintro σ3 H3 ⟨hzs,rfl,rfl⟩;cu σ'=[§lk,¢c,¢z]∧H'=upd H3 kc (.dK (clV (h.cl++[(c,z)])))
 . w;r⟨_,SqL.of (up _ _ KR0.hlk),_,rfl,kc,rfl,_,.inl ⟨_,Sum.inr c,up _ _ K0.kcx,rfl,by rw[hcll];m,rfl⟩,hR _ _ ⟨rfl,?_⟩⟩;rw[cZ _ (bN hcn)];unfold clV;rw[zQ];rfl
 rintro σ4 H4 ⟨rfl,rfl⟩;w;h hf:=(aU K0.kcx).2;e q2 hg hcn hzs _ (Owx.upd (by simp)) (by rw[dz hf];e K0.cl)
þ gy {kvs:List (Key×V)}{k:Key}:(bJ kvs k).isSome=true↔k∈kvs.map (·.1):=by
 rw[←d6,List.any_eq_true];e⟨fun⟨x,hx,he⟩=>by rw[←of_decide_eq_true he];e Aj hx,fun h=>by o⟨x,hx,rfl⟩:=List.mem_map.mp h;e⟨x,hx,decide_eq_true rfl⟩⟩
þ ge.dip {ss ns:List Str}{h:Hs}(HR:ge h)(ho:bK ss ns h){c b:Str}{d:Int}(hge:h.day≤d):ge { h with day:=d,dp:=h.dp++[(d,c,b,lkB (aV h.bk d).1 (aV h.bk d).2 b (aX h c d))] }:=by
 r⟨?_,fun i e he=>?_⟩
 . show(h.dp++[_]).Pairwise _;rw[Bt];e⟨HR.srt,Bl _ _,fun x hx y hy=>by rw[List.mem_singleton.mp hy];e Cj (ho.dd x hx).2 hge⟩
 . show e.2.2.2=lkB (aV h.bk e.1).1 (aV h.bk e.1).2 e.2.2.1 (aX { h with dp:=(h.dp++[_]).take i } e.2.1 e.1);h he':(h.dp++[(d,c,b,lkB (aV h.bk d).1 (aV h.bk d).2 b (aX h c d))])[i]?=some e:=he;by_cases hi:i < h.dp.length
   . rw[zU hi] at he';rw[List.take_append_of_le_length (by m)];e HR.out i e he'
   . rw[zP (by m)] at he'
     h hj0:i - h.dp.length=0:=by
       have:=(List.getElem?_eq_some_iff.mp he').1;simp only[zR] at this;m
     rw[hj0] at he';cases he'
     h:i=h.dp.length:=by m
     subst this;rw[List.take_left]
noncomputable def oj:Sp:=fun vs H Q _=>∃ (F:Addr→Bool)(lk kc kd kt lo:Addr)(so ns ss:List Str) (h:Hs)(Tb:List (Int×LK)) (c b:Str) (d:Int),vs=[.ref lk,.str c,.str b,.int d]∧KI (bn F H) lk kc kd kt lo so ns ss h Tb∧eO F H∧TOk ss ns h Tb∧ge h∧bK ss ns h∧(∀ e∈h.dp,e.2.2.1∈ns)∧h.dp.length < 1000∧(∀ t H' w,((c∉h.cl.map (·.1)∧w=¶"NoCloth")∨(c∈h.cl.map (·.1)∧b∉ns∧w=¶"NoBath")∨(c∈h.cl.map (·.1)∧b∈ns∧¬(1≤d∧d≤400)∧w=¶"NoDay")∨(c∈h.cl.map (·.1)∧b∈ns∧(1≤d∧d≤400)∧d < h.day∧w=¶"Late"))→af H H'→H t=none→H' t=some (.tup (cU w))→Q (.ref t) H')∧(c∈h.cl.map (·.1)→b∈ns→(1≤d∧d≤400)→h.day≤d→∀ o,lkB (aV h.bk d).1 (aV h.bk d).2 b (aX h c d)=o→∀ H',Owx [lk,kc,kd,kt] H H'→KI (bn F H') lk kc kd kt lo so ns ss { h with day:=d,dp:=h.dp++[(d,c,b,o)] } Tb→Q (.str o) H')
þ uV:ay ["_law_kept", "_law_cloth", "_law_bath", "_law_day_here"] ["_law_kept", "_law_cloth", "_law_bath", "_law_day_here"] (ar nC):=®
þ sS {f fNw fSD:Addr}{fd fdNw fdSD:FuncData}(F:Fun K "_law_dip_due" "_law_dip_due" nC f fd)
   (T:Txt mg)
   (GNw:Cl P w K mg base CX0 1 "_law_no" ["_law_word"] i4 fNw fdNw)
   (GSD:Cl P w K mg base CX0 3 "_law_shade_due" ["_law_kept", "_law_cloth", "_law_day_here"] fc fSD fdSD) :
   aW P w K mg base CX0 4 f fd ["_law_kept", "_law_cloth", "_law_bath", "_law_day_here"] oj:=by
 fo uV;o⟨F,lk,kc,kd,kt,lo,so,ns,ss,h,Tb,c,b,d,rfl,K0,oF,TO,HR,ho,hbn,hdl,q1,q2⟩:=h;h hu:=eF hr;h hr1:=hr.mono (j:=1) (by m);h hr3:=hr.mono (j:=3) (by m)
 r⟨_,(aj (aC (fk (dq hu (pv 1) (am ak (pv 0) ag ¿))) (ah (aq (pC GNw hr1 aA (aa aB ae)))) ao)
   (aj (aC (fk (dq hu (pv 2) (am aK (am ak (am ak (pv 0) ag ¿) ag ¿) ag ¿))) (ah (aq (pC GNw hr1 aA (aa aB ae)))) ao)
   (aj (aC (PW.pt (em (ap cX (pv 3) ag (ax _)) (cM (ap fJ (pv 3) ag (ax _))))) (ah (aq (pC GNw hr1 aA (aa aB ae)))) ao)
   (aj (aC (ap cX (pv 3) (am ak (pv 0) ag ¿) (ax _)) (ah (aq (pC GNw hr1 aA (aa aB ae)))) ao)
   (aj (aR (eK Ak Aw Ax bT (am ak (pv 0) ag ¿) (aa (bS (aa (pv 3) (aa (pv 1) (aa (pv 2) ae)))) ae)))
   (aj (mq (pv 3) (pG (pv 0) ag jU))
   (ah (aq (pC GSD hr3 aA (aa (pv 0) (aa (pv 1) (aa (pv 3) ae)))))))))))),?_⟩
 try dsimp only[aE,aO]
 h hs:=aM;h up:=au (F:=F) (H:=H);h KR0:=K0.r;cu c∈h.cl.map (·.1)∧σ'=[§lk,¢c,¢b,£d]∧H'=H
 . w;by_cases hm:c∈h.cl.map (·.1)
   . obtain⟨z0,hv⟩:∃ z0,bJ (clV h.cl) (Sum.inr c)=some (V.str z0):=by
       o⟨x,hx,rfl⟩:=List.mem_map.mp hm;e⟨x.2,er ho.cnd hx⟩
     e⟨_,SqL.of (up _ _ KR0.hlk),_,rfl,kc,rfl,some _,.inl ⟨_,Sum.inr c,af.rd up KR0.hkc,rfl,hv.symm⟩,az (fun h=>by cases h) (fun _=>hR _ _ ⟨hm,rfl,rfl⟩)⟩
   . e⟨_,SqL.of (up _ _ KR0.hlk),_,rfl,kc,rfl,none,.inl ⟨_,Sum.inr c,af.rd up KR0.hkc,rfl,(bN hm).symm⟩,az (fun _=>⟨_,rfl,by d,fun t ht=>q1 t _ _ (.inl ⟨hm,rfl⟩) (af.updN ht) ht ac⟩) (fun h=>absurd rfl h)⟩
 rintro σ1 H1 ⟨hcm,rfl,rfl⟩;cu b∈ns∧σ'=[§lk,¢c,¢b,£d]∧H'=H1
 . o⟨ps,ds,hkt,hpl,hdl,hE⟩:=KR0.hkt;o⟨e0,Tr,hTe⟩:=TO.t0
   h hp0:0 < ps.length:=by rw[hpl,hTe];e Cy _
   obtain⟨p0,hp0'⟩:∃ p,ps[0]?=some p:=⟨_,zJ hp0⟩;obtain⟨d0,hd0'⟩:∃ d,ds[0]?=some d:=⟨_,zJ (by m)⟩;o⟨ht0,hG0⟩:=hE 0 p0 d0 e0 hp0' hd0' (by rw[hTe];rfl);o⟨kvs,hRd,hkeys,_⟩:=Fz.tabG (af.fz (bM.trans up)) hG0
   h hiff:(bJ kvs (Sum.inr b)).isSome=true↔b∈ns:=by
     rw[gy,hkeys];e⟨fun h=>by o⟨x,hx,e⟩:=List.mem_map.mp h;cases e;e hx,fun h=>Aj h⟩
   w;r⟨_,SqL.of (up _ _ KR0.hlk),_,rfl,kt,rfl,_,SqL.of (up _ _ hkt),_,bU (j:=0) (by rw[zK,hp0'];rfl),p0,rfl,_,SqT.of (up _ _ ht0),_,rfl,d0,rfl,_,.inl ⟨_,Sum.inr b,hRd,rfl,rfl⟩,az (fun hn=>?_) (fun hn=>hR _ _ ⟨hiff.mp (by cases hb:(bJ kvs (Sum.inr b)).isSome<;>first | rfl | e absurd hb hn),rfl,rfl⟩)⟩;e⟨_,rfl,by d,fun t ht=>q1 t _ _ (.inr (.inl ⟨hcm,(fun hb=>by rw[hiff.mpr hb] at hn;cases hn),rfl⟩)) (af.updN ht) ht ac⟩
 rintro σ2 H2 ⟨hbm,rfl,rfl⟩;cu (1≤d∧d≤400)∧σ'=[§lk,¢c,¢b,£d]∧H'=H2
 . w;h hbad:¬(1≤d∧d≤400)→i4 [V.str ¶"NoDay"] H2 Q E0:=fun hn=>⟨_,rfl,by d,fun t ht=>q1 t _ _ (.inr (.inr (.inl ⟨hcm,hbm,hn,rfl⟩))) (af.updN ht) ht ac⟩;e az (fun h=>hbad (by m)) (fun h1=>az (fun h=>hbad (by m)) (fun h2=>hR _ _ ⟨by m,rfl,rfl⟩))
 rintro σ3 H3 ⟨hday,rfl,rfl⟩;cu h.day≤d∧σ'=[§lk,¢c,¢b,£d]∧H'=H3
 . w;e⟨_,SqL.of (up _ _ KR0.hlk),_,rfl,_,rfl,az (fun hl=>⟨_,rfl,by d,fun t ht=>q1 t _ _ (.inr (.inr (.inr ⟨hcm,hbm,hday,hl,rfl⟩))) (af.updN ht) ht ac⟩) (fun hl=>hR _ _ ⟨by m,rfl,rfl⟩)⟩
 rintro σ4 H4 ⟨hge,rfl,rfl⟩;o⟨ps,hkd,hT⟩:=KR0.hkd;h hpl:=hT.1;rw[be] at hpl;cu ∃ p,H4 p=none∧σ'=[§lk,¢c,¢b,£d]∧H'=upd (upd H4 p (.tup [.int d,.str c,.str b])) kd (.lst ((ps++[p]).map V.ref))
 . w;r⟨_,SqL.of (up _ _ KR0.hlk),_,rfl,.inl ⟨rfl,_,SqL.of (up _ _ hkd)⟩,by m,fun p hp=>⟨kd,rfl,_,by rw[ai (aF (up _ _ hkd) hp)];e up _ _ hkd,by rw[be];m,hR _ _ ⟨p,hp,rfl,?_⟩⟩⟩;rw[zQ];rfl
 rintro σ5 H5 ⟨p,hp,rfl,rfl⟩;obtain⟨o,hoe⟩:∃ o,lkB (aV h.bk d).1 (aV h.bk d).2 b (aX h c d)=o:=⟨_,rfl⟩
 h hos:o∈ss:=by
   o⟨Bd,hNd,hZd⟩:=ho.on d;rw[←hoe];e(hZd _).mp (sf Bd b ((hNd b).mpr hbm) _ ((hZd _).mpr (gG ho hcm d)))
 h Sp:af H4 (upd H4 p (.tup [.int d,.str c,.str b])):=af.updN hp;h fkd:=(aU hkd).2;h flk:=(aU KR0.hlk).2;h fp:=oF.new hp
 h K1:=(K0.same (aQ Sp)).dp (dp2:=h.dp++[(d,c,b,o)]) (ps2:=ps++[p]) (by
   rw[zQ]
   e(hT.same (aQ Sp)).snoc (cf ac fp))
 rw[←dz fkd] at K1;generalize hH5:upd (upd H4 p (.tup [.int d,.str c,.str b])) kd (.lst ((ps++[p]).map V.ref))=H5 at *
 h O5:Owx [lk,kc,kd,kt] H4 H5:=by rw[←hH5];e(Owx.same Sp).trans (Owx.upd (by simp))
 cu σ'=[§lk,¢c,¢b,£d]∧H'=upd H5 lk (.lst [.ref kc,.ref kd,.ref kt,.int d,.ref lo])
 . w;e⟨_,au _ _ K1.r.hlk,3,(by show ixN 5 3=some 3;decide),hR _ _ ⟨rfl,rfl⟩⟩
 rintro σ6 H6 ⟨rfl,rfl⟩;h K2:=K1.dy (d2:=d);rw[←dz flk] at K2;h O6:Owx [lk,kc,kd,kt] H4 (upd H5 lk (.lst [.ref kc,.ref kd,.ref kt,.int d,.ref lo])):=O5.trans (Owx.upd (by simp));generalize upd H5 lk (.lst [.ref kc,.ref kd,.ref kt,.int d,.ref lo])=H6 at *;h ho6:bK ss ns { h with day:=d,dp:=h.dp++[(d,c,b,o)] }:=ho.dip hday hge hdl hos
 h HR6:ge { h with day:=d,dp:=h.dp++[(d,c,b,o)] }:=by rw[←hoe];e HR.dip ho hge
 w;r⟨lk,kc,kd,kt,lo,so,ns,ss,_,Tb,c,d,rfl,K2.r.same au,⟨TO.t0,TO.to,TO.tl⟩,HR6,ho6,fun e he=>?_,hcm,fun H' S=>?_⟩
 . rcases List.mem_append.mp he with he | he
   . e hbn e he
   . rw[List.mem_singleton.mp he];e hbm
 . rw[show aX { h with day:=d,dp:=h.dp++[(d,c,b,o)] } c d=o from by rw[jc,if_pos ⟨rfl,Bv _⟩]];e q2 hcm hbm hday hge o hoe H' (O6.trans (Owx.same S)) (K2.same (aQ S))
þ ge.last {ss ns:List Str}{h:Hs}(HR:ge h)(ho:bK ss ns h){d:Int}(hge:h.day≤d)(hne:bg h.dp d≠[]):∃ dp0 e0,h.dp=dp0++[e0]∧e0.1=d:=by
 obtain⟨x,hx,hxd⟩:∃ x∈h.dp,x.1=d:=by
   cases hf:h.dp.filter (fun e=>decide (e.1=d)) with
   | nil=>e absurd (by unfold bg;rw[hf];rfl) hne
   | cons x r =>
     have:=List.mem_filter.mp (hf▸zV:x∈h.dp.filter _);e⟨x,this.1,of_decide_eq_true this.2⟩
 h hdn:h.dp≠[]:=fun e=>by rw[e] at hx;cases hx
 r⟨h.dp.dropLast,h.dp.getLast hdn,(Ac hdn).symm,?_⟩;h h1:=(ho.dd _ (List.getLast_mem hdn)).2;h e:h.dp=h.dp.dropLast++[h.dp.getLast hdn]:=(Ac hdn).symm;h h2:=HR.srt;rw[e,Bt] at h2;rw[e] at hx
 rcases List.mem_append.mp hx with hx | hx
 . have:=h2.2.2 x hx _ zV;m
 . rw[←List.mem_singleton.mp hx];e hxd
þ px {n:Nat}{p:Nat→Bool}(h:p n=true):∃ l,(zS (n+1)).filter p=l++[n]:=by
 rw[Bb,AQ,AV h];e⟨_,rfl⟩
þ kn {dp:List (Int×Str×Str×Str)}{d:Int}:(zS dp.length).filter (fun i=>decide ((dp.getD i d0).1=d))=[]↔bg dp d=[]:=by
 unfold bg;rw[List.map_eq_nil_iff,BK,BK];constructor
 . intro h x hx;o⟨i,hi⟩:=AF hx;have:=h i (List.mem_range.mpr (List.getElem?_eq_some_iff.mp hi).1);rw[zM,hi] at this;e this
 . intro h i hi;h hl:=List.mem_range.mp hi;rw[zM,zJ hl];e h _ (AM hl)
noncomputable def lV:Sp:=fun vs H Q _=>∃ (F:Addr→Bool)(lk kc kd kt lo:Addr)(so ns ss:List Str) (h:Hs)(Tb:List (Int×LK)) (d:Int),vs=[.ref lk,.int d]∧KI (bn F H) lk kc kd kt lo so ns ss h Tb∧eO F H∧ge h∧bK ss ns h∧(∀ t H' w,((¬(1≤d∧d≤400)∧w=¶"NoDay")∨((1≤d∧d≤400)∧d < h.day∧w=¶"Late")∨((1≤d∧d≤400)∧h.day≤d∧bg h.dp d=[]∧w=¶"NoDip"))→af H H'→H t=none→H' t=some (.tup (cU w))→Q (.ref t) H')∧((1≤d∧d≤400)→h.day≤d→∀ e,(bg h.dp d).getLast?=some e→∀ t H',Owx [lk,kc,kd,kt] H H'→H' t=some (.tup [.str e.1,.str e.2])→KI (bn F H') lk kc kd kt lo so ns ss { h with dp:=h.dp.dropLast } Tb→Q (.ref t) H')
þ iY:ay ["_law_kept", "_law_day_here", "_law_spots", "_law_taken"] ["_law_kept", "_law_day_here"] (ar kI):=®
þ qH {f fNw:Addr}{fd fdNw:FuncData}(F:Fun K "_law_back_due" "_law_back_due" kI f fd)
   (T:Txt mg)
   (GNw:Cl P w K mg base CX0 1 "_law_no" ["_law_word"] i4 fNw fdNw) :
   aW P w K mg base CX0 2 f fd ["_law_kept", "_law_day_here"] lV:=by
 fo iY;o⟨F,lk,kc,kd,kt,lo,so,ns,ss,h,Tb,d,rfl,K0,oF,HR,ho,q1,q2⟩:=h;h hu:=eF hr;h hr1:=hr.mono (j:=1) (by m)
 r⟨_,(aj (aC (PW.pt (em (ap cX (pv 1) ag (ax _)) (cM (ap fJ (pv 1) ag (ax _))))) (ah (aq (pC GNw hr1 aA (aa aB ae)))) ao)
   (aj (aC (ap cX (pv 1) (am ak (pv 0) ag ¿) (ax _)) (ah (aq (pC GNw hr1 aA (aa aB ae)))) ao)
   (aj (vv (i:=2) (N':=["_law_k", "_law_kept", "_law_day_here"]) (pk:=[none,some 0,some 1]) iY.nd rfl (Or.inl rfl) rfl (bZ.of (by rfl)) (ck rfl T.range (aa (al av (by rfl) T.len zT (aa (am ak (pv 0) ag ¿) ae)) ae)) (fun s H ex=>(aw (i:=0) (by show(["_law_k", "_law_kept", "_law_day_here"]:List Str).Nodup;d) rfl (Or.inl rfl))) (fun s H ex=>(ap bO (am (aK:IxR _ (pE K)) (am (ak:IxR _ (gP K)) (am (ak:IxR _ (gP K)) (pv 1) ag ¿) (pv 0) ¿) ag ¿) (pv 2) (ax _))) (fun s H ex=>(pv 0)))
   (aj (aC (ap (uR (BJ hu)) (pv 2) (bq ae) (ax _)) (ah (aq (pC GNw hr1 aA (aa aB ae)))) ao)
   (aj (aL (i:=3) iY.nd rfl (Or.inl rfl) (eK Ak PySem.F.slot_list_pop PySem.F.type_list_pop uJ (am ak (pv 0) ag ¿) (aa (am ak (pv 2) (eW dC ag) ¿) ae)))
   (ah (aq (bS (aa (am aK (pv 3) ag ¿) (aa (am aK (pv 3) ag ¿) ae)))))))))),?_⟩
 try dsimp only[aE,aO]
 h hs:=aM;h up:=au (F:=F) (H:=H);h KR0:=K0.r;cu (1≤d∧d≤400)∧σ'=[§lk,£d,none,none]∧H'=H
 . w;h hbad:¬(1≤d∧d≤400)→i4 [V.str ¶"NoDay"] H Q E0:=fun hn=>⟨_,rfl,by d,fun t ht=>q1 t _ _ (.inl ⟨hn,rfl⟩) (af.updN ht) ht ac⟩;e az (fun h=>hbad (by m)) (fun h1=>az (fun h=>hbad (by m)) (fun h2=>hR _ _ ⟨by m,rfl,rfl⟩))
 rintro σ3 H3 ⟨hday,rfl,rfl⟩;cu h.day≤d∧σ'=[§lk,£d,none,none]∧H'=H3
 . w;e⟨_,SqL.of (up _ _ KR0.hlk),_,rfl,_,rfl,az (fun hl=>⟨_,rfl,by d,fun t ht=>q1 t _ _ (.inr (.inl ⟨hday,hl,rfl⟩)) (af.updN ht) ht ac⟩) (fun hl=>hR _ _ ⟨by m,rfl,rfl⟩)⟩
 rintro σ4 H4 ⟨hge,rfl,rfl⟩;o⟨ps,hkd,hT⟩:=KR0.hkd;h hpl:=hT.1;rw[be] at hpl;h hdl:=ho.dl;cu ∃ ls,H4 ls=none∧σ'=[§lk,£d,§ls,none]∧H'=upd H4 ls (.lst (((zS h.dp.length).filter (fun i=>decide ((h.dp.getD i d0).1=d))).map fun i:Nat=>V.int (i:Int)))
 . w;r⟨_,SqL.of (up _ _ KR0.hlk),_,rfl,kd,rfl,_,.inl (SqL.of (up _ _ hkd)),by rw[be];m,by rw[be];m,fun D hD=>?_⟩;rw[be,An,hpl];r fm (bv (n:=h.dp.length)) (by m) hD (fun σ=>∃ o,σ=[o,§lk,£d]) (fun i=>decide ((h.dp.getD i d0).1=d)) (fun i=>V.int (i:Int)) ⟨none,rfl⟩ ?_ (hR _ _ ⟨D,hD,rfl,rfl⟩);rintro i x σ' H' hi rfl ⟨o,rfl⟩ hS R1 R0 h1 h0
   h ei:(0:Int)+(i:Int)=i:=by m
   rw[ei];obtain⟨e,he⟩:∃ e,h.dp[i]?=some e:=⟨_,zJ hi⟩;obtain⟨p,hp⟩:∃ p,ps[i]?=some p:=⟨_,zJ (by m)⟩;h ht:=hS _ _ (up _ _ (hT.2 i p _ hp (by rw[zK,he];rfl)))
   h eg:h.dp.getD i d0=e:=by rw[zM,he];rfl
   simp only[eg] at h1 h0;w;r⟨_,SqL.of (hS _ _ (up _ _ KR0.hlk)),_,rfl,kd,rfl,_,SqL.of (hS _ _ (up _ _ hkd)),_,bU (by rw[zK,hp];rfl),p,rfl,_,SqT.of ht,_,rfl,rfl,az (fun he=>h1 (decide_eq_true (V.int.inj he)) _ ⟨_,rfl⟩) (fun he=>h0 (decide_eq_false (fun k=>he (by rw[k]))) _ ⟨_,rfl⟩)⟩
 rintro σ5 H5 ⟨ls,hls,rfl,rfl⟩;h S5:=af.updN (o:=.lst (((zS h.dp.length).filter (fun i=>decide ((h.dp.getD i d0).1=d))).map fun i:Nat=>V.int (i:Int))) hls;h hls5:upd H4 ls (.lst (((zS h.dp.length).filter (fun i=>decide ((h.dp.getD i d0).1=d))).map fun i:Nat=>V.int (i:Int))) ls=some (.lst (((zS h.dp.length).filter (fun i=>decide ((h.dp.getD i d0).1=d))).map fun i:Nat=>V.int (i:Int))):=ac;h fls:=oF.new hls;generalize hH5:upd H4 ls (.lst (((zS h.dp.length).filter (fun i=>decide ((h.dp.getD i d0).1=d))).map fun i:Nat=>V.int (i:Int)))=H5 at *;h K5:=K0.same (aQ S5);cu bg h.dp d≠[]∧σ'=[§lk,£d,§ls,none]∧af H5 H'
 . w;r⟨by m,fun p hp=>?_⟩;h Sp:=af.updN (o:=.lst []) hp;r⟨_,SqL.of (Sp _ _ hls5),[],SqL.of ac,.inl ⟨by rw[List.all_eq_true];intro x hx;o⟨y,_,rfl⟩:=List.mem_map.mp hx;rfl,rfl⟩,?_⟩;rw[hJ];by_cases hne:bg h.dp d=[]
   . rw[kn.mpr hne,Bf,if_pos (by decide)];e⟨_,rfl,by d,fun t ht=>q1 t _ _ (.inr (.inr ⟨hday,hge,hne,rfl⟩)) ((S5.trans Sp).trans (af.updN ht)) ((S5.trans Sp).free ht) ac⟩
   . rw[if_neg (by rw[decide_eq_false (fun e=>hne (kn.mp (List.map_eq_nil_iff.mp e)))];decide)];e hR _ _ ⟨hne,rfl,Sp⟩
 rintro σ6 H6 ⟨hne,rfl,S6⟩;h K6:=K5.same (aQ S6);h oF6:=(oF.same S5).same S6;h hls6:=S6 _ _ hls5;obtain⟨dp0,e0,hdp,he0⟩:∃ dp0 e0,h.dp=dp0++[e0]∧e0.1=d:=HR.last ho hge hne;h hkd6:=(aQ (S5.trans S6)) _ _ hkd
 h hpe:ps≠[]:=fun e=>by rw[e,hdp] at hpl;simp at hpl
 obtain⟨ps0,p0,rfl⟩:∃ s q,ps=s++[q]:=⟨_,_,(Ac hpe).symm⟩
 h hpl0:ps0.length=dp0.length:=by
   rw[hdp,zL,zL] at hpl
   simpa using hpl
 h ht0:bn F H4 p0=some (.tup [.int e0.1,.str e0.2.1,.str e0.2.2.1]):=hT.2 ps0.length p0 _ (by rw[zP (zN _),Ay];rfl) (by rw[hdp,zQ,zP (by rw[be,hpl0];e zN _),be,hpl0,Ay];rfl);h hT0:cm (bn F H4) ps0 (dp0.map fun e=>[.int e.1,.str e.2.1,.str e.2.2.1]):=⟨by rw[be,hpl0],fun i p e hp he=>hT.2 i p e (by rw[zU (List.getElem?_eq_some_iff.mp hp).1];e hp) (by rw[hdp,zQ,zU (List.getElem?_eq_some_iff.mp he).1];e he)⟩;h SS:=aQ (F:=F) (S5.trans S6);h fkd:=(aU hkd).2;cu σ'=[§lk,£d,§ls,§p0]∧H'=upd H6 kd (.lst (ps0.map V.ref))
 . w
   o⟨ll,hll⟩:=px (n:=dp0.length) (p:=fun i=>decide ((h.dp.getD i d0).1=d)) (by
     rw[hdp,zM,zP (zN _),Ay]
     e decide_eq_true he0)
   h hdl1:h.dp.length=dp0.length+1:=by rw[hdp,zL];rfl
   h hsl:atI (((zS h.dp.length).filter (fun i=>decide ((h.dp.getD i d0).1=d))).map fun i:Nat=>V.int (i:Int)) (-1)=some (V.int (dp0.length:Int)):=by
     rw[hdl1,hll,zQ];e eM _ _
   r⟨_,SqL.of (au _ _ K6.r.hlk),_,rfl,.inl ⟨rfl,_,SqL.of (au _ _ hkd6)⟩,_,SqL.of hls6,_,hsl,kd,rfl,_,_,rfl,au _ _ hkd6,by m,by m,dp0.length,?_,V.ref p0,?_,hR _ _ ⟨rfl,?_⟩⟩
   . rw[be,zL,hpl0];e(PySem.StrLaws.seqIndex_nonneg (by m) (by rw[zR];m)).trans (by rw[An])
   . rw[zK,zP (by m),hpl0,Ay];rfl
   . rw[zQ,List.eraseIdx_append_of_length_le (by rw[be];m),be,hpl0,Ay];simp
 rintro σ7 H7 ⟨rfl,rfl⟩;h K7:=K6.dp (dp2:=dp0) (hT0.same SS);rw[←dz fkd] at K7;h O7:Owx [lk,kc,kd,kt] H4 (upd H6 kd (.lst (ps0.map V.ref))):=(Owx.same (S5.trans S6)).trans (Owx.upd (by simp))
 h ht7:upd H6 kd (.lst (ps0.map V.ref)) p0=some (.tup [.int e0.1,.str e0.2.1,.str e0.2.2.1]):=by
   h h6:=au _ _ (SS _ _ ht0);rw[ai (fun z=>by rw[z,au _ _ hkd6] at h6;cases h6)];e h6
 generalize upd H6 kd (.lst (ps0.map V.ref))=H7 at *;w;r⟨_,SqT.of ht7,_,rfl,_,SqT.of ht7,_,rfl,by m,fun t ht=>?_⟩;h St:=af.updN (o:=.tup [V.str e0.2.1,V.str e0.2.2.1]) ht;r q2 hday hge (e0.2.1,e0.2.2.1) ?_ t _ (O7.trans (Owx.same St)) ac ?_
 . rw[hdp];unfold bg;rw[AQ,AV (by simp[he0]),Bc,zQ];simp
 . rw[show h.dp.dropLast=dp0 by rw[hdp,List.dropLast_concat]];e K7.same (aQ St)
noncomputable def jl (K:PySem.W.Frag):Sp:=fun vs H Q _=>∃ (F:Addr→Bool)(lk kc kd kt lo:Addr)(so ns ss:List Str) (h:Hs)(Tb:List (Int×LK)) (b:Str)(lu:Addr)(os:List Str) (d:Int),vs=[.ref lk,.str b,.ref lu,.int d]∧KI (bn F H) lk kc kd kt lo so ns ss h Tb∧eO F H∧TOk ss ns h Tb∧bK ss ns h∧so.Nodup∧so.Perm ss∧so.length≤12∧ns.length≤8∧H lu=some (.lst (os.map V.str))∧os.length≤100∧Tb.length < 1000∧(∀ t H' w,((b∉ns∧w=¶"NoBath")∨(b∈ns∧¬GO so os∧w=¶"BadBook")∨(b∈ns∧GO so os∧¬(1≤d∧d≤400)∧w=¶"NoDay")∨(b∈ns∧GO so os∧(1≤d∧d≤400)∧(d < h.day∨bg h.dp d≠[])∧w=¶"Late"))→af H H'→H t=none→H' t=some (.tup (cU w))→Q (.ref t) H')∧(b∈ns→GO so os→(1≤d∧d≤400)→h.day≤d→bg h.dp d=[]→∀ el,Tb.getLast?=some el→∀ H',Owx [lk,kc,kd,kt] H H'→KI (bn F H') lk kc kd kt lo so ns ss { h with day:=d } (Tb++[(d,d5 so b os el.2)])→Q .non H')
þ fM:ay ["_law_kept", "_law_bath", "_law_outs", "_law_day_here", "_law_tables_here", "_law_k"] ["_law_kept", "_law_bath", "_law_outs", "_law_day_here"] (ar gE):=®
þ mI {f fNw fDpD:Addr}{fd fdNw fdDpD:FuncData}(F:Fun K "_law_change_due" "_law_change_due" gE f fd)
   (T:Txt mg)
   (GNw:Cl P w K mg base CX0 1 "_law_no" ["_law_word"] i4 fNw fdNw)
   (GDpD:Cl P w K mg base CX0 1 "_law_dips_due" ["_law_kept", "_law_day_here"] gl fDpD fdDpD) :
   aW P w K mg base CX0 2 f fd ["_law_kept", "_law_bath", "_law_outs", "_law_day_here"] (jl K):=by
 fo fM;o⟨F,lk,kc,kd,kt,lo,so,ns,ss,h,Tb,b,lu,os,d,rfl,K0,oF,TO,ho,hson,hpm,hso12,hns8,hlu,hos100,htl9,q1,q2⟩:=h;h hu:=eF hr;h hr1:=hr.mono (j:=1) (by m)
 r⟨_,(aj (aC (fk (dq hu (pv 1) (am aK (am ak (am ak (pv 0) ag ¿) ag ¿) ag ¿))) (ah (aq (pC GNw hr1 aA (aa aB ae)))) ao)
   (aj (aC (PW.pt (em (ap i6 (al av (by rfl) T.len zT (aa (pv 2) ae)) (al av (by rfl) T.len zT (aa (am ak (pv 0) ag ¿) ae)) (ax _)) (cM (ap (v4 (BJ hu)) (eX (N':=["_law_one", "_law_kept"]) (pk:=[none,some 0]) rfl (bZ.of (by rfl)) (ba (pv 2)) (fun s H ex=>(aw (i:=0) (by show(["_law_one", "_law_kept"]:List Str).Nodup;d) rfl (Or.inl rfl))) (fun s H ex=>(ap (cG:OpR _ (compareOp .NotIn) (rIn K true)) (pv 0) (am (ak:IxR _ (gP K)) (pv 1) ag ¿) (by with_unfolding_all rfl))) (fun s H ex=>(pv 0))) (bq ae) (ax _))))) (ah (aq (pC GNw hr1 aA (aa aB ae)))) ao)
   (aj (aC (PW.pt (em (ap cX (pv 3) ag (ax _)) (cM (ap fJ (pv 3) ag (ax _))))) (ah (aq (pC GNw hr1 aA (aa aB ae)))) ao)
   (aj (aC (PW.pt (em (ap cX (pv 3) (am ak (pv 0) ag ¿) (ax _)) (cM (ap (v4 (BJ hu)) (pC GDpD hr1 aA (aa (pv 0) (aa (pv 3) ae))) (bq ae) (ax _))))) (ah (aq (pC GNw hr1 aA (aa aB ae)))) ao)
   (aj (aL (i:=4) fM.nd rfl (Or.inl rfl) (cw qm (by rfl) T.dict (by d) (aa (am aK (am ak (am ak (pv 0) ag ¿) (eW dC ag) ¿) ag ¿) ae)))
   (aj (dH hu (pv 4) (pv 1) ed rfl)
   (aj (bC PassesOwn.never rfl (ck rfl T.range (aa (al av (by rfl) T.len zT (aa (pv 2) ae)) ae)) (aw (i:=5) fM.nd rfl (Or.inl rfl)) (ah (dH hu (cy hu (pv 4) (pv 1) ¿) (am ak (am ak (pv 0) ag ¿) (pv 5) ¿) (am ak (pv 2) (pv 5) ¿) rfl)))
   (aj (aR (eK Ak Aw Ax bT (am ak (pv 0) ag ¿) (aa (bS (aa (pv 3) (aa (pv 4) ae))) ae)))
   (aj (mq (pv 3) (pG (pv 0) ag jU))
   (ah (aq kF))))))))))),?_⟩
 try dsimp only[aE,aO]
 h hs:=aM;h up:=au (F:=F) (H:=H);h KR0:=K0.r;o⟨qs,ds,hkt,hql,hdsl,hE⟩:=KR0.hkt;o⟨e0,Tr,hTe⟩:=TO.t0
 h hp0:0 < qs.length:=by rw[hql,hTe];e Cy _
 h hnl2:Tb≠[]:=fun e=>by rw[hTe] at e;cases e
 h htl:=TO.tl;cu b∈ns∧σ'=[§lk,¢b,§lu,£d,none,none]∧H'=H
 . obtain⟨p0,hp0'⟩:∃ p,qs[0]?=some p:=⟨_,zJ hp0⟩;obtain⟨d0,hd0'⟩:∃ d,ds[0]?=some d:=⟨_,zJ (by m)⟩;o⟨ht0,hG0⟩:=hE 0 p0 d0 e0 hp0' hd0' (by rw[hTe];rfl);o⟨kvs,hRd,hkeys,_⟩:=Fz.tabG (af.fz (bM.trans up)) hG0
   h hiff:(bJ kvs (Sum.inr b)).isSome=true↔b∈ns:=by
     rw[gy,hkeys];e⟨fun h=>by o⟨x,hx,e⟩:=List.mem_map.mp h;cases e;e hx,fun h=>Aj h⟩
   w;r⟨_,SqL.of (up _ _ KR0.hlk),_,rfl,kt,rfl,_,SqL.of (up _ _ hkt),_,bU (j:=0) (by rw[zK,hp0'];rfl),p0,rfl,_,SqT.of (up _ _ ht0),_,rfl,d0,rfl,_,.inl ⟨_,Sum.inr b,hRd,rfl,rfl⟩,az (fun hn=>?_) (fun hn=>hR _ _ ⟨hiff.mp (by cases hb:(bJ kvs (Sum.inr b)).isSome<;>first | rfl | e absurd hb hn),rfl,rfl⟩)⟩;e⟨_,rfl,by d,fun t ht=>q1 t _ _ (.inl ⟨(fun hb=>by rw[hiff.mpr hb] at hn;cases hn),rfl⟩) (af.updN ht) ht ac⟩
 rintro σ2 H2 ⟨hbm,rfl,rfl⟩;cu GO so os∧σ'=[§lk,¢b,§lu,£d,none,none]∧af H2 H'
 . w;r⟨_,.inl (SqL.of hlu),_,SqL.of (up _ _ KR0.hlk),_,rfl,lo,rfl,_,.inl (SqL.of (up _ _ KR0.hlo)),rfl,az (fun hn=>?_) (fun hn=>⟨⟨_,SqL.of hlu⟩,fun D hD=>?_⟩)⟩
   . rw[be,be] at hn;e⟨_,rfl,by d,fun t ht=>q1 t _ _ (.inr (.inl ⟨hbm,(fun g=>hn (by rw[g.1])),rfl⟩)) (af.updN ht) ht ac⟩
   rw[be,be] at hn
   h hol:os.length=so.length:=by have:=Classical.not_not.mp hn;m
   r fm (aH (SqL.of hlu)) (by rw[be];m) hD (fun σ=>∃ o,σ=[o,§lk]) (fun i=>decide (os.getD i ⟨#[]⟩∉so)) (fun i=>V.str (os.getD i ⟨#[]⟩)) ⟨none,rfl⟩ ?_ ?_
   . rintro i x σ' H' hi hx ⟨o,rfl⟩ hS R1 R0 h1 h0;rw[zK] at hx;o⟨y,hy,rfl⟩:=Option.map_eq_some_iff.mp hx
     h eg:os.getD i ⟨#[]⟩=y:=by rw[zM,hy];rfl
     simp only[eg] at h1 h0;w;r⟨_,SqL.of (hS _ _ (up _ _ KR0.hlk)),_,rfl,lo,rfl,_,.inl (SqL.of (hS _ _ (up _ _ KR0.hlo))),rfl,cR so,az (fun hin=>?_) (fun hin=>?_)⟩
     . rw[da,decide_eq_false_iff_not] at hin;e h1 (decide_eq_true hin) _ ⟨_,rfl⟩
     . rw[da,decide_eq_false_iff_not] at hin;e h0 (decide_eq_false hin) _ ⟨_,rfl⟩
   . h SD:=af.updN (o:=.lst (((zS (os.map V.str).length).filter fun i=>decide (os.getD i ⟨#[]⟩∉so)).map fun i=>V.str (os.getD i ⟨#[]⟩))) hD;h hDs:upd H2 D (.lst (((zS (os.map V.str).length).filter fun i=>decide (os.getD i ⟨#[]⟩∉so)).map fun i=>V.str (os.getD i ⟨#[]⟩))) D=some (.lst (((zS (os.map V.str).length).filter fun i=>decide (os.getD i ⟨#[]⟩∉so)).map fun i=>V.str (os.getD i ⟨#[]⟩))):=ac;r⟨by m,fun p hp=>?_⟩;h Sp:=af.updN (o:=.lst []) hp;r⟨_,SqL.of (Sp _ _ hDs),[],SqL.of ac,.inl ⟨by rw[List.all_eq_true];intro x hx;o⟨y,_,rfl⟩:=List.mem_map.mp hx;rfl,rfl⟩,?_⟩;rw[hJ];by_cases hall:∀ x∈os,x∈so
     . h hnil:((zS (os.map V.str).length).filter fun i=>decide (os.getD i ⟨#[]⟩∉so))=[]:=by
         rw[BK];intro i hi;h hl:=List.mem_range.mp hi;rw[be] at hl;rw[zM,zJ hl];simp only[decide_eq_true_eq,Classical.not_not];e hall _ (AM hl)
       rw[hnil,Bf,if_neg (by decide)];rw[hnil,Bf] at SD Sp;e hR _ _ ⟨⟨hol,hall⟩,rfl,SD.trans Sp⟩
     . h hnn:¬((zS (os.map V.str).length).filter fun i=>decide (os.getD i ⟨#[]⟩∉so))=[]:=fun e=>hall fun x hx=>by
         o⟨i,hi⟩:=AF hx;h hl:=(List.getElem?_eq_some_iff.mp hi).1;have:=List.filter_eq_nil_iff.mp e i (List.mem_range.mpr (by rw[be];e hl));rw[zM,hi] at this;simp only[Bx,decide_eq_true_eq,Classical.not_not] at this;e this
       rw[if_pos (by rw[decide_eq_false (fun e=>hnn (List.map_eq_nil_iff.mp e))];decide)];e⟨_,rfl,by d,fun t ht=>q1 t _ _ (.inr (.inl ⟨hbm,(fun g=>hall g.2),rfl⟩)) ((SD.trans Sp).trans (af.updN ht)) ((SD.trans Sp).free ht) ac⟩
 rintro σ3 H3 ⟨hGO,rfl,S3⟩;h K3:=K0.same (aQ S3);h oF3:=oF.same S3;cu (1≤d∧d≤400)∧σ'=[§lk,¢b,§lu,£d,none,none]∧H'=H3
 . w;h hbad:¬(1≤d∧d≤400)→i4 [V.str ¶"NoDay"] H3 Q E0:=fun hn=>⟨_,rfl,by d,fun t ht=>q1 t _ _ (.inr (.inr (.inl ⟨hbm,hGO,hn,rfl⟩))) (S3.trans (af.updN ht)) (S3.free ht) ac⟩;e az (fun h=>hbad (by m)) (fun h1=>az (fun h=>hbad (by m)) (fun h2=>hR _ _ ⟨by m,rfl,rfl⟩))
 rintro σ4 H4 ⟨hday,rfl,rfl⟩;cu h.day≤d∧bg h.dp d=[]∧σ'=[§lk,¢b,§lu,£d,none,none]∧af H4 H'
 . w;r⟨_,SqL.of (au _ _ K3.r.hlk),_,rfl,_,rfl,az (fun hl=>⟨_,rfl,by d,fun t ht=>q1 t _ _ (.inr (.inr (.inr ⟨hbm,hGO,hday,.inl hl,rfl⟩))) (S3.trans (af.updN ht)) (S3.free ht) ac⟩) (fun hl=>?_)⟩;r⟨lk,kc,kd,kt,lo,so,ns,ss,h,Tb,d,rfl,K3.r.same au,ho.dl,fun l ps H' S _ hl2 hT=>⟨by m,fun p hp=>?_⟩⟩;h hpl:=hT.1;rw[be] at hpl;h Sp:=af.updN (o:=.lst []) hp;r⟨l,rfl,_,SqL.of (Sp _ _ hl2),[],SqL.of ac,?_,?_⟩
   . by_cases e:ps=[]
     . e .inr (.inr (by rw[e];rfl))
     . e .inr (.inl (by rw[be];e fun z=>e (List.length_eq_zero_iff.mp z)))
   rw[hJ];by_cases hne:bg h.dp d=[]
   . h hpe:ps=[]:=List.length_eq_zero_iff.mp (by rw[hpl,hne];rfl);rw[hpe,if_neg (by decide)];e hR _ _ ⟨by m,hne,rfl,S.trans Sp⟩
   . h hpe:ps≠[]:=fun e=>hne (List.length_eq_zero_iff.mp (by rw[←hpl,e];rfl));rw[if_pos (by rw[decide_eq_false (fun e=>hpe (List.map_eq_nil_iff.mp e))];decide)];e⟨_,rfl,by d,fun t ht=>q1 t _ _ (.inr (.inr (.inr ⟨hbm,hGO,hday,.inr hne,rfl⟩))) (((S3.trans S).trans Sp).trans (af.updN ht)) (((S3.trans S).trans Sp).free ht) ac⟩
 rintro σ5 H5 ⟨hge,hno,rfl,S5⟩;h K5:=K3.same (aQ S5);h oF5:=oF3.same S5;obtain⟨T0,el,hTl⟩:∃ s q,Tb=s++[q]:=⟨_,_,(Ac hnl2).symm⟩
 h hql0:qs≠[]:=fun e=>by rw[e] at hp0;cases hp0
 obtain⟨qs0,p1,hqs⟩:∃ s q,qs=s++[q]:=⟨_,_,(Ac hql0).symm⟩
 h hdl0:ds≠[]:=fun e=>by rw[e,hTl] at hdsl;simp at hdsl
 obtain⟨ds0,d1,hds⟩:∃ s q,ds=s++[q]:=⟨_,_,(Ac hdl0).symm⟩
 h l1:qs0.length=T0.length:=by rw[hqs,hTl,zL,zL] at hql;simpa using hql
 h l2:ds0.length=T0.length:=by rw[hds,hTl,zL,zL] at hdsl;simpa using hdsl
 o⟨ht1,hG1⟩:=hE T0.length p1 d1 el (by rw[hqs,zP (by m),l1,Ay];rfl) (by rw[hds,zP (by m),l2,Ay];rfl) (by rw[hTl,zP (zN _),Ay];rfl);h S35:=S3.trans S5;h SB:=aQ (F:=F) S35;h hE5:∀ (i:Nat) p d e,qs[i]?=some p→ds[i]?=some d→Tb[i]?=some e→bn F H5 p=some (.tup [.int e.1,.ref d])∧dg (hide (bn F H5) kc) d ss ns e.2:=fun i p d e a b c=>⟨SB _ _ (hE i p d e a b c).1,Fz.tabG (af.fz (eT SB kc)) (hE i p d e a b c).2⟩;h hkt5:=SB _ _ hkt;h ht15:=au _ _ (SB _ _ ht1);o⟨kvs,hRdh,hkeys,hent⟩:=Fz.tabG (af.fz (eT SB kc)) hG1;h hRd:=af.rd (bM.trans au) hRdh
 h hkl:kvs.length=ns.length:=by
   have:=congrArg B9 hkeys
   rwa [be,be] at this
 cu ∃ dn,H5 dn=none∧σ'=[§lk,¢b,§lu,£d,§dn,none]∧H'=upd H5 dn (.dK kvs)
 . w;e⟨_,SqL.of (au _ _ K5.r.hlk),_,rfl,kt,rfl,_,SqL.of (au _ _ hkt5),V.ref p1,by rw[hqs,zQ];e eM _ _,p1,rfl,_,SqT.of ht15,_,rfl,d1,rfl,_,hRd,fun p hp=>hR _ _ ⟨p,hp,rfl,rfl⟩⟩
 rintro σ6 H6 ⟨dn,hdn,rfl,rfl⟩;cu ∃ r,H5 r=none∧r≠dn∧σ'=[§lk,¢b,§lu,£d,§dn,none]∧af H5 H'∧H' dn=some (.dK (dw kvs (Sum.inr b) (.ref r)))∧H' r=some (.dK [])
 . w;intro r hr;h Sn:=af.updN (o:=.dK kvs) hdn;h hr5:=Sn.free hr
   h hrd:r≠dn:=fun z=>by rw[z,ac] at hr;cases hr
   r⟨_,.inl ⟨_,Sum.inr b,by rw[ai (Ne.symm hrd)];e ac,rfl,by m,rfl⟩,hR _ _ ⟨r,hr5,hrd,rfl,?_,ac,by rw[ai hrd];e ac⟩⟩;e cK (Sn.trans (af.updN hr)) hdn
 rintro σ7 H7 ⟨r,hr5,hrd,rfl,S7,hdn7,hr7⟩;h hlo7:=S7 _ _ (au _ _ K5.r.hlo);h hlk7:=S7 _ _ (au _ _ K5.r.hlk);h hlu7:=S7 _ _ (S35 _ _ hlu)
 h hval:bJ (dw kvs (Sum.inr b) (.ref r)) (Sum.inr b)=some (V.ref r):=by rw[kN,if_pos rfl]
 cu ∃ o5,σ'=[§lk,¢b,§lu,£d,§dn,o5]∧H'=upd H7 r (.dK (cb so (os.map V.str)))
 . w;r⟨_,.inl (SqL.of hlu7),by rw[be];m,by rw[be];m,?_⟩;rw[be,An];r bo (H0:=fun _=>none) bv (fun k σ' H''=>∃ o5,σ'=[§lk,¢b,§lu,£d,§dn,o5]∧H''=upd H7 r (.dK (cb (so.take k) ((os.take k).map V.str)))) ⟨none,rfl,?_⟩ (fun _ _ _ _ _ b o e=>by cases e) ?_ ?_
   . funext y;by_cases e:y=r
     . rw[e,ac];e hr7
     . rw[ai e]
   . rintro k x σ H'' hk2 rfl ⟨o5,rfl,rfl⟩ R4 hR4
     h ek:(0:Int)+(k:Int)=k:=by m
     rw[ek];h hol:=hGO.1;obtain⟨sk,hsk⟩:∃ y,so[k]?=some y:=⟨_,zJ (by m)⟩;obtain⟨ok,hok⟩:∃ y,os[k]?=some y:=⟨_,zJ hk2⟩
     h hl2:(so.take k).length=((os.take k).map V.str).length:=by rw[be,Aa,Aa];m
     h nl:∀ {x xs},H7 x=some (.lst xs)→x≠r:=fun {x xs} e z=>by rw[z,hr7] at e;cases e
     w;r⟨_,SqL.of (by rw[ai (nl hlu7)];e hlu7),_,cc hok,V.ref r,.inl ⟨_,Sum.inr b,.inl (by rw[ai (Ne.symm hrd)];e hdn7),rfl,hval.symm⟩,_,SqL.of (by rw[ai (nl hlk7)];e hlk7),_,rfl,lo,rfl,_,SqL.of (by rw[ai (nl hlo7)];e hlo7),_,cc hsk,r,rfl,_,.inl ⟨_,Sum.inr sk,ac,rfl,by rw[fP hl2,Aa];m,rfl⟩,hR4 _ _ ⟨_,rfl,?_⟩⟩;rw[ic,cZ _ (bX _ _ _ (eS hson hsk)),bw hsk,bw hok,zQ];e congrArg (fun z=>upd H7 r (HO.dK z)) (eN sk (V.str ok) hl2).symm
   . rintro σ H'' ⟨o5,rfl,rfl⟩;rw[AE,show so.take os.length=so by rw[hGO.1,AE]];e hR _ _ ⟨_,rfl,rfl⟩
 rintro σ8 H8 ⟨o5,rfl,rfl⟩;h S8:af H5 (upd H7 r (.dK (cb so (os.map V.str)))):=cK S7 hr5
 h hdn8:upd H7 r (.dK (cb so (os.map V.str))) dn=some (.dK (dw kvs (Sum.inr b) (.ref r))):=by rw[ai (Ne.symm hrd)];e hdn7
 h hr8:upd H7 r (.dK (cb so (os.map V.str))) r=some (.dK (cb so (os.map V.str))):=ac;generalize upd H7 r (.dK (cb so (os.map V.str)))=H8 at *;h K8:=K5.same (aQ S8);h oF8:=oF5.same S8
 h hnc:∀ {x},H5 x=none→x≠kc:=fun {x} hx z=>by rw[z,au _ _ K5.kcx] at hx;cases hx
 h hT8:dg (hide (bn F H8) kc) dn ss ns (d5 so b os el.2):=by
   h hid8:∀ {x u},H5 x=none→H8 x=some u→hide (bn F H8) kc x=some u:=fun {x u} h1 h2=>by
     rw[aY (hnc h1)];e cf h2 (oF5.new h1)
   r⟨_,.inl (hid8 hdn hdn8),?_,fun n hn=>?_⟩
   . o⟨r0,kv0,e0,_⟩:=hent b hbm;rw[t9 (by rw[e0];rfl),hkeys]
   . by_cases hnb:n=b
     . subst hnb;r⟨r,_,by rw[kN,if_pos rfl],.inl (hid8 hr5 hr8),fun z hz=>?_⟩;unfold d5;rw[if_pos rfl];e mM (b:=(n,os)) hson hGO.1 (hpm.mem_iff.mpr hz)
     . o⟨r1,kv1,f1,f2,f3⟩:=hent n hn;r⟨r1,kv1,by rw[kN,if_neg (fun e=>hnb (Sum.inr.inj e))];e f1,af.rd (eT (aQ S8) kc) f2,fun z hz=>?_⟩;unfold d5;rw[if_neg hnb];e f3 z hz
 h hkt8:=(aQ S8) _ _ hkt5;cu ∃ p,H8 p=none∧σ'=[§lk,¢b,§lu,£d,§dn,o5]∧H'=upd (upd H8 p (.tup [.int d,.ref dn])) kt (.lst ((qs++[p]).map V.ref))
 . w;r⟨_,SqL.of (au _ _ K8.r.hlk),_,rfl,.inl ⟨rfl,_,SqL.of (au _ _ hkt8)⟩,by m,fun p hp=>⟨kt,rfl,_,by rw[ai (aF (au _ _ hkt8) hp)];e au _ _ hkt8,by rw[be];m,hR _ _ ⟨p,hp,rfl,?_⟩⟩⟩;rw[zQ];rfl
 rintro σ9 H9 ⟨p,hp,rfl,rfl⟩;h Sp:af H8 (upd H8 p (.tup [.int d,.ref dn])):=af.updN hp;h SpB:=aQ (F:=F) Sp;h fkt:=(aU hkt).2;h flk:=(aU KR0.hlk).2;h K9:=(K8.same SpB).tb (p:=p) (d:=dn) (dd:=d) (lk2:=d5 so b os el.2) (SpB _ _ hkt8) hdsl (fun i p d e a b c=>⟨SpB _ _ ((aQ S8) _ _ (hE5 i p d e a b c).1),Fz.tabG (af.fz (eT ((aQ S8).trans SpB) kc)) (hE5 i p d e a b c).2⟩) (cf ac (oF8.new hp)) (Fz.tabG (af.fz (eT SpB kc)) hT8);rw[←dz fkt] at K9;h O9:Owx [lk,kc,kd,kt] H2 (upd (upd H8 p (.tup [.int d,.ref dn])) kt (.lst ((qs++[p]).map V.ref))):=(Owx.same ((S35.trans S8).trans Sp)).trans (Owx.upd (by simp));generalize upd (upd H8 p (.tup [.int d,.ref dn])) kt (.lst ((qs++[p]).map V.ref))=H9 at *;cu σ'=[§lk,¢b,§lu,£d,§dn,o5]∧H'=upd H9 lk (.lst [.ref kc,.ref kd,.ref kt,.int d,.ref lo])
 . w;e⟨_,au _ _ K9.r.hlk,3,(by show ixN 5 3=some 3;decide),hR _ _ ⟨rfl,rfl⟩⟩
 rintro σ10 H10 ⟨rfl,rfl⟩;h K10:=K9.dy (d2:=d);rw[←dz flk] at K10;w;e q2 hbm hGO hday hge hno el (by rw[hTl];simp) _ (O9.trans (Owx.upd (by simp))) K10
þ a8 {K:PySem.W.Frag}{σ:St}{H:Hp}{i:Nat}{t:Addr}{nm k:Str}{cD:List V}{A B:TS}{D:gu}(hσ:σ[i]?=some (§t))(ht:H t=some (.tup (.str nm::cD)))(hn:nm≠k)(q:B D σ H):t7 (nX (tOp rEq (tOp (pE K) (kY i) (tC (.int 0))) (tC (.str k)))) A B D σ H:=by
 unfold t7 nX tOp kY tC;rw[hσ];r⟨.str nm::cD,.str nm,SqT.of ht,bU (j:=0) rfl,rfl,?_⟩;h h:decide (V.str nm=V.str k)=false:=decide_eq_false fun e=>hn (V.str.inj e);rw[h];e q
inductive Dd where
 | bring (c z:Str)
 | dip (c b:Str) (d:Int)
 | back (d:Int)
 | change (b:Str)(lu:Addr)(os:List Str) (d:Int)
 | shade (c:Str) (d:Int)
 | trail (c:Str) (d:Int)
 | dips (d:Int)
 | book (d:Int)
noncomputable def Dd.tup:Dd→List V
 | .bring c z=>[.str "bring",.str c,.str z]
 | .dip c b d=>[.str "dip",.str c,.str b,.int d]
 | .back d=>[.str "back",.int d]
 | .change b lu _ d=>[.str "change",.str b,.ref lu,.int d]
 | .shade c d=>[.str "shade",.str c,.int d]
 | .trail c d=>[.str "trail",.str c,.int d]
 | .dips d=>[.str "dips",.int d]
 | .book d=>[.str "book",.int d]
noncomputable def Dd.bad (ns so:List Str) (h:Hs) (w:Str):Dd→Prop
 | .bring c z=>(bc c=false∧w=¶"BadName")∨(bc c=true∧c∈h.cl.map (·.1)∧w=¶"Known")∨(bc c=true∧c∉h.cl.map (·.1)∧z∉so∧w=¶"NoShade")
 | .dip c b d=>(c∉h.cl.map (·.1)∧w=¶"NoCloth")∨(c∈h.cl.map (·.1)∧b∉ns∧w=¶"NoBath")∨(c∈h.cl.map (·.1)∧b∈ns∧¬(1≤d∧d≤400)∧w=¶"NoDay")∨(c∈h.cl.map (·.1)∧b∈ns∧(1≤d∧d≤400)∧d < h.day∧w=¶"Late")
 | .back d=>(¬(1≤d∧d≤400)∧w=¶"NoDay")∨((1≤d∧d≤400)∧d < h.day∧w=¶"Late")∨((1≤d∧d≤400)∧h.day≤d∧bg h.dp d=[]∧w=¶"NoDip")
 | .change b _ os d=>(b∉ns∧w=¶"NoBath")∨(b∈ns∧¬GO so os∧w=¶"BadBook")∨(b∈ns∧GO so os∧¬(1≤d∧d≤400)∧w=¶"NoDay")∨(b∈ns∧GO so os∧(1≤d∧d≤400)∧(d < h.day∨bg h.dp d≠[])∧w=¶"Late")
 | .shade c d=>(c∉h.cl.map (·.1)∧w=¶"NoCloth")∨(c∈h.cl.map (·.1)∧¬(1≤d∧d≤400)∧w=¶"NoDay")
 | .trail c d=>(c∉h.cl.map (·.1)∧w=¶"NoCloth")∨(c∈h.cl.map (·.1)∧¬(1≤d∧d≤400)∧w=¶"NoDay")
 | .dips d=>¬(1≤d∧d≤400)∧w=¶"NoDay"
 | .book d=>¬(1≤d∧d≤400)∧w=¶"NoDay"
noncomputable def Dd.good (ns so:List Str) (h:Hs):Dd→Prop
 | .bring c z=>bc c=true∧c∉h.cl.map (·.1)∧z∈so
 | .dip c b d=>c∈h.cl.map (·.1)∧b∈ns∧(1≤d∧d≤400)∧h.day≤d
 | .back d=>(1≤d∧d≤400)∧h.day≤d∧bg h.dp d≠[]
 | .change b _ os d=>b∈ns∧GO so os∧(1≤d∧d≤400)∧h.day≤d∧bg h.dp d=[]
 | .shade c d=>c∈h.cl.map (·.1)∧(1≤d∧d≤400)
 | .trail c d=>c∈h.cl.map (·.1)∧(1≤d∧d≤400)
 | .dips d=>1≤d∧d≤400
 | .book d=>1≤d∧d≤400
inductive DV where
 | non
 | str (z:Str)
 | pair (a b:Str)
 | trail (L:List (Int×Str×Str))
 | dips (L:List (Str×Str))
noncomputable def Dd.val (h:Hs):Dd→DV
 | .dip c b d=>.str (lkB (aV h.bk d).1 (aV h.bk d).2 b (aX h c d))
 | .back d=>match (bg h.dp d).getLast? with
   | some e=>.pair e.1 e.2
   | none=>.non
 | .shade c d=>.str (aX h c d)
 | .trail c d=>.trail (aZ h.dp c d)
 | .dips d=>.dips (bg h.dp d)
 | _=>.non
noncomputable def o0 (H:Hp) (v:V):DV→Prop
 | .non=>v=.non
 | .str z=>v=.str z
 | .pair a b=>∃ t,v=.ref t∧H t=some (.tup [.str a,.str b])
 | .trail L=>∃ (l:Addr)(ps:List Addr),v=.ref l∧H l=some (.lst (ps.map V.ref))∧cm H ps (L.map fun e=>[.int e.1,.str e.2.1,.str e.2.2])
 | .dips L=>∃ (l:Addr)(ps:List Addr),v=.ref l∧H l=some (.lst (ps.map V.ref))∧cm H ps (L.map fun e=>[.str e.1,.str e.2])
noncomputable def DvN (H0 H:Hp) (v:V):DV→Prop
 | .trail L=>∃ (l:Addr)(ps:List Addr),v=.ref l∧H0 l=none∧H l=some (.lst (ps.map V.ref))∧cm H ps (L.map fun e=>[.int e.1,.str e.2.1,.str e.2.2])
 | .dips L=>∃ (l:Addr)(ps:List Addr),v=.ref l∧H0 l=none∧H l=some (.lst (ps.map V.ref))∧cm H ps (L.map fun e=>[.str e.1,.str e.2])
 | x=>o0 H v x
noncomputable def Dd.step (h:Hs):Dd→Hs
 | .bring c z=>{ h with cl:=h.cl++[(c,z)] }
 | .dip c b d=>{ h with day:=d,dp:=h.dp++[(d,c,b,lkB (aV h.bk d).1 (aV h.bk d).2 b (aX h c d))] }
 | .back _=>{ h with dp:=h.dp.dropLast }
 | .change _ _ _ d=>{ h with day:=d }
 | _=>h
noncomputable def Dd.tb (so:List Str)(Tb:List (Int×LK)):Dd→List (Int×LK)
 | .change b _ os d=>match Tb.getLast? with
   | some el=>Tb++[(d,d5 so b os el.2)]
   | none=>Tb
 | _=>Tb
noncomputable def Dd.fine (H:Hp):Dd→Prop
 | .bring c z=>Shw c∧Shw z
 | .dip c b _=>Shw c∧Shw b
 | .change b lu os _=>Shw b∧H lu=some (.lst (os.map V.str))∧os.length≤100∧∀ v∈os,Shw v
 | .shade c _=>Shw c
 | .trail c _=>Shw c
 | _=>True
structure nM (ns so ss:List Str) (h:Hs)(Tb:List (Int×LK)):Prop where
 TO:TOk ss ns h Tb
 HR:ge h
 ho:bK ss ns h
 hbn:∀ e∈h.dp,e.2.2.1∈ns
 hcn:∀ e∈h.dp,e.2.1∈h.cl.map (·.1)
 ts:∀ e∈Tb,1≤e.1∧e.1≤h.day
 ssn:ss.Nodup
 son:so.Nodup
 srt:Al so=true
 nsn:ns.Nodup
 pm:so.Perm ss
 so12:so.length≤12
 ns8:ns.length≤8
 dl:h.dp.length < 1000
 cl60:h.cl.length≤60
 tl9:Tb.length < 1000
noncomputable def kg:Sp:=fun vs H Q _=>∃ (lk kc kd kt lo:Addr)(so ns ss:List Str) (h:Hs)(Tb:List (Int×LK))(t:Addr)(dd:Dd),vs=[.ref lk,.ref t]∧H t=some (.tup dd.tup)∧KR H lk kc kd kt lo so ns ss h Tb∧nM ns so ss h Tb∧((∃ c d,dd=.shade c d)∨(∃ c d,dd=.trail c d)∨(∃ d,dd=.dips d)∨∃ d,dd=.book d)∧(∀ t' H' w,dd.bad ns so h w→af H H'→H t'=none→H' t'=some (.tup (cU w))→Q (.ref t') H')∧(dd.good ns so h→∀ v H',af H H'→DvN H H' v (dd.val h)→Q v H')
þ qt:ay ["_law_kept", "_law_deed_here"] ["_law_kept", "_law_deed_here"] (ar iR):=®
þ oq {f fNw fSD fTD fDpD:Addr}{fd fdNw fdSD fdTD fdDpD:FuncData}(F:Fun K "_law_asked_due" "_law_asked_due" iR f fd)
   (T:Txt mg)
   (GNw:Cl P w K mg base CX0 1 "_law_no" ["_law_word"] i4 fNw fdNw)
   (GSD:Cl P w K mg base CX0 3 "_law_shade_due" ["_law_kept", "_law_cloth", "_law_day_here"] fc fSD fdSD)
   (GTD:Cl P w K mg base CX0 2 "_law_trail_due" ["_law_kept", "_law_cloth", "_law_day_here"] fu fTD fdTD)
   (GDpD:Cl P w K mg base CX0 1 "_law_dips_due" ["_law_kept", "_law_day_here"] gl fDpD fdDpD) :
   aW P w K mg base CX0 4 f fd ["_law_kept", "_law_deed_here"] kg:=by
 fo qt;o⟨lk,kc,kd,kt,lo,so,ns,ss,h,Tb,t,dd,rfl,htt,KR0,KA0,hk,q1,q2⟩:=h;h hu:=eF hr;h hr1:=hr.mono (j:=1) (by m);h hr2:=hr.mono (j:=2) (by m);h hr3:=hr.mono (j:=3) (by m)
 r⟨_,(aj (aC (PW.pt (iK (ap lw (am aK (pv 1) ag ¿) (bS (aa aB (aa aB ae))) (by with_unfolding_all rfl)) (gj (fk (dq hu (am aK (pv 1) ag ¿) (am ak (pv 0) ag ¿)))))) (ah (aq (pC GNw hr1 aA (aa aB ae)))) ao)
   (aj (aC (PW.pt (em (ap cX (am aK (pv 1) (eW dC ag) ¿) ag (ax _)) (cM (ap fJ (am aK (pv 1) (eW dC ag) ¿) ag (ax _))))) (ah (aq (pC GNw hr1 aA (aa aB ae)))) ao)
   (aj (aC (ap bO (am aK (pv 1) ag ¿) aB (ax _)) (ah (aq (pC GSD hr3 aA (aa (pv 0) (aa (am aK (pv 1) ag ¿) (aa (am aK (pv 1) ag ¿) ae)))))) ao)
   (aj (aC (ap bO (am aK (pv 1) ag ¿) aB (ax _)) (ah (aq (pC GTD hr2 aA (aa (pv 0) (aa (am aK (pv 1) ag ¿) (aa (am aK (pv 1) ag ¿) ae)))))) ao)
   (aj (aC (ap bO (am aK (pv 1) ag ¿) aB (ax _)) (ah (aq kF)) ao)
   (ah (aq (pC GDpD hr1 aA (aa (pv 0) (aa (am aK (pv 1) ag ¿) ae)))))))))),?_⟩
 try dsimp only[aE,aO]
 h hs:=aM
 h hval:∀ c∈h.cl.map (·.1),∃ z0,bJ (clV h.cl) (Sum.inr c)=some (V.str z0):=fun c hm=>by
   o⟨x,hx,rfl⟩:=List.mem_map.mp hm;e⟨x.2,er KA0.ho.cnd hx⟩
 rcases hk with ⟨c,d,rfl⟩ | ⟨c,d,rfl⟩ | ⟨d,rfl⟩ | ⟨d,rfl⟩
 . cu c∈h.cl.map (·.1)∧σ'=[§lk,§t]∧af H H'
   . w;r⟨_,SqT.of htt,_,rfl,by m,fun p hp=>?_⟩;h Sp:=af.updN (o:=.tup [V.str ¶"shade",V.str ¶"trail"]) hp;r⟨_,.inr (SqT.of ac),rfl,rfl,az (fun _=>?_) (fun h=>absurd (by d) h)⟩;by_cases hm:c∈h.cl.map (·.1)
     . o⟨z0,hv⟩:=hval c hm;e⟨_,SqT.of (Sp _ _ htt),_,rfl,_,SqL.of (Sp _ _ KR0.hlk),_,rfl,kc,rfl,some _,.inl ⟨_,Sum.inr c,af.rd Sp KR0.hkc,rfl,hv.symm⟩,az (fun h=>by cases h) (fun _=>hR _ _ ⟨hm,rfl,Sp⟩)⟩
     . e⟨_,SqT.of (Sp _ _ htt),_,rfl,_,SqL.of (Sp _ _ KR0.hlk),_,rfl,kc,rfl,none,.inl ⟨_,Sum.inr c,af.rd Sp KR0.hkc,rfl,(bN hm).symm⟩,az (fun _=>⟨_,rfl,by d,fun t ht=>q1 t _ _ (.inl ⟨hm,rfl⟩) (Sp.trans (af.updN ht)) (Sp.free ht) ac⟩) (fun h=>absurd rfl h)⟩
   rintro σ1 H1 ⟨hcm,rfl,S1⟩;cu (1≤d∧d≤400)∧σ'=[§lk,§t]∧H'=H1
   . w;h hbad:¬(1≤d∧d≤400)→i4 [V.str ¶"NoDay"] H1 Q E0:=fun hn=>⟨_,rfl,by d,fun t ht=>q1 t _ _ (.inr ⟨hcm,hn,rfl⟩) (S1.trans (af.updN ht)) (S1.free ht) ac⟩;e⟨_,SqT.of (S1 _ _ htt),_,rfl,_,rfl,az (fun h=>hbad (by m)) (fun h1=>⟨_,SqT.of (S1 _ _ htt),_,rfl,_,rfl,az (fun h=>hbad (by m)) (fun h2=>hR _ _ ⟨by m,rfl,rfl⟩)⟩)⟩
   rintro σ2 H2 ⟨hday,rfl,rfl⟩;r cY (fun σ' H'=>False) (fun R hR=>?_) (fun _ _ h=>h.elim);w;e⟨_,SqT.of (S1 _ _ htt),_,rfl,rfl,az (fun _=>⟨_,SqT.of (S1 _ _ htt),_,rfl,_,SqT.of (S1 _ _ htt),_,rfl,lk,kc,kd,kt,lo,so,ns,ss,h,Tb,c,d,rfl,KR0.same S1,KA0.TO,KA0.HR,KA0.ho,KA0.hbn,hcm,fun H' S=>q2 ⟨hcm,hday⟩ _ _ (S1.trans S) rfl⟩) (fun h=>absurd rfl h)⟩
 . cu c∈h.cl.map (·.1)∧σ'=[§lk,§t]∧af H H'
   . w;r⟨_,SqT.of htt,_,rfl,by m,fun p hp=>?_⟩;h Sp:=af.updN (o:=.tup [V.str ¶"shade",V.str ¶"trail"]) hp;r⟨_,.inr (SqT.of ac),rfl,rfl,az (fun _=>?_) (fun h=>absurd (by d) h)⟩;by_cases hm:c∈h.cl.map (·.1)
     . o⟨z0,hv⟩:=hval c hm;e⟨_,SqT.of (Sp _ _ htt),_,rfl,_,SqL.of (Sp _ _ KR0.hlk),_,rfl,kc,rfl,some _,.inl ⟨_,Sum.inr c,af.rd Sp KR0.hkc,rfl,hv.symm⟩,az (fun h=>by cases h) (fun _=>hR _ _ ⟨hm,rfl,Sp⟩)⟩
     . e⟨_,SqT.of (Sp _ _ htt),_,rfl,_,SqL.of (Sp _ _ KR0.hlk),_,rfl,kc,rfl,none,.inl ⟨_,Sum.inr c,af.rd Sp KR0.hkc,rfl,(bN hm).symm⟩,az (fun _=>⟨_,rfl,by d,fun t ht=>q1 t _ _ (.inl ⟨hm,rfl⟩) (Sp.trans (af.updN ht)) (Sp.free ht) ac⟩) (fun h=>absurd rfl h)⟩
   rintro σ1 H1 ⟨hcm,rfl,S1⟩;cu (1≤d∧d≤400)∧σ'=[§lk,§t]∧H'=H1
   . w;h hbad:¬(1≤d∧d≤400)→i4 [V.str ¶"NoDay"] H1 Q E0:=fun hn=>⟨_,rfl,by d,fun t ht=>q1 t _ _ (.inr ⟨hcm,hn,rfl⟩) (S1.trans (af.updN ht)) (S1.free ht) ac⟩;e⟨_,SqT.of (S1 _ _ htt),_,rfl,_,rfl,az (fun h=>hbad (by m)) (fun h1=>⟨_,SqT.of (S1 _ _ htt),_,rfl,_,rfl,az (fun h=>hbad (by m)) (fun h2=>hR _ _ ⟨by m,rfl,rfl⟩)⟩)⟩
   rintro σ2 H2 ⟨hday,rfl,rfl⟩;cu σ'=[§lk,§t]∧H'=H2
   . w;e⟨_,SqT.of (S1 _ _ htt),_,rfl,rfl,az (fun h=>absurd (V.str.inj h) (by d)) (fun _=>hR _ _ ⟨rfl,rfl⟩)⟩
   rintro σ3 H3 ⟨rfl,rfl⟩;r cY (fun σ' H'=>False) (fun R hR=>?_) (fun _ _ h=>h.elim);w;e⟨_,SqT.of (S1 _ _ htt),_,rfl,rfl,az (fun _=>⟨_,SqT.of (S1 _ _ htt),_,rfl,_,SqT.of (S1 _ _ htt),_,rfl,lk,kc,kd,kt,lo,so,ns,ss,h,Tb,c,d,rfl,KR0.same S1,KA0.TO,KA0.HR,KA0.ho,KA0.hbn,hcm,fun l ps H' S hn hl hT=>q2 ⟨hcm,hday⟩ _ _ (S1.trans S) ⟨l,ps,rfl,S1.free hn,hl,hT⟩⟩) (fun h=>absurd rfl h)⟩
 . cu σ'=[§lk,§t]∧af H H'
   . w;r⟨_,SqT.of htt,_,rfl,by m,fun p hp=>?_⟩;h Sp:=af.updN (o:=.tup [V.str ¶"shade",V.str ¶"trail"]) hp;e⟨_,.inr (SqT.of ac),rfl,rfl,az (fun h=>absurd h (by d)) (fun _=>hR _ _ ⟨rfl,Sp⟩)⟩
   rintro σ1 H1 ⟨rfl,S1⟩;cu (1≤d∧d≤400)∧σ'=[§lk,§t]∧H'=H1
   . w;h hbad:¬(1≤d∧d≤400)→i4 [V.str ¶"NoDay"] H1 Q E0:=fun hn=>⟨_,rfl,by d,fun t ht=>q1 t _ _ (⟨hn,rfl⟩) (S1.trans (af.updN ht)) (S1.free ht) ac⟩;e⟨_,SqT.of (S1 _ _ htt),_,rfl,_,rfl,az (fun h=>hbad (by m)) (fun h1=>⟨_,SqT.of (S1 _ _ htt),_,rfl,_,rfl,az (fun h=>hbad (by m)) (fun h2=>hR _ _ ⟨by m,rfl,rfl⟩)⟩)⟩
   rintro σ2 H2 ⟨hday,rfl,rfl⟩;cu σ'=[§lk,§t]∧H'=H2
   . w;e⟨_,SqT.of (S1 _ _ htt),_,rfl,rfl,az (fun h=>absurd (V.str.inj h) (by d)) (fun _=>hR _ _ ⟨rfl,rfl⟩)⟩
   rintro σ3 H3 ⟨rfl,rfl⟩;cu σ'=[§lk,§t]∧H'=H3
   . w;e⟨_,SqT.of (S1 _ _ htt),_,rfl,rfl,az (fun h=>absurd (V.str.inj h) (by d)) (fun _=>hR _ _ ⟨rfl,rfl⟩)⟩
   rintro σ4 H4 ⟨rfl,rfl⟩;cu σ'=[§lk,§t]∧H'=H4
   . w;e⟨_,SqT.of (S1 _ _ htt),_,rfl,rfl,az (fun h=>absurd (V.str.inj h) (by d)) (fun _=>hR _ _ ⟨rfl,rfl⟩)⟩
   rintro σ5 H5 ⟨rfl,rfl⟩;w;e⟨_,SqT.of (S1 _ _ htt),_,rfl,lk,kc,kd,kt,lo,so,ns,ss,h,Tb,d,rfl,KR0.same S1,KA0.ho.dl,fun l ps H' S hn hl hT=>q2 hday _ _ (S1.trans S) ⟨l,ps,rfl,S1.free hn,hl,hT⟩⟩
 . cu σ'=[§lk,§t]∧af H H'
   . w;r⟨_,SqT.of htt,_,rfl,by m,fun p hp=>?_⟩;h Sp:=af.updN (o:=.tup [V.str ¶"shade",V.str ¶"trail"]) hp;e⟨_,.inr (SqT.of ac),rfl,rfl,az (fun h=>absurd h (by d)) (fun _=>hR _ _ ⟨rfl,Sp⟩)⟩
   rintro σ1 H1 ⟨rfl,S1⟩;cu (1≤d∧d≤400)∧σ'=[§lk,§t]∧H'=H1
   . w;h hbad:¬(1≤d∧d≤400)→i4 [V.str ¶"NoDay"] H1 Q E0:=fun hn=>⟨_,rfl,by d,fun t ht=>q1 t _ _ (⟨hn,rfl⟩) (S1.trans (af.updN ht)) (S1.free ht) ac⟩;e⟨_,SqT.of (S1 _ _ htt),_,rfl,_,rfl,az (fun h=>hbad (by m)) (fun h1=>⟨_,SqT.of (S1 _ _ htt),_,rfl,_,rfl,az (fun h=>hbad (by m)) (fun h2=>hR _ _ ⟨by m,rfl,rfl⟩)⟩)⟩
   rintro σ2 H2 ⟨hday,rfl,rfl⟩;cu σ'=[§lk,§t]∧H'=H2
   . w;e⟨_,SqT.of (S1 _ _ htt),_,rfl,rfl,az (fun h=>absurd (V.str.inj h) (by d)) (fun _=>hR _ _ ⟨rfl,rfl⟩)⟩
   rintro σ3 H3 ⟨rfl,rfl⟩;cu σ'=[§lk,§t]∧H'=H3
   . w;e⟨_,SqT.of (S1 _ _ htt),_,rfl,rfl,az (fun h=>absurd (V.str.inj h) (by d)) (fun _=>hR _ _ ⟨rfl,rfl⟩)⟩
   rintro σ4 H4 ⟨rfl,rfl⟩;r cY (fun σ' H'=>False) (fun R hR=>?_) (fun _ _ h=>h.elim);w;e⟨_,SqT.of (S1 _ _ htt),_,rfl,rfl,az (fun _=>q2 hday _ _ S1 rfl) (fun h=>absurd rfl h)⟩
noncomputable def xo (K:PySem.W.Frag):Sp:=fun vs H Q _=>∃ (F:Addr→Bool)(lk kc kd kt lo:Addr)(so ns ss:List Str) (h:Hs)(Tb:List (Int×LK))(t:Addr)(dd:Dd),vs=[.ref lk,.ref t]∧H t=some (.tup dd.tup)∧KI (bn F H) lk kc kd kt lo so ns ss h Tb∧eO F H∧nM ns so ss h Tb∧dd.fine H∧(∀ t' H' w,dd.bad ns so h w→af H H'→H t'=none→H' t'=some (.tup (cU w))→Q (.ref t') H')∧(dd.good ns so h→∀ v H',Owx [lk,kc,kd,kt] H H'→DvN H H' v (dd.val h)→KI (bn F H') lk kc kd kt lo so ns ss (dd.step h) (dd.tb so Tb)→Q v H')
þ zx:ay ["_law_kept", "_law_deed_here"] ["_law_kept", "_law_deed_here"] (ar yv):=®
þ xM {f fBrD fDiD fBaD fChD fAsD:Addr}{fd fdBrD fdDiD fdBaD fdChD fdAsD:FuncData}(F:Fun K "_law_due" "_law_due" yv f fd)
   (T:Txt mg)
   (GBrD:Cl P w K mg base CX0 2 "_law_bring_due" ["_law_kept", "_law_cloth", "_law_shade"] jM fBrD fdBrD)
   (GDiD:Cl P w K mg base CX0 4 "_law_dip_due" ["_law_kept", "_law_cloth", "_law_bath", "_law_day_here"] oj fDiD fdDiD)
   (GBaD:Cl P w K mg base CX0 2 "_law_back_due" ["_law_kept", "_law_day_here"] lV fBaD fdBaD)
   (GChD:Cl P w K mg base CX0 2 "_law_change_due" ["_law_kept", "_law_bath", "_law_outs", "_law_day_here"] (jl K) fChD fdChD)
   (GAsD:Cl P w K mg base CX0 4 "_law_asked_due" ["_law_kept", "_law_deed_here"] kg fAsD fdAsD) :
   aW P w K mg base CX0 5 f fd ["_law_kept", "_law_deed_here"] (xo K):=by
 fo zx;o⟨F,lk,kc,kd,kt,lo,so,ns,ss,h,Tb,t,dd,rfl,htt,K0,oF,KA0,hf,q1,q2⟩:=h;h hr2:=hr.mono (j:=2) (by m);h hr4:=hr.mono (j:=4) (by m)
 r⟨_,(aj (aC (ap bO (am aK (pv 1) ag ¿) aB (ax _)) (ah (aq (pC GBrD hr2 aA (aa (pv 0) (aa (am aK (pv 1) ag ¿) (aa (am aK (pv 1) ag ¿) ae)))))) ao)
   (aj (aC (ap bO (am aK (pv 1) ag ¿) aB (ax _)) (ah (aq (pC GDiD hr4 aA (aa (pv 0) (aa (am aK (pv 1) ag ¿) (aa (am aK (pv 1) ag ¿) (aa (am aK (pv 1) ag ¿) ae))))))) ao)
   (aj (aC (ap bO (am aK (pv 1) ag ¿) aB (ax _)) (ah (aq (pC GBaD hr2 aA (aa (pv 0) (aa (am aK (pv 1) ag ¿) ae))))) ao)
   (aj (aC (ap bO (am aK (pv 1) ag ¿) aB (ax _)) (ah (aq (pC GChD hr2 aA (aa (pv 0) (aa (am aK (pv 1) ag ¿) (aa (am aK (pv 1) ag ¿) (aa (am aK (pv 1) ag ¿) ae))))))) ao)
   (ah (aq (pC GAsD hr4 aA (aa (pv 0) (aa (pv 1) ae))))))))),?_⟩
 try dsimp only[aE,aO]
 h hs:=aM;h up:=au (F:=F) (H:=H)
 cases dd with
 | bring c z =>
   r cY (fun σ' H'=>False) (fun R hR=>?_) (fun _ _ h=>h.elim);w;e⟨_,SqT.of htt,_,rfl,rfl,az (fun _=>⟨_,SqT.of htt,_,rfl,_,SqT.of htt,_,rfl,F,lk,kc,kd,kt,lo,so,ns,ss,h,Tb,c,z,rfl,K0,oF,KA0.ho,hf.1,KA0.cl60,q1,fun g1 g2 g3 H' O K=>q2 ⟨g1,g2,g3⟩ _ _ O rfl K⟩) (fun h=>absurd rfl h)⟩
 | dip c b d =>
   cu σ'=[§lk,§t]∧H'=H
   . e a8 rfl htt (by d) (hR _ _ ⟨rfl,rfl⟩)
   rintro σ1 H1 ⟨rfl,rfl⟩;r cY (fun σ' H'=>False) (fun R hR=>?_) (fun _ _ h=>h.elim);w;e⟨_,SqT.of htt,_,rfl,rfl,az (fun _=>⟨_,SqT.of htt,_,rfl,_,SqT.of htt,_,rfl,_,SqT.of htt,_,rfl,F,lk,kc,kd,kt,lo,so,ns,ss,h,Tb,c,b,d,rfl,K0,oF,KA0.TO,KA0.HR,KA0.ho,KA0.hbn,KA0.dl,q1,fun g1 g2 g3 g4 o ho' H' O K=>by subst ho';e q2 ⟨g1,g2,g3,g4⟩ _ _ O rfl K⟩) (fun h=>absurd rfl h)⟩
 | back d =>
   cu σ'=[§lk,§t]∧H'=H
   . e a8 rfl htt (by d) (hR _ _ ⟨rfl,rfl⟩)
   rintro σ1 H1 ⟨rfl,rfl⟩;cu σ'=[§lk,§t]∧H'=H1
   . e a8 rfl htt (by d) (hR _ _ ⟨rfl,rfl⟩)
   rintro σ2 H2 ⟨rfl,rfl⟩;r cY (fun σ' H'=>False) (fun R hR=>?_) (fun _ _ h=>h.elim);w;r⟨_,SqT.of htt,_,rfl,rfl,az (fun _=>⟨_,SqT.of htt,_,rfl,F,lk,kc,kd,kt,lo,so,ns,ss,h,Tb,d,rfl,K0,oF,KA0.HR,KA0.ho,q1,fun g1 g2 e he t' H' O ht K=>?_⟩) (fun h=>absurd rfl h)⟩;r q2 ⟨g1,g2,fun hn=>by rw[hn] at he;cases he⟩ _ _ O ?_ K;show DvN _ _ (.ref t') (match (bg h.dp d).getLast? with | some e=>.pair e.1 e.2 | none=>.non);rw[he];e⟨t',rfl,ht⟩
 | change b lu os d =>
   cu σ'=[§lk,§t]∧H'=H
   . e a8 rfl htt (by d) (hR _ _ ⟨rfl,rfl⟩)
   rintro σ1 H1 ⟨rfl,rfl⟩;cu σ'=[§lk,§t]∧H'=H1
   . e a8 rfl htt (by d) (hR _ _ ⟨rfl,rfl⟩)
   rintro σ2 H2 ⟨rfl,rfl⟩;cu σ'=[§lk,§t]∧H'=H2
   . e a8 rfl htt (by d) (hR _ _ ⟨rfl,rfl⟩)
   rintro σ3 H3 ⟨rfl,rfl⟩;r cY (fun σ' H'=>False) (fun R hR=>?_) (fun _ _ h=>h.elim);w;r⟨_,SqT.of htt,_,rfl,rfl,az (fun _=>⟨_,SqT.of htt,_,rfl,_,SqT.of htt,_,rfl,_,SqT.of htt,_,rfl,F,lk,kc,kd,kt,lo,so,ns,ss,h,Tb,b,lu,os,d,rfl,K0,oF,KA0.TO,KA0.ho,KA0.son,KA0.pm,KA0.so12,KA0.ns8,hf.2.1,hf.2.2.1,KA0.tl9,q1,fun g1 g2 g3 g4 g5 el hel H' O K=>?_⟩) (fun h=>absurd rfl h)⟩;r q2 ⟨g1,g2,g3,g4,g5⟩ _ _ O rfl ?_;show KI _ _ _ _ _ _ _ _ _ _ (match Tb.getLast? with | some el=>Tb++[(d,d5 so b os el.2)] | none=>Tb);rw[hel];e K
 | shade c d =>
   cu σ'=[§lk,§t]∧H'=H
   . e a8 rfl htt (by d) (hR _ _ ⟨rfl,rfl⟩)
   rintro σ1 H1 ⟨rfl,rfl⟩;cu σ'=[§lk,§t]∧H'=H1
   . e a8 rfl htt (by d) (hR _ _ ⟨rfl,rfl⟩)
   rintro σ2 H2 ⟨rfl,rfl⟩;cu σ'=[§lk,§t]∧H'=H2
   . e a8 rfl htt (by d) (hR _ _ ⟨rfl,rfl⟩)
   rintro σ3 H3 ⟨rfl,rfl⟩;cu σ'=[§lk,§t]∧H'=H3
   . e a8 rfl htt (by d) (hR _ _ ⟨rfl,rfl⟩)
   rintro σ4 H4 ⟨rfl,rfl⟩;w;e⟨lk,kc,kd,kt,lo,so,ns,ss,h,Tb,t,_,rfl,htt,K0.r.same up,KA0,.inl ⟨_,_,rfl⟩,q1,fun g v H' S dv=>q2 g v H' (Owx.same S) dv (K0.same (aQ S))⟩
 | trail c d =>
   cu σ'=[§lk,§t]∧H'=H
   . e a8 rfl htt (by d) (hR _ _ ⟨rfl,rfl⟩)
   rintro σ1 H1 ⟨rfl,rfl⟩;cu σ'=[§lk,§t]∧H'=H1
   . e a8 rfl htt (by d) (hR _ _ ⟨rfl,rfl⟩)
   rintro σ2 H2 ⟨rfl,rfl⟩;cu σ'=[§lk,§t]∧H'=H2
   . e a8 rfl htt (by d) (hR _ _ ⟨rfl,rfl⟩)
   rintro σ3 H3 ⟨rfl,rfl⟩;cu σ'=[§lk,§t]∧H'=H3
   . e a8 rfl htt (by d) (hR _ _ ⟨rfl,rfl⟩)
   rintro σ4 H4 ⟨rfl,rfl⟩;w;e⟨lk,kc,kd,kt,lo,so,ns,ss,h,Tb,t,_,rfl,htt,K0.r.same up,KA0,.inr (.inl ⟨_,_,rfl⟩),q1,fun g v H' S dv=>q2 g v H' (Owx.same S) dv (K0.same (aQ S))⟩
 | dips d =>
   cu σ'=[§lk,§t]∧H'=H
   . e a8 rfl htt (by d) (hR _ _ ⟨rfl,rfl⟩)
   rintro σ1 H1 ⟨rfl,rfl⟩;cu σ'=[§lk,§t]∧H'=H1
   . e a8 rfl htt (by d) (hR _ _ ⟨rfl,rfl⟩)
   rintro σ2 H2 ⟨rfl,rfl⟩;cu σ'=[§lk,§t]∧H'=H2
   . e a8 rfl htt (by d) (hR _ _ ⟨rfl,rfl⟩)
   rintro σ3 H3 ⟨rfl,rfl⟩;cu σ'=[§lk,§t]∧H'=H3
   . e a8 rfl htt (by d) (hR _ _ ⟨rfl,rfl⟩)
   rintro σ4 H4 ⟨rfl,rfl⟩;w;e⟨lk,kc,kd,kt,lo,so,ns,ss,h,Tb,t,_,rfl,htt,K0.r.same up,KA0,.inr (.inr (.inl ⟨_,rfl⟩)),q1,fun g v H' S dv=>q2 g v H' (Owx.same S) dv (K0.same (aQ S))⟩
 | book d =>
   cu σ'=[§lk,§t]∧H'=H
   . e a8 rfl htt (by d) (hR _ _ ⟨rfl,rfl⟩)
   rintro σ1 H1 ⟨rfl,rfl⟩;cu σ'=[§lk,§t]∧H'=H1
   . e a8 rfl htt (by d) (hR _ _ ⟨rfl,rfl⟩)
   rintro σ2 H2 ⟨rfl,rfl⟩;cu σ'=[§lk,§t]∧H'=H2
   . e a8 rfl htt (by d) (hR _ _ ⟨rfl,rfl⟩)
   rintro σ3 H3 ⟨rfl,rfl⟩;cu σ'=[§lk,§t]∧H'=H3
   . e a8 rfl htt (by d) (hR _ _ ⟨rfl,rfl⟩)
   rintro σ4 H4 ⟨rfl,rfl⟩;w;e⟨lk,kc,kd,kt,lo,so,ns,ss,h,Tb,t,_,rfl,htt,K0.r.same up,KA0,.inr (.inr (.inr ⟨_,rfl⟩)),q1,fun g v H' S dv=>q2 g v H' (Owx.same S) dv (K0.same (aQ S))⟩
noncomputable def yV (cBN cKn cNS cNC cNB cBB cND cLa cNo C:Addr) (w:Str):Prop :=
 (C=cBN∧w=¶"BadName")∨(C=cKn∧w=¶"Known")∨(C=cNS∧w=¶"NoShade")∨(C=cNC∧w=¶"NoCloth")∨(C=cNB∧w=¶"NoBath")∨(C=cBB∧w=¶"BadBook")∨(C=cND∧w=¶"NoDay")∨(C=cLa∧w=¶"Late")∨(C=cNo∧w=¶"NoDip")
noncomputable def pi (h:Hs) (h':Hs):Dd→Prop
 | .change b lu os d=>∃ so2 ns2,kZ (aV h.bk 400).1 so2 ns2 (aV h.bk 400).2∧aP so2 (ns2.map (chB (aV h.bk 400).1 so2 (aV h.bk 400).2 b os))∧h'={ h with day:=d,bk:=cg h.bk d (so2,ns2.map (chB (aV h.bk 400).1 so2 (aV h.bk 400).2 b os)) }
 | dd=>h'=dd.step h
noncomputable def zl (H W:Hp)(CB:Addr) (h:Hs) (v:V):Dd→Prop
 | .book d=>∃ r,v=.ref r∧bx W CB r (aV h.bk d).1 (aV h.bk d).2
 | dd=>o0 H v (dd.val h)
þ GO.perm {s1 s2 os:List Str}(p:s1.Perm s2):GO s1 os↔GO s2 os :=
 ⟨fun g=>⟨by rw[g.1,p.length_eq],fun x hx=>p.mem_iff.mp (g.2 x hx)⟩,fun g=>⟨by rw[g.1,p.length_eq],fun x hx=>p.mem_iff.mpr (g.2 x hx)⟩⟩
noncomputable def vb (K:PySem.W.Frag)(CH CB cBN cKn cNS cFu cNC cNB cBB cND cLa cNo:Addr):Sp:=fun vs H Q E=>∃ (A:Ad)(W:Hp)(ss ns so:List Str) (h:Hs)(t:Addr)(dd:Dd),vs=[.ref A.x,.ref t]∧aJ H CH CB A W ss h∧bK ss ns h∧H t=some (.tup dd.tup)∧dd.fine H∧so.Perm ss∧ss.Nodup∧h.dp.length < 1000∧h.cl.length < 50∧(∀ C w H',dd.bad ns so h w→yV cBN cKn cNS cNC cNB cBB cND cLa cNo C w→af H H'→E (.ref C) none H')∧(dd.good ns so h→∀ v H' W' h',af (hid H A) (hid H' A)→dM H W W'→aJ H' CH CB A W' ss h'→bK ss ns h'→pi h h' dd→zl H' W' CB h v dd→Q v H')
þ w5:ay ["_law_house", "_law_deed_here"] ["_law_house", "_law_deed_here"] (ar qp):=®
þ vD {f fHR fHQ fHK fHG fHS fHT fHP fHB:Addr}{fd fdHR fdHQ fdHK fdHG fdHS fdHT fdHP fdHB:FuncData}{CH CB cBN cKn cNS cFu cNC cNB cBB cND cLa cNo:Addr}(F:Fun K "_law_asked" "_law_asked" qp f fd)
   (T:Txt mg)(hX:Hx K mg CH)
   (GHR:Cm P w K mg base (CX1 P w) 5 CH "bring" ["self", "cloth", "shade"] (kA CH CB cBN cKn cNS cFu) fHR fdHR)
   (GHQ:Cm P w K mg base (CX1 P w) 5 CH "dip" ["self", "cloth", "bath", "day"] (tZ CH CB cNC cNB cND cLa cFu) fHQ fdHQ)
   (GHK:Cm P w K mg base (CX1 P w) 4 CH "back" ["self", "day"] (se CH CB cND cLa cNo) fHK fdHK)
   (GHG:Cm P w K mg base (CX1 P w) 7 CH "change" ["self", "bath", "outs", "day"] (ln K CH CB cNB cBB cND cLa) fHG fdHG)
   (GHS:Cm P w K mg base (CX1 P w) 3 CH "shade" ["self", "cloth", "day"] (gX CH CB cNC cND) fHS fdHS)
   (GHT:Cm P w K mg base (CX1 P w) 2 CH "trail" ["self", "cloth", "day"] (ip CH CB cNC cND) fHT fdHT)
   (GHP:Cm P w K mg base (CX1 P w) 2 CH "dips" ["self", "day"] (gT CH CB cND) fHP fdHP)
   (GHB:Cm P w K mg base (CX1 P w) 2 CH "book" ["self", "day"] (ia CH CB cND) fHB fdHB) :
   aW P w K mg base (CX1 P w) 8 f fd ["_law_house", "_law_deed_here"] (vb K CH CB cBN cKn cNS cFu cNC cNB cBB cND cLa cNo):=by
 fx w5;o⟨A0,W,ss,ns,so,h,t,dd,rfl,hh,ho,htt,hf,hpm,hsn,hdl,hcl,q1,q2⟩:=h;h cH:=hX.c;h hr2:=hr.mono (j:=2) (by m);h hr3:=hr.mono (j:=3) (by m);h hr4:=hr.mono (j:=4) (by m);h hr5:=hr.mono (j:=5) (by m);h hr7:=hr.mono (j:=7) (by m)
 r⟨_,(aj (aC (ap bO (am aK (pv 1) ag ¿) aB (ax _)) (ah (aq (pM (pv 0) cH GHR hr5 bE (aa (am aK (pv 1) ag ¿) (aa (am aK (pv 1) ag ¿) ae))))) ao)
   (aj (aC (ap bO (am aK (pv 1) ag ¿) aB (ax _)) (ah (aq (pM (pv 0) cH GHQ hr5 bE (aa (am aK (pv 1) ag ¿) (aa (am aK (pv 1) ag ¿) (aa (am aK (pv 1) ag ¿) ae)))))) ao)
   (aj (aC (ap bO (am aK (pv 1) ag ¿) aB (ax _)) (ah (aq (pM (pv 0) cH GHK hr4 bE (aa (am aK (pv 1) ag ¿) ae)))) ao)
   (aj (aC (ap bO (am aK (pv 1) ag ¿) aB (ax _)) (ah (aq (pM (pv 0) cH GHG hr7 bE (aa (am aK (pv 1) ag ¿) (aa (cw dY (by rfl) T.list (by d) (aa (am aK (pv 1) ag ¿) ae)) (aa (am aK (pv 1) ag ¿) ae)))))) ao)
   (aj (aC (ap bO (am aK (pv 1) ag ¿) aB (ax _)) (ah (aq (pM (pv 0) cH GHS hr3 bE (aa (am aK (pv 1) ag ¿) (aa (am aK (pv 1) ag ¿) ae))))) ao)
   (aj (aC (ap bO (am aK (pv 1) ag ¿) aB (ax _)) (ah (aq (pM (pv 0) cH GHT hr2 bE (aa (am aK (pv 1) ag ¿) (aa (am aK (pv 1) ag ¿) ae))))) ao)
   (aj (aC (ap bO (am aK (pv 1) ag ¿) aB (ax _)) (ah (aq (pM (pv 0) cH GHP hr2 bE (aa (am aK (pv 1) ag ¿) ae)))) ao)
   (ah (aq (pM (pv 0) cH GHB hr2 bE (aa (am aK (pv 1) ag ¿) ae))))))))))),?_⟩
 try dsimp only[aE,aO]
 h hs:=aM;h lo:∀ {m:Str}{dd:Int},(m==¶"first_shades")=false→(m==¶"day_now")=false→(m==¶"standing")=false→(m==¶"books_from")=false→Af m (hfs A0 dd)=none:=fun h1 h2 h3 h4=>d9 h1 h2 h3 h4;h hp4:=gg ho hsn 400;h hgo:∀ os,GO so os↔GO (aV h.bk 400).1 os:=fun os=>GO.perm (hpm.trans hp4.symm)
 cases dd with
 | bring c z =>
   r cY (fun σ' H'=>False) (fun R hR=>?_) (fun _ _ h=>h.elim);w;r⟨_,SqT.of htt,_,rfl,rfl,az (fun _=>⟨A0.dx,_,hh.ins,lo (by d) (by d) (by d) (by d),_,SqT.of htt,_,rfl,_,SqT.of htt,_,rfl,A0,W,ss,ns,h,c,z,rfl,hh,ho,by m,hf.1,hf.2,fun g H' S=>q1 _ _ H' (.inl ⟨g,rfl⟩) (.inl ⟨rfl,rfl⟩) S,fun g1 g2 H' S=>q1 _ _ H' (.inr (.inl ⟨g1,g2,rfl⟩)) (.inr (.inl ⟨rfl,rfl⟩)) S,fun g1 g2 g3 H' S=>q1 _ _ H' (.inr (.inr ⟨g1,g2,fun hz=>g3 (hpm.mem_iff.mp hz),rfl⟩)) (.inr (.inr (.inl ⟨rfl,rfl⟩))) S,fun _ _ _ hn=>absurd hn (by m),fun g1 g2 g3 _ H' S hh'=>?_⟩) (fun h=>absurd rfl h)⟩;e q2 ⟨g1,g2,hpm.mem_iff.mpr g3⟩ _ _ _ _ S (dM.refl H W) hh' (ho.bring g2 g3 g1) rfl rfl
 | dip c b d =>
   cu σ'=[§A0.x,§t]∧H'=H
   . e a8 rfl htt (by d) (hR _ _ ⟨rfl,rfl⟩)
   rintro σ1 H1 ⟨rfl,rfl⟩;r cY (fun σ' H'=>False) (fun R hR=>?_) (fun _ _ h=>h.elim);w;r⟨_,SqT.of htt,_,rfl,rfl,az (fun _=>⟨A0.dx,_,hh.ins,lo (by d) (by d) (by d) (by d),_,SqT.of htt,_,rfl,_,SqT.of htt,_,rfl,_,SqT.of htt,_,rfl,A0,W,ss,ns,h,c,b,d,rfl,hh,ho,hf.1,hf.2,fun g H' S=>q1 _ _ H' (.inl ⟨g,rfl⟩) (.inr (.inr (.inr (.inl ⟨rfl,rfl⟩)))) S,fun g1 g2 H' S=>q1 _ _ H' (.inr (.inl ⟨g1,g2,rfl⟩)) (.inr (.inr (.inr (.inr (.inl ⟨rfl,rfl⟩))))) S,fun g1 g2 g3 H' S=>q1 _ _ H' (.inr (.inr (.inl ⟨g1,g2,g3,rfl⟩))) (.inr (.inr (.inr (.inr (.inr (.inr (.inl ⟨rfl,rfl⟩))))))) S,fun g1 g2 g3 g4 H' S=>q1 _ _ H' (.inr (.inr (.inr ⟨g1,g2,g3,g4,rfl⟩))) (.inr (.inr (.inr (.inr (.inr (.inr (.inr (.inl ⟨rfl,rfl⟩)))))))) S,fun _ _ _ _ hn=>absurd hn (by m),fun g1 g2 g3 g4 _ H' W' S G hh'=>?_⟩) (fun h=>absurd rfl h)⟩;o⟨Bd,hNd,hZd⟩:=ho.on d;e q2 ⟨g1,g2,g3,g4⟩ _ _ _ _ S G hh' (ho.dip g3 g4 hdl ((hZd _).mp (sf Bd b ((hNd b).mpr g2) _ ((hZd _).mpr (gG ho g1 d))))) rfl rfl
 | back d =>
   cu σ'=[§A0.x,§t]∧H'=H
   . e a8 rfl htt (by d) (hR _ _ ⟨rfl,rfl⟩)
   rintro σ1 H1 ⟨rfl,rfl⟩;cu σ'=[§A0.x,§t]∧H'=H1
   . e a8 rfl htt (by d) (hR _ _ ⟨rfl,rfl⟩)
   rintro σ2 H2 ⟨rfl,rfl⟩;r cY (fun σ' H'=>False) (fun R hR=>?_) (fun _ _ h=>h.elim);w;r⟨_,SqT.of htt,_,rfl,rfl,az (fun _=>⟨A0.dx,_,hh.ins,lo (by d) (by d) (by d) (by d),_,SqT.of htt,_,rfl,A0,W,ss,ns,h,d,rfl,hh,ho,fun g H' S=>q1 _ _ H' (.inl ⟨g,rfl⟩) (.inr (.inr (.inr (.inr (.inr (.inr (.inl ⟨rfl,rfl⟩))))))) S,fun g1 g2 H' S=>q1 _ _ H' (.inr (.inl ⟨g1,g2,rfl⟩)) (.inr (.inr (.inr (.inr (.inr (.inr (.inr (.inl ⟨rfl,rfl⟩)))))))) S,fun g1 g2 g3 H' S=>q1 _ _ H' (.inr (.inr ⟨g1,g2,g3,rfl⟩)) (.inr (.inr (.inr (.inr (.inr (.inr (.inr (.inr (⟨rfl,rfl⟩))))))))) S,fun g1 g2 e he t' H' S ht' hh'=>?_⟩) (fun h=>absurd rfl h)⟩;r q2 ⟨g1,g2,fun hn=>by rw[hn] at he;cases he⟩ _ _ _ _ S (dM.refl _ W) hh' ho.back rfl ?_;show o0 H' (.ref t') (match (bg h.dp d).getLast? with | some e=>.pair e.1 e.2 | none=>.non);rw[he];e⟨t',rfl,ht'⟩
 | change b lu os d =>
   cu σ'=[§A0.x,§t]∧H'=H
   . e a8 rfl htt (by d) (hR _ _ ⟨rfl,rfl⟩)
   rintro σ1 H1 ⟨rfl,rfl⟩;cu σ'=[§A0.x,§t]∧H'=H1
   . e a8 rfl htt (by d) (hR _ _ ⟨rfl,rfl⟩)
   rintro σ2 H2 ⟨rfl,rfl⟩;cu σ'=[§A0.x,§t]∧H'=H2
   . e a8 rfl htt (by d) (hR _ _ ⟨rfl,rfl⟩)
   rintro σ3 H3 ⟨rfl,rfl⟩;r cY (fun σ' H'=>False) (fun R hR=>?_) (fun _ _ h=>h.elim);w;r⟨_,SqT.of htt,_,rfl,rfl,az (fun _=>⟨A0.dx,_,hh.ins,lo (by d) (by d) (by d) (by d),_,SqT.of htt,_,rfl,_,SqT.of htt,_,rfl,lu,rfl,_,.inl (SqL.of hf.2.1),fun l2 hl2=>?_⟩) (fun h=>absurd rfl h)⟩;h S2:=af.updN (o:=.lst (os.map V.str)) hl2;h hh2:=af.house S2 hh;r⟨_,SqT.of (S2 _ _ htt),_,rfl,A0,W,ss,ns,os,h,b,l2,d,rfl,hh2,ho,hf.1,ac,hf.2.2.1,hf.2.2.2,fun g H' S=>q1 _ _ H' (.inl ⟨g,rfl⟩) (.inr (.inr (.inr (.inr (.inl ⟨rfl,rfl⟩))))) (S2.trans S),fun g1 g2 H' S=>q1 _ _ H' (.inr (.inl ⟨g1,fun g=>g2 ((hgo os).mp g),rfl⟩)) (.inr (.inr (.inr (.inr (.inr (.inl ⟨rfl,rfl⟩)))))) (S2.trans S),fun g1 g2 g3 H' S=>q1 _ _ H' (.inr (.inr (.inl ⟨g1,(hgo os).mpr g2,g3,rfl⟩))) (.inr (.inr (.inr (.inr (.inr (.inr (.inl ⟨rfl,rfl⟩))))))) (S2.trans S),fun g1 g2 g3 g4 H' S=>q1 _ _ H' (.inr (.inr (.inr ⟨g1,(hgo os).mpr g2,g3,g4,rfl⟩))) (.inr (.inr (.inr (.inr (.inr (.inr (.inr (.inl ⟨rfl,rfl⟩)))))))) (S2.trans S),fun g1 g2 g3 g4 g5 so2 ns2 H' W' CI B2 S G hh'=>?_⟩;e q2 ⟨g1,(hgo os).mpr g2,g3,g4,g5⟩ _ _ _ _ ((cj S2).trans S) ⟨G.1,fun b o h1 h2=>G.2 b o h1 (S2 _ _ h2)⟩ hh' (ho.change g3 g4 (ho.ch CI B2)) ⟨so2,ns2,CI,B2,rfl⟩ rfl
 | shade c d =>
   cu σ'=[§A0.x,§t]∧H'=H
   . e a8 rfl htt (by d) (hR _ _ ⟨rfl,rfl⟩)
   rintro σ1 H1 ⟨rfl,rfl⟩;cu σ'=[§A0.x,§t]∧H'=H1
   . e a8 rfl htt (by d) (hR _ _ ⟨rfl,rfl⟩)
   rintro σ2 H2 ⟨rfl,rfl⟩;cu σ'=[§A0.x,§t]∧H'=H2
   . e a8 rfl htt (by d) (hR _ _ ⟨rfl,rfl⟩)
   rintro σ3 H3 ⟨rfl,rfl⟩;cu σ'=[§A0.x,§t]∧H'=H3
   . e a8 rfl htt (by d) (hR _ _ ⟨rfl,rfl⟩)
   rintro σ4 H4 ⟨rfl,rfl⟩;r cY (fun σ' H'=>False) (fun R hR=>?_) (fun _ _ h=>h.elim);w;r⟨_,SqT.of htt,_,rfl,rfl,az (fun _=>⟨A0.dx,_,hh.ins,lo (by d) (by d) (by d) (by d),_,SqT.of htt,_,rfl,_,SqT.of htt,_,rfl,A0,W,ss,ns,h,c,d,rfl,hh,ho,hf,fun g1 g2 H' S=>?_,fun g=>q1 _ _ _ (.inl ⟨g,rfl⟩) (.inr (.inr (.inr (.inl ⟨rfl,rfl⟩)))) (af.refl _),fun g1 g2=>q1 _ _ _ (.inr ⟨g1,g2,rfl⟩) (.inr (.inr (.inr (.inr (.inr (.inr (.inl ⟨rfl,rfl⟩))))))) (af.refl _)⟩) (fun h=>absurd rfl h)⟩;e q2 ⟨g1,g2⟩ _ _ _ _ (cj S) (dM.refl _ W) (af.house S hh) ho rfl rfl
 | trail c d =>
   cu σ'=[§A0.x,§t]∧H'=H
   . e a8 rfl htt (by d) (hR _ _ ⟨rfl,rfl⟩)
   rintro σ1 H1 ⟨rfl,rfl⟩;cu σ'=[§A0.x,§t]∧H'=H1
   . e a8 rfl htt (by d) (hR _ _ ⟨rfl,rfl⟩)
   rintro σ2 H2 ⟨rfl,rfl⟩;cu σ'=[§A0.x,§t]∧H'=H2
   . e a8 rfl htt (by d) (hR _ _ ⟨rfl,rfl⟩)
   rintro σ3 H3 ⟨rfl,rfl⟩;cu σ'=[§A0.x,§t]∧H'=H3
   . e a8 rfl htt (by d) (hR _ _ ⟨rfl,rfl⟩)
   rintro σ4 H4 ⟨rfl,rfl⟩;cu σ'=[§A0.x,§t]∧H'=H4
   . e a8 rfl htt (by d) (hR _ _ ⟨rfl,rfl⟩)
   rintro σ5 H5 ⟨rfl,rfl⟩;r cY (fun σ' H'=>False) (fun R hR=>?_) (fun _ _ h=>h.elim);w;r⟨_,SqT.of htt,_,rfl,rfl,az (fun _=>⟨A0.dx,_,hh.ins,lo (by d) (by d) (by d) (by d),_,SqT.of htt,_,rfl,_,SqT.of htt,_,rfl,A0,W,ss,ns,h,c,d,rfl,hh,ho,hf,fun g1 g2 l ps H' S _ hl hT=>?_,fun g=>q1 _ _ _ (.inl ⟨g,rfl⟩) (.inr (.inr (.inr (.inl ⟨rfl,rfl⟩)))) (af.refl _),fun g1 g2=>q1 _ _ _ (.inr ⟨g1,g2,rfl⟩) (.inr (.inr (.inr (.inr (.inr (.inr (.inl ⟨rfl,rfl⟩))))))) (af.refl _)⟩) (fun h=>absurd rfl h)⟩;e q2 ⟨g1,g2⟩ _ _ _ _ (cj S) (dM.refl _ W) (af.house S hh) ho rfl ⟨l,ps,rfl,hl,hT⟩
 | dips d =>
   cu σ'=[§A0.x,§t]∧H'=H
   . e a8 rfl htt (by d) (hR _ _ ⟨rfl,rfl⟩)
   rintro σ1 H1 ⟨rfl,rfl⟩;cu σ'=[§A0.x,§t]∧H'=H1
   . e a8 rfl htt (by d) (hR _ _ ⟨rfl,rfl⟩)
   rintro σ2 H2 ⟨rfl,rfl⟩;cu σ'=[§A0.x,§t]∧H'=H2
   . e a8 rfl htt (by d) (hR _ _ ⟨rfl,rfl⟩)
   rintro σ3 H3 ⟨rfl,rfl⟩;cu σ'=[§A0.x,§t]∧H'=H3
   . e a8 rfl htt (by d) (hR _ _ ⟨rfl,rfl⟩)
   rintro σ4 H4 ⟨rfl,rfl⟩;cu σ'=[§A0.x,§t]∧H'=H4
   . e a8 rfl htt (by d) (hR _ _ ⟨rfl,rfl⟩)
   rintro σ5 H5 ⟨rfl,rfl⟩;cu σ'=[§A0.x,§t]∧H'=H5
   . e a8 rfl htt (by d) (hR _ _ ⟨rfl,rfl⟩)
   rintro σ6 H6 ⟨rfl,rfl⟩;r cY (fun σ' H'=>False) (fun R hR=>?_) (fun _ _ h=>h.elim);w;r⟨_,SqT.of htt,_,rfl,rfl,az (fun _=>⟨A0.dx,_,hh.ins,lo (by d) (by d) (by d) (by d),_,SqT.of htt,_,rfl,A0,W,ss,ns,h,d,rfl,hh,ho,fun g l ps H' S _ hl hT=>?_,fun g=>q1 _ _ _ ⟨g,rfl⟩ (.inr (.inr (.inr (.inr (.inr (.inr (.inl ⟨rfl,rfl⟩))))))) (af.refl _)⟩) (fun h=>absurd rfl h)⟩;e q2 g _ _ _ _ (cj S) (dM.refl _ W) (af.house S hh) ho rfl ⟨l,ps,rfl,hl,hT⟩
 | book d =>
   cu σ'=[§A0.x,§t]∧H'=H
   . e a8 rfl htt (by d) (hR _ _ ⟨rfl,rfl⟩)
   rintro σ1 H1 ⟨rfl,rfl⟩;cu σ'=[§A0.x,§t]∧H'=H1
   . e a8 rfl htt (by d) (hR _ _ ⟨rfl,rfl⟩)
   rintro σ2 H2 ⟨rfl,rfl⟩;cu σ'=[§A0.x,§t]∧H'=H2
   . e a8 rfl htt (by d) (hR _ _ ⟨rfl,rfl⟩)
   rintro σ3 H3 ⟨rfl,rfl⟩;cu σ'=[§A0.x,§t]∧H'=H3
   . e a8 rfl htt (by d) (hR _ _ ⟨rfl,rfl⟩)
   rintro σ4 H4 ⟨rfl,rfl⟩;cu σ'=[§A0.x,§t]∧H'=H4
   . e a8 rfl htt (by d) (hR _ _ ⟨rfl,rfl⟩)
   rintro σ5 H5 ⟨rfl,rfl⟩;cu σ'=[§A0.x,§t]∧H'=H5
   . e a8 rfl htt (by d) (hR _ _ ⟨rfl,rfl⟩)
   rintro σ6 H6 ⟨rfl,rfl⟩;cu σ'=[§A0.x,§t]∧H'=H6
   . e a8 rfl htt (by d) (hR _ _ ⟨rfl,rfl⟩)
   rintro σ7 H7 ⟨rfl,rfl⟩;w;r⟨A0.dx,_,hh.ins,lo (by d) (by d) (by d) (by d),_,SqT.of htt,_,rfl,A0,W,ss,ns,h,d,rfl,hh,ho,fun g r H' S hb=>?_,fun g=>q1 _ _ H7 ⟨g,rfl⟩ (.inr (.inr (.inr (.inr (.inr (.inr (.inl ⟨rfl,rfl⟩))))))) (af.refl _)⟩;e q2 g _ _ _ _ (cj S) (dM.refl _ W) (af.house S hh) ho rfl ⟨r,rfl,hb⟩
noncomputable def oI:Sp:=fun _ _ _ _=>False
þ xX {f:Addr}{fd:FuncData}{ps:List Str}:aW P w K mg base CX0 0 f fd ps oI:=⟨fun _ _ _ _ h=>h.elim,fun _ _ _ _ _ _ _ _ _ _ _ _ _ h=>h.elim⟩
þ v7 {spR:Sp}{z:Str}{H:Hp}{Q:VK}{E:XK}(q:Q (.bl true) H):eU spR [.str z,.str z] H Q E:=⟨_,_,rfl,.inl ⟨z,z,rfl,rfl,by rw[decide_eq_true rfl];e q⟩⟩
þ qr {spR:Sp}{a b:Addr}{xs:List V}{H:Hp}{Q:VK}{E:XK}(ha:H a=some (.tup xs))(hb:H b=some (.tup xs))(hn:xs.length≤1000)(hx:∀ x∈xs,(∃ z,x=.str z)∨∃ i,x=.int i)(q:Q (.bl true) H):eU (eU spR) [.ref a,.ref b] H Q E :=
 ⟨_,_,rfl,.inr (.inr (.inr ⟨a,b,xs,xs,rfl,rfl,.inr ⟨ha,hb⟩,rfl,hn,fun i u v hu hv Q' E' q'=>by
   rw[hu] at hv;cases hv
   rcases hx u (zO hu) with ⟨z,rfl⟩ | ⟨z,rfl⟩
   . e v7 q'
   . e⟨_,_,rfl,.inr (.inl ⟨z,z,rfl,rfl,by rw[decide_eq_true rfl];e q'⟩)⟩,q⟩))⟩
þ vF {spR:Sp}{a b:Addr}{ps qs:List Addr}{L:List (List V)}{H:Hp}{Q:VK}{E:XK}(ha:H a=some (.lst (ps.map V.ref)))(hb:H b=some (.lst (qs.map V.ref)))(hp:cm H ps L)(hq:cm H qs L)(hn:L.length≤1000)(hk:∀ e∈L,e.length≤1000)(hx:∀ e∈L,∀ x∈e,(∃ z,x=.str z)∨∃ i,x=.int i)(q:Q (.bl true) H):eU (eU (eU spR)) [.ref a,.ref b] H Q E:=by
 r⟨_,_,rfl,.inr (.inr (.inr ⟨a,b,_,_,rfl,rfl,.inl ⟨ha,hb⟩,by rw[be,be,hp.1,hq.1],by rw[be,hq.1];e hn,fun i u v hu hv Q' E' q'=>?_,q⟩))⟩;rw[zK] at hu hv;o⟨p,hp1,rfl⟩:=Option.map_eq_some_iff.mp hu;o⟨r,hr1,rfl⟩:=Option.map_eq_some_iff.mp hv;obtain⟨e,he⟩:∃ e,L[i]?=some e:=⟨_,zJ (by rw[←hp.1];e(List.getElem?_eq_some_iff.mp hp1).1)⟩;h hm:=zO he;e qr (hp.2 i p e hp1 he) (hq.2 i r e hr1 he) (hk e hm) (hx e hm) q'
þ xI {spR:Sp}{H:Hp}{Q:VK}{E:XK}(q:Q (.bl true) H):eU spR [.non,.non] H Q E:=⟨_,_,rfl,.inr (.inr (.inl ⟨rfl,rfl,q⟩))⟩
þ zH {t:Str}:∀ x∈[V.str "refused",V.str t,V.int 0],(∃ z,x=.str z)∨∃ i,x=.int i:=by
 intro x hx;simp only[Az,Aq,or_false] at hx
 rcases hx with rfl | rfl | rfl
 . e .inl ⟨_,rfl⟩
 . e .inl ⟨_,rfl⟩
 . e .inr ⟨_,rfl⟩
þ yM {t u:Str}:∀ x∈[V.str t,V.str u],(∃ z,x=.str z)∨∃ i,x=.int i:=by
 intro x hx;simp only[Az,Aq,or_false] at hx
 rcases hx with rfl | rfl
 . e .inl ⟨_,rfl⟩
 . e .inl ⟨_,rfl⟩
þ Dd.one {ns so:List Str}{h:Hs}{dd:Dd}{w w':Str}(a:dd.bad ns so h w)(b:dd.bad ns so h w'):w=w':=by
 cases dd<;>simp only[Dd.bad] at a b<;>grind
þ Dd.not {ns so:List Str}{h:Hs}{dd:Dd}{w:Str}(a:dd.bad ns so h w)(b:dd.good ns so h):False:=by
 cases dd<;>simp only[Dd.bad,Dd.good] at a b<;>grind
noncomputable def fX (A:Ad)(W:Hp)(X:Addr→Bool):Addr→Bool:=fun b=>decide (b=A.x∨b=A.d1∨b=A.ls∨b=A.db)||(W b).isSome||X b
þ dh {A:Ad}{W:Hp}{X:Addr→Bool}{b:Addr}(h:fX A W X b=false):(b≠A.x∧b≠A.d1∧b≠A.ls∧b≠A.db)∧W b=none∧X b=false:=by
 unfold fX at h;rw[Bool.or_eq_false_iff,Bool.or_eq_false_iff,decide_eq_false_iff_not] at h;r⟨⟨fun e=>h.1.1 (.inl e),fun e=>h.1.1 (.inr (.inl e)),fun e=>h.1.1 (.inr (.inr (.inl e))),fun e=>h.1.1 (.inr (.inr (.inr e)))⟩,?_,h.2⟩
 cases hw:W b with
 | none=>rfl
 | some o=>have:=h.1.2;rw[hw] at this;cases this
þ v9 {A:Ad}{W:Hp}{X:Addr→Bool}{b:Addr}(h1:b≠A.x∧b≠A.d1∧b≠A.ls∧b≠A.db)(h2:W b=none)(h3:X b=false):fX A W X b=false:=by
 unfold fX;rw[Bool.or_eq_false_iff,Bool.or_eq_false_iff,decide_eq_false_iff_not];e⟨⟨fun e=>by rcases e with e | e | e | e;e h1.1 e;e h1.2.1 e;e h1.2.2.1 e;e h1.2.2.2 e,by rw[h2];rfl⟩,h3⟩
þ rH {H H' W W':Hp}{A:Ad}{X:Addr→Bool}(S:af (hid H A) (hid H' A))(G:dM H W W'):af (bn (fX A W X) H) (bn (fX A W' X) H'):=fun b o e=>by
 o⟨h1,h2⟩:=aU e;o⟨n1,n2,n3⟩:=dh h2;h h3:=S b o (fb h1 n1.1 n1.2.1 n1.2.2.1 n1.2.2.2);e cf (a9 _ _ h3) (v9 n1 (G.2 b o n2 h1) n3)
þ aJ.own {H H':Hp}{C CB:Addr}{A:Ad}{W:Hp}{ss:List Str}{h:Hs}{ks:List Addr}(hh:aJ H C CB A W ss h)(O:Owx ks H H')(hk:∀ k∈ks,(k≠A.x∧k≠A.d1∧k≠A.ls∧k≠A.db)∧W k=none):aJ H' C CB A W ss h:=by
 o⟨h1,h2,⟨ps,h3,h4,h5⟩,⟨rs,h6,h7,h8⟩,h9,h10⟩:=hh;r⟨O _ _ (fun m=>(hk _ m).1.1 rfl) h1,O _ _ (fun m=>(hk _ m).1.2.1 rfl) h2,⟨ps,O _ _ (fun m=>(hk _ m).1.2.2.1 rfl) h3,h4,h5⟩,⟨rs,O _ _ (fun m=>(hk _ m).1.2.2.2 rfl) h6,h7,h8⟩,h9,fun b o e=>?_⟩;o⟨e1,n⟩:=gN (h10 b o e);e fb (O b o (fun m=>by have:=(hk b m).2;rw[e] at this;cases this) e1) n.1 n.2.1 n.2.2.1 n.2.2.2
þ KI.bk {G:Hp}{lk kc kd kt lo:Addr}{so ns ss:List Str}{h h':Hs}{T:List (Int×LK)}(K:KI G lk kc kd kt lo so ns ss h T)(e1:h'.cl=h.cl)(e2:h'.day=h.day)(e3:h'.dp=h.dp):KI G lk kc kd kt lo so ns ss h' T:=by
 o⟨⟨h1,h2,h3,h4,h5⟩,h6,h7⟩:=K;e⟨⟨by rw[e2];e h1,h2,by rw[e1];e h3,by rw[e3];e h4,h5⟩,by rw[e1];e h6,h7⟩
structure J38 (H:Hp)(CH CB:Addr)(A:Ad)(W:Hp)(X:Addr→Bool)(lk kc kd kt lo:Addr)(so ns ss:List Str) (h:Hs)(Tb:List (Int×LK)):Prop where
 hh:aJ H CH CB A W ss h
 ki:KI (bn (fX A W X) H) lk kc kd kt lo so ns ss h Tb
 oc:eO X H
 ka:nM ns so ss h Tb
þ aJ.occ {H:Hp}{C CB:Addr}{A:Ad}{W:Hp}{ss:List Str}{h:Hs}{X:Addr→Bool}(hh:aJ H C CB A W ss h)(oc:eO X H):eO (fX A W X) H:=fun b hb e=>by
 h:fX A W X b=false:=v9 ⟨(fun z=>by rw[z,hh.ins] at e;cases e),(fun z=>by rw[z,hh.cl] at e;cases e),(fun z=>by o⟨ps,h1,_⟩:=hh.dp;rw[z,h1] at e;cases e),(fun z=>by o⟨rs,h1,_⟩:=hh.bk;rw[z,h1] at e;cases e)⟩ (hh.up.free e) (oc.new e);rw[this] at hb;cases hb
noncomputable def Dd.nm:Dd→Str
 | .bring _ _=>"bring"
 | .dip _ _ _=>"dip"
 | .back _=>"back"
 | .change _ _ _ _=>"change"
 | .shade _ _=>"shade"
 | .trail _ _=>"trail"
 | .dips _=>"dips"
 | .book _=>"book"
noncomputable def Dd.luok (ks:List Addr):Dd→Prop
 | .change _ lu _ _=>lu∉ks
 | _=>True
þ DvN.keep {H H1 H2:Hp}{C CB:Addr}{A:Ad}{W W1:Hp}{ss:List Str}{h h1:Hs}{v:V}{dv:DV}(d:DvN H H1 v dv)(hh:aJ H C CB A W ss h)(hh1:aJ H1 C CB A W1 ss h1)(S:af (hid H1 A) (hid H2 A)):o0 H2 v dv:=by
 h kt:∀ {ps:List Addr}{L:List (List V)},cm H1 ps L→cm H2 ps L:=fun {ps L} t=>⟨t.1,fun i p e hp he=>a9 _ _ (S _ _ (mQ hh1 (t.2 i p e hp he)))⟩
 cases dv with
 | non=>e d
 | str z=>e d
 | pair a b =>
   o⟨t,rfl,ht⟩:=d;e⟨t,rfl,a9 _ _ (S _ _ (mQ hh1 ht))⟩
 | trail L =>
   o⟨l,ps,rfl,hn,hl,hT⟩:=d;e⟨l,ps,rfl,a9 _ _ (S _ _ (mJ hh hn hl)),kt hT⟩
 | dips L =>
   o⟨l,ps,rfl,hn,hl,hT⟩:=d;e⟨l,ps,rfl,a9 _ _ (S _ _ (mJ hh hn hl)),kt hT⟩
structure zb (K:PySem.W.Frag)(cs:List Addr)(dip cBN cKn cNS cNC cNB cBB cND cLa cNo:Addr):Prop where
 bits:∀ C w,yV cBN cKn cNS cNC cNB cBB cND cLa cNo C w→∃ bits,Bits K cs dip C bits∧dQ (true::bits)=¶"ValueError "++w
þ sU {dd:Dd}{H H':Hp}(h:dd.fine H)(S:af H H'):dd.fine H':=by
 cases dd with
 | change b lu os d=>e⟨h.1,S _ _ h.2.1,h.2.2⟩
 | bring c z=>e h
 | dip c b d=>e h
 | back d=>trivial
 | shade c d=>e h
 | trail c d=>e h
 | dips d=>trivial
 | book d=>trivial
þ TOk.last {ss ns:List Str}{h:Hs}{Tb:List (Int×LK)}(TO:TOk ss ns h Tb)(ts:∀ e∈Tb,e.1≤h.day)(hd:h.day≤400){el:Int×LK}(hl:Tb.getLast?=some el):∀ n∈ns,∀ z∈ss,el.2 n z=lkB (aV h.bk 400).1 (aV h.bk 400).2 n z:=by
 o⟨lk,h1,h2⟩:=TO.to 400 (by decide)
 h:fZ Tb 400=some el.2:=by
   unfold fZ;rw[List.filter_eq_self.mpr (fun e he=>decide_eq_true (Cj (ts e he) hd)),hl];rfl
 rw[this] at h1;cases h1;e h2
þ ge.bring {h:Hs}(HR:ge h)(hcn:∀ e∈h.dp,e.2.1∈h.cl.map (·.1)){c z:Str}:ge { h with cl:=h.cl++[(c,z)] }:=by
 r⟨HR.srt,fun i e he=>?_⟩;h h1:=HR.out i e he;rw[h1]
 congr 1
 h hm:=hcn e (zO he);unfold aX;show(match (aZ (h.dp.take i) e.2.1 e.1).getLast? with | some e=>e.2.2 | none=>((h.cl.lookup e.2.1).getD ⟨#[]⟩))=(match (aZ (h.dp.take i) e.2.1 e.1).getLast? with | some e=>e.2.2 | none=>(((h.cl++[(c,z)]).lookup e.2.1).getD ⟨#[]⟩))
 h hl:(h.cl++[(c,z)]).lookup e.2.1=h.cl.lookup e.2.1:=by
   rw[List.lookup_append];o⟨x,hx,hxe⟩:=List.mem_map.mp hm
   cases hk:h.cl.lookup e.2.1 with
   | some y=>rfl
   | none =>
     exfalso;have:=List.lookup_eq_none_iff.mp hk x hx;simp[hxe] at this
 rw[hl]
þ ge.back {h:Hs}(HR:ge h):ge { h with dp:=h.dp.dropLast }:=by
 r⟨HR.srt.sublist (Ba _),fun i e he=>?_⟩;h hi:i < h.dp.dropLast.length:=(List.getElem?_eq_some_iff.mp he).1
 h he2:h.dp[i]?=some e:=by
   h he3:h.dp.dropLast[i]?=some e:=he;rw[List.getElem?_dropLast] at he3
   split at he3
   . e he3
   . cases he3
 h h1:=HR.out i e he2;rw[AI] at hi;rw[h1]
 congr 2
 show({ h with dp:=h.dp.take i }:Hs)={ h with dp:=h.dp.dropLast.take i };rw[BM,List.take_take,Nat.min_eq_left (by m)]
þ ww {dp:List (Int×Str×Str×Str)}{d:Int}(h:bg dp d=[]):∀ e∈dp,e.1≠d:=fun e he k=>by
 unfold bg at h;have:=List.filter_eq_nil_iff.mp (List.map_eq_nil_iff.mp h) e he;simp[k] at this
þ nM.step {ns so ss:List Str}{h h':Hs}{Tb:List (Int×LK)}{dd:Dd}(ka:nM ns so ss h Tb)(hg:dd.good ns so h)(hst:pi h h' dd)(ho':bK ss ns h')(hdl:h.dp.length+1 < 1000)(htl:Tb.length+1 < 1000)(hcl:h.cl.length < 50) :
   nM ns so ss h' (dd.tb so Tb)∧h'.dp.length≤h.dp.length+1∧(dd.tb so Tb).length≤Tb.length+1∧∀ c∈h'.cl,c∈h.cl∨∃ z,dd=.bring c.1 z:=by
 h same:h'=h→Dd.tb so Tb dd=Tb→nM ns so ss h' (dd.tb so Tb)∧h'.dp.length≤h.dp.length+1∧(dd.tb so Tb).length≤Tb.length+1∧∀ c∈h'.cl,c∈h.cl∨∃ z,dd=.bring c.1 z:=fun e1 e2=>by
   rw[e1,e2];e⟨ka,by m,by m,fun c hc=>.inl hc⟩
 cases dd with
 | bring c z =>
   cases hst;r⟨⟨⟨ka.TO.t0,ka.TO.to,ka.TO.tl⟩,ka.HR.bring ka.hcn,ho',ka.hbn,fun e he=>?_,ka.ts,ka.ssn,ka.son,ka.srt,ka.nsn,ka.pm,ka.so12,ka.ns8,ka.dl,?_,ka.tl9⟩,by show h.dp.length≤_;m,by show Tb.length≤_;m,fun x hx=>?_⟩
   . show e.2.1∈(h.cl++[(c,z)]).map (·.1);rw[zQ];e AR _ (ka.hcn e he)
   . show(h.cl++[(c,z)]).length≤60;rw[zL,zR];m
   . rcases List.mem_append.mp hx with hx | hx
     . e .inl hx
     . rw[List.mem_singleton.mp hx];e .inr ⟨z,rfl⟩
 | dip c b d =>
   o⟨g1,g2,g3,g4⟩:=hg;cases hst;r⟨⟨⟨ka.TO.t0,ka.TO.to,ka.TO.tl⟩,ka.HR.dip ka.ho g4,ho',fun e he=>?_,fun e he=>?_,fun e he=>⟨(ka.ts e he).1,Cj (ka.ts e he).2 g4⟩,ka.ssn,ka.son,ka.srt,ka.nsn,ka.pm,ka.so12,ka.ns8,?_,ka.cl60,ka.tl9⟩,?_,by show Tb.length≤_;m,fun x hx=>.inl hx⟩
   . rcases List.mem_append.mp he with he | he
     . e ka.hbn e he
     . rw[List.mem_singleton.mp he];e g2
   . rcases List.mem_append.mp he with he | he
     . e ka.hcn e he
     . rw[List.mem_singleton.mp he];e g1
   . show(h.dp++[_]).length < 1000;rw[zL,zR];m
   . show(h.dp++[_]).length≤_;rw[zL,zR];m
 | back d =>
   cases hst;r⟨⟨⟨ka.TO.t0,ka.TO.to,ka.TO.tl⟩,ka.HR.back,ho',fun e he=>ka.hbn e ((Ba _).subset he),fun e he=>ka.hcn e ((Ba _).subset he),ka.ts,ka.ssn,ka.son,ka.srt,ka.nsn,ka.pm,ka.so12,ka.ns8,?_,ka.cl60,ka.tl9⟩,?_,by show Tb.length≤_;m,fun x hx=>.inl hx⟩
   . show h.dp.dropLast.length < 1000;rw[AI];m
   . show h.dp.dropLast.length≤_;rw[AI];m
 | change b lu os d =>
   o⟨g1,g2,g3,g4,g5⟩:=hg;o⟨so2,ns2,CI,B2,rfl⟩:=hst;h e2:=zn ka.ho ka.ssn ka.pm ka.srt CI;subst e2
   obtain⟨el,hel⟩:∃ el,Tb.getLast?=some el:=by
     o⟨e0,r,he⟩:=ka.TO.t0;e⟨_,AH (by rw[he];intro k;cases k)⟩
   h etb:Dd.tb so2 Tb (.change b lu os d)=Tb++[(d,d5 so2 b os el.2)]:=by
     show(match Tb.getLast? with | some el=>Tb++[(d,d5 so2 b os el.2)] | none=>Tb)=_;rw[hel]
   rw[etb];h hlast:=ka.TO.last (fun e he=>(ka.ts e he).2) ka.ho.d4 hel;o⟨B4,hN4,hZ4⟩:=ka.ho.on 400
   h hlt:∀ e∈h.dp,e.1 < d:=fun e he=>by
     h h1:=(ka.ho.dd e he).2;h h2:=ww g5 e he;m
   r⟨⟨⟨?_,fun e he=>?_,by rw[zL,zR];m⟩,⟨ka.HR.srt,fun i e he=>?_⟩,ho',ka.hbn,ka.hcn,fun e he=>?_,ka.ssn,ka.son,ka.srt,ka.nsn,ka.pm,ka.so12,ka.ns8,ka.dl,ka.cl60,by rw[zL,zR];m⟩,by show h.dp.length≤_;m,by rw[zL,zR];m,fun x hx=>.inl hx⟩
   . o⟨e0,r,he⟩:=ka.TO.t0;e⟨e0,r++[_],by rw[he];rfl⟩
   . rw[gh];show ∃ lk:LK,_∧∀ n∈ns,∀ z∈ss,lk n z=lkB (aV (cg h.bk d _) e).1 (aV (cg h.bk d _) e).2 n z;rw[oJ ka.ho ho' he];by_cases hle:d≤e
     . rw[if_pos hle,if_pos hle];r⟨_,rfl,fun n hn z hz=>?_⟩;h hn2:n∈ns2:=CI.pn.mem_iff.mpr ((hN4 n).mpr hn);rw[xG B4 CI B2 hn2 (ka.pm.mem_iff.mpr hz)];show d5 so2 b os el.2 n z=_;unfold d5;by_cases hnb:n=b
       . rw[if_pos hnb,if_pos hnb]
       . rw[if_neg hnb,if_neg hnb];e hlast n hn z hz
     . rw[if_neg hle,if_neg hle];e ka.TO.to e he
   . h h1:=ka.HR.out i e he;show e.2.2.2=lkB (aV (cg h.bk d _) e.1).1 (aV (cg h.bk d _) e.1).2 e.2.2.1 _;rw[oJ ka.ho ho' (ka.ho.dd e (zO he)).1,if_neg (by have:=hlt e (zO he);m)];e h1
   . rcases List.mem_append.mp he with he | he
     . e⟨(ka.ts e he).1,Cj (ka.ts e he).2 g4⟩
     . rw[List.mem_singleton.mp he];e⟨g3.1,Bv _⟩
 | shade c d=>e same hst rfl
 | trail c d=>e same hst rfl
 | dips d=>e same hst rfl
 | book d=>e same hst rfl
þ pi.eq {h h':Hs}{dd:Dd}(s:pi h h' dd):h'.cl=(dd.step h).cl∧h'.day=(dd.step h).day∧h'.dp=(dd.step h).dp:=by
 cases dd with
 | change b lu os d=>o⟨_,_,_,_,rfl⟩:=s;e⟨rfl,rfl,rfl⟩
 | bring c z=>cases s;e⟨rfl,rfl,rfl⟩
 | dip c b d=>cases s;e⟨rfl,rfl,rfl⟩
 | back d=>cases s;e⟨rfl,rfl,rfl⟩
 | shade c d=>cases s;e⟨rfl,rfl,rfl⟩
 | trail c d=>cases s;e⟨rfl,rfl,rfl⟩
 | dips d=>cases s;e⟨rfl,rfl,rfl⟩
 | book d=>cases s;e⟨rfl,rfl,rfl⟩
þ J38.same {H H':Hp}{CH CB:Addr}{A:Ad}{W:Hp}{X:Addr→Bool}{lk kc kd kt lo:Addr}{so ns ss:List Str}{h:Hs}{Tb:List (Int×LK)}(J:J38 H CH CB A W X lk kc kd kt lo so ns ss h Tb)(S:af H H'):J38 H' CH CB A W X lk kc kd kt lo so ns ss h Tb :=
 ⟨af.house S J.hh,J.ki.same (aQ S),J.oc.same S,J.ka⟩
noncomputable def DV.len:DV→Nat
 | .trail L=>L.length
 | .dips L=>L.length
 | _=>0
þ gS {H:Hp}{a b:V}{dv:DV}{Q:VK}{E:XK}(h1:o0 H a dv)(h2:o0 H b dv)(hl:dv.len≤1000)(q:Q (.bl true) H):eU (eU (eU oI)) [a,b] H Q E:=by
 cases dv with
 | non=>cases h1;cases h2;e xI q
 | str z=>cases h1;cases h2;e v7 q
 | pair x y =>
   o⟨t,rfl,ht⟩:=h1;o⟨t2,rfl,ht2⟩:=h2;e qr ht ht2 (by show 2≤1000;decide) yM q
 | trail L =>
   o⟨l,ps,rfl,hl1,hT1⟩:=h1;o⟨l2,ps2,rfl,hl2,hT2⟩:=h2;r vF hl1 hl2 hT1 hT2 (by rw[be];e hl) (fun e he=>?_) (fun e he=>?_) q
   . o⟨x,_,rfl⟩:=List.mem_map.mp he;show 3≤1000
     decide
   . o⟨x,_,rfl⟩:=List.mem_map.mp he;intro y hy;simp only[Az,Aq,or_false] at hy
     rcases hy with rfl | rfl | rfl
     . e .inr ⟨_,rfl⟩
     . e .inl ⟨_,rfl⟩
     . e .inl ⟨_,rfl⟩
 | dips L =>
   o⟨l,ps,rfl,hl1,hT1⟩:=h1;o⟨l2,ps2,rfl,hl2,hT2⟩:=h2;r vF hl1 hl2 hT1 hT2 (by rw[be];e hl) (fun e he=>?_) (fun e he=>?_) q
   . o⟨x,_,rfl⟩:=List.mem_map.mp he;show 2≤1000
     decide
   . o⟨x,_,rfl⟩:=List.mem_map.mp he;e yM
þ Dd.vlen {h:Hs}{dd:Dd}(hd:h.dp.length≤1000):(dd.val h).len≤1000:=by
 cases dd with
 | trail c d =>
   show(aZ h.dp c d).length≤1000;unfold aZ;rw[be];e AB (AZ _ _) hd
 | dips d =>
   show(bg h.dp d).length≤1000;unfold bg;rw[be];e AB (AZ _ _) hd
 | back d =>
   show(match (bg h.dp d).getLast? with | some e=>DV.pair e.1 e.2 | none=>DV.non).len≤1000
   split<;>e AA _
 | bring c z=>e AA _
 | dip c b d=>e AA _
 | change b lu os d=>e AA _
 | shade c d=>e AA _
 | book d=>e AA _
structure Own (K:PySem.W.Frag)(C:Addr):Prop where
 ha:AO K (.ref (C)) "__class__"=some (some (.builtin "object.__class__"))
 hn:PySem.W.specialIn K (.builtin "object.__class__") "__get__"=some (some (.builtin "getset_descriptor.__get__"))
 ht:PySem.W.takesIn K (.builtin "object.__class__")=some true
 hm:PySem.W.mroIn K C (.type "object")=some true
þ oY {F:Addr→Bool}{H H':Hp}(S:Fz H H'):Fz (bn F H) (bn F H'):=by
 r⟨fun b o h n=>cf (S.1 b o (aU h).1 n) (aU h).2,fun b o h=>?_⟩
 h hb:F b=false∧Rd H b o:=by
   rcases h with h | ⟨u,h⟩
   . e⟨(aU h).2,.inl (aU h).1⟩
   . e⟨(aU h).2,.inr ⟨u,(aU h).1⟩⟩
 rcases S.2 b o hb.2 with h | ⟨u,h⟩
 . e .inl (cf h hb.1)
 . e .inr ⟨u,cf h hb.1⟩
þ KI.frz {G G':Hp}{lk kc kd kt lo d:Addr}{so ns ss:List Str}{h:Hs}{T:List (Int×LK)}(K:KI G lk kc kd kt lo so ns ss h T)(S:Fz G G')(SX:jk d G G')(hd:d≠kc):KI G' lk kc kd kt lo so ns ss h T:=⟨K.r.fz S,SX _ _ (Ne.symm hd) K.kcx,K.ne⟩
þ J38.frz {H H':Hp}{CH CB d:Addr}{A:Ad}{W:Hp}{X:Addr→Bool}{lk kc kd kt lo:Addr}{so ns ss:List Str}{h:Hs}{Tb:List (Int×LK)}(J:J38 H CH CB A W X lk kc kd kt lo so ns ss h Tb)(S:Fz H H')(SX:jk d H H')(hf:fX A W X d=false)(hd:d≠kc):J38 H' CH CB A W X lk kc kd kt lo so ns ss h Tb:=by
 o⟨n1,n2,n3⟩:=dh hf;r⟨J.hh.frz n1 n2 SX,J.ki.frz (oY S) (fun b o hb e=>cf (SX b o hb (aU e).1) (aU e).2) hd,fun b hb e=>?_,J.ka⟩
 cases hH:H b with
 | none=>e J.oc b hb hH
 | some o =>
   have:=SX b o (fun z=>by rw[z,n3] at hb;cases hb) hH;rw[e] at this;cases this
þ lf {F:Addr→Bool}{H:Hp}{kc d:Addr}{ss ns:List Str}{lk:LK}(h:dg (hide (bn F H) kc) d ss ns lk):F d=false∧d≠kc:=by
 o⟨kvs,hR,_⟩:=h
 h k:∀ {o},hide (bn F H) kc d=some o→F d=false∧d≠kc:=fun {o} e=>by
   h hne:d≠kc:=fun z=>by rw[z] at e;unfold hide at e;rw[if_pos rfl] at e;cases e
   rw[aY hne] at e;e⟨(aU e).2,hne⟩
 rcases hR with h | ⟨_,h⟩
 . e k h
 . e k h
noncomputable def Kp0 (ks:List Addr)(A:Ad)(H H':Hp):Prop:=∀ b o,b∉ks→(b≠A.x∧b≠A.d1∧b≠A.ls∧b≠A.db)→H b=some o→H' b=some o
noncomputable def Kp (ks:List Addr)(A:Ad)(W:Hp)(X:Addr→Bool)(H H':Hp):Prop:=∀ b o,b∉ks→(b≠A.x∧b≠A.d1∧b≠A.ls∧b≠A.db)→H b=some o→H' b=some o∨(fX A W X b=false∧∃ u v,o=.dK u∧H' b=some (.frz v (.dK u)))
þ Kp0.frz {ks:List Addr}{A:Ad}{W:Hp}{X:Addr→Bool}{H H1 H':Hp}{d:Addr}(k:Kp0 ks A H H1)(F:Fz H1 H')(SX:jk d H1 H')(hf:fX A W X d=false):Kp ks A W X H H':=fun b o hb na e=>by
 h h1:=k b o hb na e;by_cases hd:b=d
 . subst hd;by_cases ho:∃ u,o=.dK u
   . o⟨u,rfl⟩:=ho
     rcases F.2 b _ (.inl h1) with h2 | ⟨v,h2⟩
     . e .inl h2
     . e .inr ⟨hf,u,v,rfl,h2⟩
   . e .inl (F.1 b o h1 fun u e=>ho ⟨u,e⟩)
 . e .inl (SX b o hd h1)
þ wK {A:Ad}{W W':Hp}{X:Addr→Bool}{H:Hp}{b:Addr}(G:dM H W W')(h:fX A W' X b=false):fX A W X b=false:=by
 o⟨h1,h2,h3⟩:=dh h;r v9 h1 ?_ h3
 cases hw:W b with
 | none=>rfl
 | some o=>rw[G.1 b o hw] at h2;cases h2
þ KI.free {F:Addr→Bool}{H:Hp}{lk kc kd kt lo:Addr}{so ns ss:List Str}{h:Hs}{T:List (Int×LK)}(K:KI (bn F H) lk kc kd kt lo so ns ss h T):∀ k∈[lk,kc,kd,kt],F k=false:=fun k hk=>by
 o⟨psd,hkd,_⟩:=K.r.hkd;o⟨pst,dst,hkt,_⟩:=K.r.hkt;simp only[Az,Aq,or_false] at hk
 rcases hk with rfl | rfl | rfl | rfl
 . e(aU K.r.hlk).2
 . e(aU K.kcx).2
 . e(aU hkd).2
 . e(aU hkt).2
noncomputable def uZ (K:PySem.W.Frag)(CH CB cBN cKn cNS cFu cNC cNB cBB cND cLa cNo:Addr)(cs:List Addr)(dip:Addr):Sp:=fun vs H Q _=>∃ (A:Ad)(W:Hp)(X:Addr→Bool)(lk kc kd kt lo:Addr)(so ns ss:List Str) (h:Hs)(Tb:List (Int×LK))(t:Addr)(dd:Dd),vs=[.ref A.x,.ref lk,.ref t]∧J38 H CH CB A W X lk kc kd kt lo so ns ss h Tb∧H t=some (.tup dd.tup)∧dd.fine H∧dd.luok [lk,kc,kd,kt]∧ss.Nodup∧h.cl.length < 50∧h.dp.length+1 < 1000∧Tb.length+1 < 1000∧∀ H' W' h' Tb',J38 H' CH CB A W' X lk kc kd kt lo so ns ss h' Tb'→Kp [lk,kc,kd,kt] A W X H H'→dM H W W'→h'.dp.length≤h.dp.length+1→Tb'.length≤Tb.length+1→(∀ c∈h'.cl,c∈h.cl∨∃ z,dd=.bring c.1 z)→Q (.bl true) H'
þ qZ:ay ["_law_house", "_law_kept", "_law_deed_here", "_law_due_here", "_law_found"] ["_law_house", "_law_kept", "_law_deed_here"] (ar v5):=®
þ wW {f fDu fDo fTe fIF fAl:Addr}{fd fdDu fdDo fdTe fdIF fdAl:FuncData}{CH CB cBN cKn cNS cFu cNC cNB cBB cND cLa cNo dip:Addr}{cs:List Addr}(F:Fun K "_law_fits" "_law_fits" v5 f fd)
   (T:Txt mg)(hX:Hx K mg CH)(cB:Cls K CB)(O:Own K CB)(mCB:mg "Book"=§CB)(BT:zb K cs dip cBN cKn cNS cNC cNB cBB cND cLa cNo)
   (GDu:Cl P w K mg base CX0 5 "_law_due" ["_law_kept", "_law_deed_here"] (xo K) fDu fdDu)
   (GDo:Cl P w K mg base (CX1 P w) 9 "_law_do" ["_law_thing", "_law_deed_here"] (yY (vb K CH CB cBN cKn cNS cFu cNC cNB cBB cND cLa cNo) K cs dip) fDo fdDo)
   (GTe:Cl P w K mg base CX0 3 "_law_tells" ["_law_book", "_law_order", "_law_tables_here"] (mY K CB) fTe fdTe)
   (GIF:Cl P w K mg base CX0 1 "_law_in_force" ["_law_kept", "_law_day_here"] gk fIF fdIF)
   (GAl:Cl P w K mg base CX0 3 "_law_alike" ["_law_found", "_law_due_here"] (eU (eU (eU oI))) fAl fdAl) :
   aW P w K mg base CX0 10 f fd ["_law_house", "_law_kept", "_law_deed_here"] (uZ K CH CB cBN cKn cNS cFu cNC cNB cBB cND cLa cNo cs dip):=by
 fo qZ;o⟨A0,W,X,lk,kc,kd,kt,lo,so,ns,ss,h,Tb,t,dd,rfl,J,htt,hf,hlu,hsn,hcl50,hdl1,htl1,q⟩:=h;h hr1:=hr.mono (j:=1) (by m);h hr3:=hr.mono (j:=3) (by m);h hr5:=hr.mono (j:=5) (by m);h hr9:=hr.mono (j:=9) (by m)
 r⟨_,(aj (aL (i:=3) qZ.nd rfl (Or.inl rfl) (pC GDu hr5 aA (aa (pv 1) (aa (pv 2) ae))))
   (aj (aL (i:=4) qZ.nd rfl (Or.inl rfl) (pC GDo hr9 gA (aa (pv 0) (aa (pv 2) ae))))
   (aj (aC (PW.pt (iK (ap bO (am aK (pv 2) ag ¿) aB (ax _)) (gj (ap uw (pv 3) kF (ax _))))) (ah (aq (mO (al su (by rfl) T.isi (by d) (aa (pv 4) (aa (bf (v:=.ref CB) rfl mCB rfl) ae))) (qj (pC GTe hr3 aA (aa (pv 4) (aa (am ak (pv 1) ag ¿) (aa (pC GIF hr1 aA (aa (pv 1) (aa (am aK (pv 2) ag ¿) ae))) ae)))))))) ao)
   (ah (aq (pC GAl hr3 aA (aa (pv 4) (aa (pv 3) ae)))))))),?_⟩
 try dsimp only[aE,aO]
 h hs:=aM;h hoF:=J.hh.occ J.oc;h flk:=aU J.ki.r.hlk;h fkc:=aU J.ki.kcx;o⟨psd,hkd,_⟩:=J.ki.r.hkd;o⟨pst,dst,hkt,_⟩:=J.ki.r.hkt;h fkd:=aU hkd;h fkt:=aU hkt
 h hks:∀ k∈[lk,kc,kd,kt],(k≠A0.x∧k≠A0.d1∧k≠A0.ls∧k≠A0.db)∧W k=none:=fun k hk=>by
   simp only[Az,Aq,or_false] at hk
   rcases hk with rfl | rfl | rfl | rfl
   . e⟨(dh flk.2).1,(dh flk.2).2.1⟩
   . e⟨(dh fkc.2).1,(dh fkc.2).2.1⟩
   . e⟨(dh fkd.2).1,(dh fkd.2).2.1⟩
   . e⟨(dh fkt.2).1,(dh fkt.2).2.1⟩
 h htk:t∉[lk,kc,kd,kt]:=fun hm=>by
   simp only[Az,Aq,or_false] at hm
   rcases hm with rfl | rfl | rfl | rfl
   . rw[flk.1] at htt;cases htt
   . rw[fkc.1] at htt;cases htt
   . rw[fkd.1] at htt;cases htt
   . rw[fkt.1] at htt;cases htt
 h hdk:∃ cD,dd.tup=.str dd.nm::cD:=by cases dd<;>e⟨_,rfl⟩
 o⟨cD,hdt⟩:=hdk;cu ∃ v1,σ'=[§A0.x,§lk,§t,some v1,none]∧(((∃ w t1,dd.bad ns so h w∧v1=.ref t1∧af H H'∧H' t1=some (.tup (cU w))))∨(dd.good ns so h∧Owx [lk,kc,kd,kt] H H'∧DvN H H' v1 (dd.val h)∧KI (bn (fX A0 W X) H') lk kc kd kt lo so ns ss (dd.step h) (dd.tb so Tb)))
 . w;e⟨fX A0 W X,lk,kc,kd,kt,lo,so,ns,ss,h,Tb,t,dd,rfl,htt,J.ki,hoF,J.ka,hf,fun t' H' w hb S _ ht=>hR _ _ ⟨_,rfl,.inl ⟨w,t',hb,rfl,S,ht⟩⟩,fun hg v H' O dv K=>hR _ _ ⟨v,rfl,.inr ⟨hg,O,dv,K⟩⟩⟩
 rintro σ1 H1 ⟨v1,rfl,hc1⟩
 h O1:Owx [lk,kc,kd,kt] H H1:=by
   rcases hc1 with ⟨_,_,_,_,S,_⟩ | ⟨_,O,_⟩
   . e Owx.same S
   . e O
 h hh1:=J.hh.own O1 hks;h htt1:=O1 _ _ htk htt
 h hf1:dd.fine H1:=by
   cases dd with
   | change b lu os d=>e⟨hf.1,O1 _ _ hlu hf.2.1,hf.2.2⟩
   | bring c z=>e hf
   | dip c b d=>e hf
   | back d=>trivial
   | shade c d=>e hf
   | trail c d=>e hf
   | dips d=>trivial
   | book d=>trivial
 cu ∃ v2,σ'=[§A0.x,§lk,§t,some v1,some v2]∧H' t=some (.tup dd.tup)∧Kp0 [lk,kc,kd,kt] A0 H H'∧(((∃ w t1 t2,dd.bad ns so h w∧v1=.ref t1∧v2=.ref t2∧af H H'∧H' t1=some (.tup (cU w))∧H' t2=some (.tup (cU w))))∨(dd.good ns so h∧∃ W' h',dM H W W'∧o0 H' v1 (dd.val h)∧zl H' W' CB h v2 dd∧aJ H' CH CB A0 W' ss h'∧bK ss ns h'∧pi h h' dd∧eO X H'∧KI (bn (fX A0 W' X) H') lk kc kd kt lo so ns ss (dd.step h) (dd.tb so Tb)))
 . w;r⟨_,_,rfl,fun H1' E' S1' hE=>?_⟩;h hh1':=af.house S1' hh1;h htt1':=S1' _ _ htt1;r⟨A0,W,ss,ns,so,h,t,dd,rfl,hh1',J.ka.ho,htt1',sU hf1 S1',J.ka.pm,hsn,J.ka.dl,hcl50,fun C w H2 hb he S2=>?_,fun hg v H2 W' h' S2 G2 hh2 ho2 hst hv=>?_⟩
   . o⟨bits,hB,htx⟩:=BT.bits C w he;r hE C bits H2 hB fun t2 H3 S3 ht2=>?_
     rcases hc1 with ⟨w1,t1,hb1,rfl,S1,ht1⟩ | ⟨hg,_⟩
     . have:=Dd.one hb1 hb;subst this;h SS:=S1.trans (S1'.trans (S2.trans S3));e hR _ _ ⟨_,rfl,SS _ _ htt,fun b o _ _ e=>SS b o e,.inl ⟨w1,t1,t2,hb1,rfl,rfl,SS,(S1'.trans (S2.trans S3)) _ _ ht1,by rw[ht2,htx];rfl⟩⟩
     . e(Dd.not hb hg).elim
   . rcases hc1 with ⟨w1,t1,hb1,_⟩ | ⟨_,O,dv,K⟩
     . e(Dd.not hb1 hg).elim
     . h K3:=(K.same (aQ S1')).same (rH S2 G2)
       r hR _ _ ⟨v,rfl,a9 _ _ (S2 _ _ (mQ hh1' htt1')),fun b o hb na e=>a9 _ _ (S2 b o (fb (S1' _ _ (O b o hb e)) na.1 na.2.1 na.2.2.1 na.2.2.2)),.inr ⟨hg,W',h',⟨G2.1,fun b o hw e=>by
         by_cases hb:b∈[lk,kc,kd,kt]
         . e(dh (K3.free b hb)).2.1
         . e G2.2 b o hw (S1' _ _ (O b o hb e))⟩,dv.keep J.hh hh1 ((cj S1').trans S2),hv,hh2,ho2,hst,fun b hb e=>?_,K3⟩⟩
       cases hH:H b with
       | none=>e J.oc b hb hH
       | some o =>
         h hbk:b∉[lk,kc,kd,kt]:=fun hm=>by
           simp only[Az,Aq,or_false] at hm
           rcases hm with rfl | rfl | rfl | rfl
           . rw[(dh flk.2).2.2] at hb;cases hb
           . rw[(dh fkc.2).2.2] at hb;cases hb
           . rw[(dh fkd.2).2.2] at hb;cases hb
           . rw[(dh fkt.2).2.2] at hb;cases hb
         h h1:=S1' _ _ (O1 b o hbk hH);by_cases hA:b≠A0.x∧b≠A0.d1∧b≠A0.ls∧b≠A0.db
         . have:=a9 _ _ (S2 b o (fb h1 hA.1 hA.2.1 hA.2.2.1 hA.2.2.2));rw[e] at this;cases this
         . e hA ⟨(fun z=>by rw[z,hh2.ins] at e;cases e),(fun z=>by rw[z,hh2.cl] at e;cases e),(fun z=>by o⟨ps,h1,_⟩:=hh2.dp;rw[z,h1] at e;cases e),(fun z=>by o⟨rs,h1,_⟩:=hh2.bk;rw[z,h1] at e;cases e)⟩
 rintro σ2 H2 ⟨v2,rfl,htt2,kp,hc2⟩
 h hat:atI dd.tup 0=¢dd.nm:=by
   rw[hdt];e bU (j:=0) rfl
 rcases hc2 with ⟨w1,t1,t2,hb,rfl,rfl,S,ht1,ht2⟩ | ⟨hg,W',h',gr,dv,hv,hh2,ho2,hst,oc2,K2⟩
 . cu σ'=[§A0.x,§lk,§t,§t1,§t2]∧H'=H2
   . w;r⟨_,SqT.of htt2,_,hat,rfl,az (fun _=>?_) (fun _=>hR _ _ ⟨rfl,rfl⟩)⟩;e az (fun e=>by cases e) (fun _=>hR _ _ ⟨rfl,rfl⟩)
   rintro σ3 H3 ⟨rfl,rfl⟩;w;e qr ht2 ht1 (by show 3≤1000;decide) zH (q _ W h Tb (J.same S) (fun b o _ _ e=>.inl (S b o e)) (dM.refl _ _) (by m) (by m) (fun c hc=>.inl hc))
 . o⟨ka2,l1,l2,l3⟩:=J.ka.step hg hst ho2 hdl1 htl1 hcl50;o⟨e1,e2,e3⟩:=hst.eq;h J2:J38 H2 CH CB A0 W' X lk kc kd kt lo so ns ss h' (dd.tb so Tb):=⟨hh2,K2.bk e1 e2 e3,oc2,ka2⟩;by_cases hbk:∃ d,dd=.book d
   . o⟨d,rfl⟩:=hbk;o⟨r,rfl,hbk⟩:=hv;cases dv;cases hst;h hbk2:=af.book hh2.up hbk;o⟨Bd,hNd,hZd⟩:=J2.ka.ho.on d;r cY (fun σ' H'=>False) (fun R hR=>?_) (fun _ _ h=>h.elim);w;o⟨dx,tt,dtab,so',hins,_⟩:=id hbk2;r⟨_,SqT.of htt2,_,rfl,rfl,az (fun _=>⟨_,cz.ins hins cB O.ha O.hn O.ht O.hm,true,oP,az (fun _=>?_) (fun h=>absurd rfl h)⟩) (fun h=>absurd rfl h)⟩;r⟨_,SqL.of (au _ _ J2.ki.r.hlk),_,rfl,_,SqT.of htt2,_,rfl,bn (fX A0 W' X) H2,lk,kc,kd,kt,lo,so,ns,ss,h,Tb,d,rfl,au,J2.ki.r,J2.ka.TO,hg.1,fun d' hG=>?_⟩;o⟨hfd,hdk⟩:=lf hG;h hsp:=gg J.ka.ho J.ka.ssn d;e⟨r,lo,d',_,so,ns,_,_,rfl,hbk2,Bd,SqL.of (au _ _ J2.ki.r.hlo),J.ka.pm.trans hsp.symm,J.ka.srt,(Fz.tabG (af.fz (bM.trans au)) hG).perm hsp,jJ J.ka.ho J.ka.nsn d,fun b hb z hz=>eD z Bd.bnd hb,fun H' F SX=>q _ W' _ _ (J2.frz F SX hfd hdk) (kp.frz F SX (wK gr hfd)) gr l1 l2 l3⟩
   . h hv2:o0 H2 v2 (dd.val h):=by
       cases dd with
       | book d=>e absurd ⟨d,rfl⟩ hbk
       | bring c z=>e hv
       | dip c b d=>e hv
       | back d=>e hv
       | change b lu os d=>e hv
       | shade c d=>e hv
       | trail c d=>e hv
       | dips d=>e hv
     h hnm:¬dd.nm=¶"book":=by
       cases dd with
       | book d=>e absurd ⟨d,rfl⟩ hbk
       | bring c z=>show ¬¶"bring"=¶"book";d
       | dip c b d=>show ¬¶"dip"=¶"book";d
       | back d=>show ¬¶"back"=¶"book";d
       | change b lu os d=>show ¬¶"change"=¶"book";d
       | shade c d=>show ¬¶"shade"=¶"book";d
       | trail c d=>show ¬¶"trail"=¶"book";d
       | dips d=>show ¬¶"dips"=¶"book";d
     cu σ'=[§A0.x,§lk,§t,some v1,some v2]∧H'=H2
     . w;e⟨_,SqT.of htt2,_,hat,rfl,az (fun h=>absurd (V.str.inj h) hnm) (fun _=>hR _ _ ⟨rfl,rfl⟩)⟩
     rintro σ3 H3 ⟨rfl,rfl⟩;w;e gS hv2 dv (Dd.vlen J.ka.ho.dl) (q _ W' h' _ J2 (fun b o hb na e=>.inl (kp b o hb na e)) gr l1 l2 l3)
structure JR (H:Hp)(CH CB:Addr)(A:Ad)(W:Hp)(X:Addr→Bool)(lk kc kd kt lo:Addr)(so ns ss:List Str) (h:Hs)(Tb:List (Int×LK)):Prop where
 hh:aJ H CH CB A W ss h
 kr:KR (bn (fX A W X) H) lk kc kd kt lo so ns ss h Tb
 oc:eO X H
 ka:nM ns so ss h Tb
noncomputable def Fx (Y:Addr→Bool)(H H':Hp):Prop:=Fz H H'∧∀ b o,Y b=true→H b=some o→H' b=some o
þ Fx.of {Y:Addr→Bool}{H H':Hp}(S:af H H'):Fx Y H H':=⟨af.fz S,fun b o _ e=>S b o e⟩
þ Fx.trans {Y:Addr→Bool}{H H' H'':Hp}(a:Fx Y H H')(b:Fx Y H' H''):Fx Y H H'':=⟨a.1.trans b.1,fun x o hy e=>b.2 x o hy (a.2 x o hy e)⟩
þ Fx.ofX {Y:Addr→Bool}{H H':Hp}{d:Addr}(F:Fz H H')(S:jk d H H')(hf:Y d=false):Fx Y H H':=⟨F,fun b o hy e=>S b o (fun z=>by rw[z,hf] at hy;cases hy) e⟩
section
variable {H H':Hp}{CH CB d:Addr}{A:Ad}{W:Hp}{X:Addr→Bool}{lk kc kd kt lo:Addr}{so ns ss:List Str}{h:Hs}{Tb:List (Int×LK)}
þ J38.jr (J:J38 H CH CB A W X lk kc kd kt lo so ns ss h Tb):JR H CH CB A W X lk kc kd kt lo so ns ss h Tb:=⟨J.hh,J.ki.r,J.oc,J.ka⟩
þ JR.same (J:JR H CH CB A W X lk kc kd kt lo so ns ss h Tb)(S:af H H'):JR H' CH CB A W X lk kc kd kt lo so ns ss h Tb :=
 ⟨af.house S J.hh,J.kr.same (aQ S),J.oc.same S,J.ka⟩
þ JR.frz (J:JR H CH CB A W X lk kc kd kt lo so ns ss h Tb)(S:Fz H H')(SX:jk d H H')(hf:fX A W X d=false):JR H' CH CB A W X lk kc kd kt lo so ns ss h Tb:=by
 o⟨n1,n2,n3⟩:=dh hf;r⟨J.hh.frz n1 n2 SX,J.kr.fz (oY S),fun b hb e=>?_,J.ka⟩
 cases hH:H b with
 | none=>e J.oc b hb hH
 | some o =>
   have:=SX b o (fun z=>by rw[z,n3] at hb;cases hb) hH;rw[e] at this;cases this
end
noncomputable def vd (K:PySem.W.Frag)(CH CB:Addr):Sp:=fun vs H Q _=>∃ (A:Ad)(W:Hp)(X:Addr→Bool)(lk kc kd kt lo:Addr)(so ns ss:List Str) (h:Hs)(Tb:List (Int×LK))(ld:Addr)(L:List Int),vs=[.ref A.x,.ref lk,.ref ld]∧JR H CH CB A W X lk kc kd kt lo so ns ss h Tb∧H ld=some (.lst (L.map V.int))∧L.length≤100∧(∀ d∈L,1≤d∧d≤400)∧(∀ c∈h.cl,Shw c.1)∧∀ H',Fx (fX A W X) H H'→JR H' CH CB A W X lk kc kd kt lo so ns ss h Tb→Q (.bl true) H'
þ pK:ay ["_law_house", "_law_kept", "_law_days_here", "_law_day_here", "_law_cloth"] ["_law_house", "_law_kept", "_law_days_here"] (ar u6):=®
þ wT {f fHL fHY fHP fHB fHT fHS fTx fAl fDpD fTe fIF fTD fSD:Addr}{fd fdHL fdHY fdHP fdHB fdHT fdHS fdTx fdAl fdDpD fdTe fdIF fdTD fdSD:FuncData}{CH CB cNC cND:Addr}(F:Fun K "_law_seen" "_law_seen" u6 f fd)
   (T:Txt mg)(hX:Hx K mg CH)
   (GHL:Cm P w K mg base (CX1 P w) 1 CH "cloths" ["self"] (lL CH CB) fHL fdHL)
   (GHY:Cm P w K mg base (CX1 P w) 1 CH "today" ["self"] (kL CH CB) fHY fdHY)
   (GHP:Cm P w K mg base (CX1 P w) 2 CH "dips" ["self", "day"] (gT CH CB cND) fHP fdHP)
   (GHB:Cm P w K mg base (CX1 P w) 2 CH "book" ["self", "day"] (ia CH CB cND) fHB fdHB)
   (GHT:Cm P w K mg base (CX1 P w) 2 CH "trail" ["self", "cloth", "day"] (ip CH CB cNC cND) fHT fdHT)
   (GHS:Cm P w K mg base (CX1 P w) 3 CH "shade" ["self", "cloth", "day"] (gX CH CB cNC cND) fHS fdHS)
   (GTx:Cl P w K mg base CX0 1 "_law_texts" ["_law_found", "_law_due_here"] (mH K) fTx fdTx)
   (GAl:Cl P w K mg base CX0 3 "_law_alike" ["_law_found", "_law_due_here"] (eU (eU (eU oI))) fAl fdAl)
   (GDpD:Cl P w K mg base CX0 1 "_law_dips_due" ["_law_kept", "_law_day_here"] gl fDpD fdDpD)
   (GTe:Cl P w K mg base CX0 3 "_law_tells" ["_law_book", "_law_order", "_law_tables_here"] (mY K CB) fTe fdTe)
   (GIF:Cl P w K mg base CX0 1 "_law_in_force" ["_law_kept", "_law_day_here"] gk fIF fdIF)
   (GTD:Cl P w K mg base CX0 2 "_law_trail_due" ["_law_kept", "_law_cloth", "_law_day_here"] fu fTD fdTD)
   (GSD:Cl P w K mg base CX0 3 "_law_shade_due" ["_law_kept", "_law_cloth", "_law_day_here"] fc fSD fdSD) :
   aW P w K mg base CX0 5 f fd ["_law_house", "_law_kept", "_law_days_here"] (vd K CH CB):=by
 fo pK;o⟨A0,W,X,lk,kc,kd,kt,lo,so,ns,ss,h,Tb,ld,L,rfl,J,hld,hL,hLd,hcS,q⟩:=h;h cH:=hX.c;h hr1:=hr.mono (j:=1) (by m);h hr2:=hr.mono (j:=2) (by m);h hr3:=hr.mono (j:=3) (by m)
 r⟨_,(aj (aC (PW.pt (em (bW (bF (pC GTx hr1 aA (aa (pM0 (pv 0) cH GHL hr1 gA) (aa (al (dW rfl) (by rfl) T.sorted (by d) (aa (am ak (pv 1) ag ¿) ae)) ae))))) (cM (bW (bF (pC GAl hr3 aA (aa (pM0 (pv 0) cH GHY hr1 gA) (aa (am ak (pv 1) ag ¿) ae)))))))) (ah (aq cx)) ao)
   (aj (bC PassesOwn.never rfl (ba (pv 2)) (aw (i:=3) pK.nd rfl (Or.inl rfl)) (aj (aC (bW (bF (pC GAl hr3 aA (aa (pM (pv 0) cH GHP hr2 gA (aa (pv 3) ae)) (aa (pC GDpD hr1 aA (aa (pv 1) (aa (pv 3) ae))) ae))))) (ah (aq cx)) ao)
   (aj (aC (bW (bF (pC GTe hr3 aA (aa (pM (pv 0) cH GHB hr2 gA (aa (pv 3) ae)) (aa (am ak (pv 1) ag ¿) (aa (pC GIF hr1 aA (aa (pv 1) (aa (pv 3) ae))) ae)))))) (ah (aq cx)) ao)
   (ah (bC PassesOwn.never rfl (mz (am ak (pv 1) ag ¿)) (aw (i:=4) pK.nd rfl (Or.inl rfl)) (aN (aC (bW (bF (pC GAl hr3 aA (aa (pM (pv 0) cH GHT hr2 gA (aa (pv 4) (aa (pv 3) ae))) (aa (pC GTD hr2 aA (aa (pv 1) (aa (pv 4) (aa (pv 3) ae)))) ae))))) (ah (aq cx)) ao)
   (ah (aC (bW (bF (pC GAl hr3 aA (aa (pM (pv 0) cH GHS hr3 gA (aa (pv 4) (aa (pv 3) ae))) (aa (pC GSD hr3 aA (aa (pv 1) (aa (pv 4) (aa (pv 3) ae)))) ae))))) (ah (aq cx)) ao))))))))
   (ah (aq cx)))),?_⟩
 try dsimp only[aE,aO]
 h hs:=aM;h lko:∀ {m:Str}{dd:Int},(m==¶"first_shades")=false→(m==¶"day_now")=false→(m==¶"standing")=false→(m==¶"books_from")=false→Af m (hfs A0 dd)=none:=fun h1 h2 h3 h4=>d9 h1 h2 h3 h4
 h hcll:(clV h.cl).length=h.cl.length:=by unfold clV;rw[be]
 h hkeys:(clV h.cl).map (·.1)=(h.cl.map (·.1)).map Sum.inr:=by unfold clV;rw[Ao,Ao];rfl
 h hdl:=J.ka.ho.dl
 h hkc64:(h.cl.map (·.1)).length < 64:=by rw[be];have:=J.ka.cl60;m
 cu σ'=[§A0.x,§lk,§ld,none,none]∧af H H'
 . w;r⟨A0.dx,_,J.hh.ins,lko (by d) (by d) (by d) (by d),A0,W,ss,h,rfl,J.hh,by have:=J.ka.cl60;m,fun p os hp hpm hso=>?_⟩;h S1:af H (upd H p (.lst (os.map V.str))):=cK (af.refl _) hp;generalize hG1:upd H p (.lst (os.map V.str))=G1 at S1 ⊢
   h hp1:G1 p=some (.lst (os.map V.str)):=by rw[←hG1];e ac
   h J1:=J.same S1;r⟨_,SqL.of (au _ _ J1.kr.hlk),_,rfl,kc,rfl,h.cl.map (·.1),clV h.cl,af.rd au J1.kr.hkc,hkeys,hkc64,fun p2 ss' hp2 hpm2 hs2=>?_⟩;h he:ss'=os:=cA hs2 hso (hpm2.trans hpm.symm);subst he;h S2:af G1 (upd G1 p2 (.lst (ss'.map V.str))):=cK (af.refl _) hp2;h J2:=J1.same S2;r⟨p,p2,ss',rfl,S2 _ _ hp1,SqL.of ac,by rw[hpm.length_eq];m,true,rfl,az (fun h=>by cases h) (fun _=>?_)⟩;r⟨A0.dx,_,J2.hh.ins,lko (by d) (by d) (by d) (by d),A0,W,ss,h,rfl,J2.hh,_,SqL.of (au _ _ J2.kr.hlk),_,rfl,_,_,rfl,.inr (.inl ⟨_,_,rfl,rfl,?_⟩)⟩;e⟨_,rfl,az (fun hc=>by simp at hc) (fun _=>hR _ _ ⟨rfl,S1.trans S2⟩)⟩
 rintro σ1 H1 ⟨rfl,S1⟩;h J1:=J.same S1;cu ∃ o3 o4,σ'=[§A0.x,§lk,§ld,o3,o4]∧Fx (fX A0 W X) H1 H'∧JR H' CH CB A0 W X lk kc kd kt lo so ns ss h Tb
 . w;r⟨⟨_,SqL.of (S1 _ _ hld)⟩,?_⟩;r bo (H0:=fun b=>if b=ld then some (.lst (L.map V.int)) else none) (aH (SqL.of (if_pos rfl))) (fun i σ' H'=>∃ o3 o4,σ'=[§A0.x,§lk,§ld,o3,o4]∧Fx (fX A0 W X) H1 H'∧JR H' CH CB A0 W X lk kc kd kt lo so ns ss h Tb) ⟨none,none,rfl,Fx.of (af.refl _),J1⟩ (fun _ _ _ _ ⟨_,_,_,hf,_⟩=>fun b o e=>?_) ?_ (fun σ H' h=>hR _ _ h)
   . dsimp only at e
     split at e
     . rename_i hb;cases e;rw[hb];e hf.1.1 _ _ (S1 _ _ hld) (fun _ e=>by cases e)
     . cases e
   rintro i x σ H2 hi hx ⟨o3,o4,rfl,F2,J2⟩ R2 hR2;rw[zK] at hx;o⟨d,hd,rfl⟩:=Option.map_eq_some_iff.mp hx;h hdd:=hLd d (zO hd);cu σ'=[§A0.x,§lk,§ld,£d,o4]∧af H2 H'
   . w;r⟨A0.dx,_,J2.hh.ins,lko (by d) (by d) (by d) (by d),A0,W,ss,ns,h,d,rfl,J2.hh,J.ka.ho,fun _ l ps H3 S3 hn3 hl3 hT3=>?_,fun hn=>absurd hdd hn⟩;h J3:=J2.same S3;r⟨lk,kc,kd,kt,lo,so,ns,ss,h,Tb,d,rfl,J3.kr.same au,by m,fun l2 ps2 H4 S4 hn4 hl4 hT4=>?_⟩;r gS (dv:=.dips (bg h.dp d)) ⟨l,ps,rfl,S4 _ _ hl3,hT3.same S4⟩ ⟨l2,ps2,rfl,hl4,hT4⟩ (Dd.vlen (dd:=.dips d) hdl) ?_;e⟨true,rfl,az (fun h=>by cases h) (fun _=>hR _ _ ⟨rfl,S3.trans S4⟩)⟩
   rintro σ3 H3 ⟨rfl,S3⟩;h J3:=J2.same S3;cu σ'=[§A0.x,§lk,§ld,£d,o4]∧Fx (fX A0 W X) H3 H'∧JR H' CH CB A0 W X lk kc kd kt lo so ns ss h Tb
   . w;r⟨A0.dx,_,J3.hh.ins,lko (by d) (by d) (by d) (by d),A0,W,ss,ns,h,d,rfl,J3.hh,J.ka.ho,fun _ r H4 S4 hbk=>?_,fun hn=>absurd hdd hn⟩;h J4:=J3.same S4;h hbk2:=af.book J4.hh.up hbk;o⟨Bd,hNd,hZd⟩:=J4.ka.ho.on d;r⟨_,SqL.of (au _ _ J4.kr.hlk),_,rfl,bn (fX A0 W X) H4,lk,kc,kd,kt,lo,so,ns,ss,h,Tb,d,rfl,au,J4.kr,J4.ka.TO,hdd.1,fun d' hG=>?_⟩;o⟨hfd,hdk⟩:=lf hG;h hsp:=gg J4.ka.ho J4.ka.ssn d;r⟨r,lo,d',_,so,ns,_,_,rfl,hbk2,Bd,SqL.of (au _ _ J4.kr.hlo),J4.ka.pm.trans hsp.symm,J4.ka.srt,(Fz.tabG (af.fz (bM.trans au)) hG).perm hsp,jJ J4.ka.ho J4.ka.nsn d,fun b hb z hz=>eD z Bd.bnd hb,fun H' F SX=>?_⟩;h J5:=J4.frz F SX hfd;e⟨true,rfl,az (fun h=>by cases h) (fun _=>hR _ _ ⟨rfl,(Fx.of S4).trans (Fx.ofX F SX hfd),J5⟩)⟩
   rintro σ4 H4 ⟨rfl,F4,J4⟩;w;r⟨_,SqL.of (au _ _ J4.kr.hlk),_,rfl,kc,rfl,clV h.cl,ph (W:=fun o HF=>t6 (Itd kc o _) _ _ _ _ HF) (af.rd au J4.kr.hkc) fun o HF hHF FF X2=>?_⟩
   h hfk:fX A0 W X kc=false:=by
     rcases J4.kr.hkc with h | ⟨u,h⟩
     . e(aU h).2
     . e(aU h).2
   h J5:=J4.frz FF X2 hfk;r bo (H0:=HF) (fL hHF) (fun _ σ' H''=>∃ o5,σ'=[§A0.x,§lk,§ld,£d,o5]∧af HF H'') ⟨o4,rfl,af.refl _⟩ (fun _ _ _ _ ⟨_,_,h⟩=>h) ?_ (fun σ H' ⟨o5,e,S⟩=>hR2 _ _ ⟨_,_,e,((F2.trans (Fx.of S3)).trans F4).trans ((Fx.ofX FF X2 hfk).trans (Fx.of S)),J5.same S⟩);rintro j x σ H5 hj ⟨k,v,hk,rfl⟩ ⟨o5,rfl,S5⟩ R3 hR3
   obtain⟨c1,hc1,hkc⟩:∃ c,c∈h.cl∧(Sum.inr c.1,V.str c.2)=(k,v):=by
     unfold clV at hk;rw[zK] at hk;o⟨c,hc,e⟩:=Option.map_eq_some_iff.mp hk;e⟨c,zO hc,e⟩
   cases hkc;h hcm:c1.1∈h.cl.map (·.1):=Aj hc1;h hcs:=hcS c1 hc1;h J6:=J5.same S5;w;r⟨A0.dx,_,J6.hh.ins,lko (by d) (by d) (by d) (by d),A0,W,ss,ns,h,c1.1,d,rfl,J6.hh,J.ka.ho,hcs,fun _ _ l ps H7 S7 hn7 hl7 hT7=>?_,fun hn=>absurd hcm hn,fun _ hn=>absurd hdd hn⟩;h J7:=J6.same S7;r⟨lk,kc,kd,kt,lo,so,ns,ss,h,Tb,c1.1,d,rfl,J7.kr.same au,J.ka.TO,J.ka.HR,J.ka.ho,J.ka.hbn,hcm,fun l2 ps2 H8 S8 hn8 hl8 hT8=>?_⟩;h J8:=J7.same S8;r gS (dv:=.trail (aZ h.dp c1.1 d)) ⟨l,ps,rfl,S8 _ _ hl7,hT7.same S8⟩ ⟨l2,ps2,rfl,hl8,hT8⟩ (Dd.vlen (dd:=.trail c1.1 d) hdl) ?_;r⟨true,rfl,az (fun h=>by cases h) (fun _=>?_)⟩;r⟨A0.dx,_,J8.hh.ins,lko (by d) (by d) (by d) (by d),A0,W,ss,ns,h,c1.1,d,rfl,J8.hh,J.ka.ho,hcs,fun _ _ H9 S9=>?_,fun hn=>absurd hcm hn,fun _ hn=>absurd hdd hn⟩;h J9:=J8.same S9;r⟨lk,kc,kd,kt,lo,so,ns,ss,h,Tb,c1.1,d,rfl,J9.kr.same au,J.ka.TO,J.ka.HR,J.ka.ho,J.ka.hbn,hcm,fun H10 S10=>?_⟩;r gS (dv:=.str (aX h c1.1 d)) rfl rfl (AA _) ?_;e⟨true,rfl,az (fun h=>by cases h) (fun _=>hR3 _ _ ⟨_,rfl,S5.trans (S7.trans (S8.trans (S9.trans S10)))⟩)⟩
 rintro σ2 H2 ⟨o3,o4,rfl,F2,J2⟩;w;e q H2 ((Fx.of S1).trans F2) J2
þ zw (xs:List V):∃ k,iA xs (some (-3)) none=xs.drop k∧xs.length≤k+3:=by
 r⟨HT.sIx xs.length 0 (some (-3)),?_,?_⟩
 . unfold iA;rw[AC];rw[AU,HT.sIx_none];e zN _
 . show xs.length≤(if(-3:Int) < 0 then((-3:Int)+(xs.length:Int)).toNat else min (-3:Int).toNat xs.length)+3;rw[if_pos (by decide)];m
noncomputable def vc:Sp:=fun vs H Q _=>∃ (lk kc kd kt lo:Addr)(so ns ss:List Str) (h:Hs)(Tb:List (Int×LK)),vs=[.ref lk]∧KR H lk kc kd kt lo so ns ss h Tb∧(1≤h.day∧h.day≤400)∧(∀ e∈h.dp,1≤e.1∧e.1≤400)∧(∀ e∈Tb,1≤e.1∧e.1≤400)∧∀ l (L:List Int) H',af H H'→H l=none→H' l=some (.lst (L.map V.int))→L.length≤14→(∀ d∈L,1≤d∧d≤400)→Q (.ref l) H'
þ gI:ay ["_law_kept", "_law_days_here", "_law_on", "_law_who", "_law_bath", "_law_since", "_law_tables_here"] ["_law_kept"] (ar vo):=®
þ xa {f:Addr}{fd:FuncData}(F:Fun K "_law_days" "_law_days" vo f fd)
   (T:Txt mg)(TM:mg "max"=none) :
   aW P w K mg base CX0 1 f fd ["_law_kept"] vc:=by
 fo gI;o⟨lk,kc,kd,kt,lo,so,ns,ss,h,Tb,rfl,KR0,hday,hdp,hTb,q⟩:=h
 r⟨_,(aj (aL (i:=1) gI.nd rfl (Or.inl rfl) (bq (aa ag (aa ag (aa (am ak (pv 0) ag ¿) (aa (al (lU rfl) (by rfl) TM (by d) (aa ag (aa (aI mV (am ak (pv 0) ag ¿) ag) ae))) (aa (al (l8 rfl) (by rfl) T.min (by d) (aa ag (aa (aI cp (am ak (pv 0) ag ¿) ag) ae))) ae)))))))
   (aj (bC PassesOwn.never rfl (ba (eJ il (am ak (pv 0) ag ¿) (fF (eW dC ag)) ig)) (cC (n:=3) rfl (aG (aw (i:=2) gI.nd rfl (Or.inl rfl)) (aG (aw (i:=3) gI.nd rfl (Or.inl rfl)) (aG (aw (i:=4) gI.nd rfl (Or.inl rfl)) bV)))) (ah (aR (eK Ak Aw Ax bT (pv 1) (aa (pv 2) ae)))))
   (aj (bC PassesOwn.never rfl (ba (eJ il (am ak (pv 0) ag ¿) (fF (eW dC ag)) ig)) (cC (n:=2) rfl (aG (aw (i:=5) gI.nd rfl (Or.inl rfl)) (aG (aw (i:=6) gI.nd rfl (Or.inl rfl)) bV))) (aj (aR (eK Ak Aw Ax bT (pv 1) (aa (pv 5) ae)))
   (ah (aR (eK Ak Aw Ax bT (pv 1) (aa (al (lU rfl) (by rfl) TM (by d) (aa ag (aa (aI mV (pv 5) ag) ae))) ae))))))
   (ah (aq (al (nr rfl) (by rfl) T.sorted (by d) (aa (cw (sv rfl) (by rfl) T.set (by d) (aa (pv 1) ae)) ae))))))),?_⟩
 try dsimp only[aE,aO]
 h hs:=aM;o⟨h1,h2,h3,⟨ps,h4,h5⟩,⟨qs,ds,h6,h7,h8,h9⟩⟩:=id KR0;cu ∃ (la:Addr)(L:List Int),σ'=[§lk,§la,none,none,none,none,none]∧af H H'∧H la=none∧H' la=some (.lst (L.map V.int))∧L.length=5∧∀ d∈L,(1:Int)≤d∧d≤400
 . w;r⟨_,SqL.of h1,_,rfl,_,SqL.of h1,_,rfl,_,rfl,_,SqL.of h1,_,rfl,_,rfl,by m,fun p hp=>hR _ _ ⟨p,[1,400,h.day,if h.day - 1 > 1 then h.day - 1 else 1,if h.day+1 < 400 then h.day+1 else 400],rfl,cK (af.refl _) hp,hp,ac,rfl,fun d hd=>?_⟩⟩;simp only[Az,Aq,or_false] at hd
   rcases hd with rfl | rfl | rfl | rfl | rfl
   . decide
   . decide
   . e hday
   . split<;>m
   . split<;>m
 rintro σ1 H1 ⟨la,L1,rfl,S1,hn1,hl1,hL1,hd1⟩;cu ∃ (L:List Int)(o2 o3 o4:Option V),σ'=[§lk,§la,o2,o3,o4,none,none]∧af H H'∧H' la=some (.lst (L.map V.int))∧L.length≤8∧∀ d∈L,(1:Int)≤d∧d≤400
 . w;o⟨k,hk,hk3⟩:=zw (ps.map V.ref)
   h hk4:ps.length≤k+3:=by rw[be] at hk3;e hk3
   r⟨_,SqL.of (S1 _ _ h1),_,rfl,kd,rfl,_,SqL.of (S1 _ _ h4),fun p hp=>?_⟩;rw[hk]
   h hpla:p≠la:=fun e=>by rw[e,hl1] at hp;cases hp
   r⟨⟨_,SqL.of ac⟩,?_⟩;r bo (H0:=fun b=>if b=p then some (.lst ((ps.map V.ref).drop k)) else none) (aH (SqL.of (if_pos rfl))) (fun i σ' H'=>∃ (L:List Int)(o2 o3 o4:Option V),σ'=[§lk,§la,o2,o3,o4,none,none]∧af H H'∧H' p=some (.lst ((ps.map V.ref).drop k))∧H' la=some (.lst (L.map V.int))∧L.length≤5+i∧∀ d∈L,(1:Int)≤d∧d≤400) ⟨L1,none,none,none,rfl,S1.trans (af.updN hp),ac,by rw[ai hpla.symm];e hl1,by m,hd1⟩ (fun _ _ _ _ ⟨_,_,_,_,_,_,h,_⟩=>fun b o e=>by dsimp only at e;split at e;(rename_i hb;cases e;rw[hb];e h);cases e) ?_ ?_
   . rintro i x σ' H' hi hx ⟨L,o2,o3,o4,rfl,S,hp',hl,hL,hd⟩ R2 hR2;rw[AU,be] at hi;rw[B5,zK] at hx;o⟨t,ht,rfl⟩:=Option.map_eq_some_iff.mp hx;h hpl:=h5.1;rw[be] at hpl;obtain⟨e,he⟩:∃ e,h.dp[k+i]?=some e:=⟨_,zJ (by m)⟩;h htt:=S _ _ (h5.2 (k+i) t _ ht (by rw[zK,he];rfl));r qa htt ?_;w;r⟨.inl ⟨rfl,_,SqL.of hl⟩,_,hl,by rw[be];m,?_⟩;rw[show L.map V.int++[V.int e.1]=(L++[e.1]).map V.int by rw[zQ];rfl];r hR2 _ _ ⟨L++[e.1],_,_,_,rfl,cK S hn1,by rw[ai hpla];e hp',ac,by rw[zL,zR];m,fun d hd'=>?_⟩
     rcases List.mem_append.mp hd' with hd' | hd'
     . e hd d hd'
     . rw[List.mem_singleton.mp hd'];e hdp e (zO he)
   . rintro σ' H' ⟨L,o2,o3,o4,rfl,S,hp',hl,hL,hd⟩;e hR _ _ ⟨L,o2,o3,o4,rfl,S,hl,by rw[AU] at hL;m,hd⟩
 rintro σ2 H2 ⟨L2,o2,o3,o4,rfl,S2,hl2,hL2,hd2⟩;cu ∃ (L:List Int)(o2 o3 o4 o5 o6:Option V),σ'=[§lk,§la,o2,o3,o4,o5,o6]∧af H H'∧H' la=some (.lst (L.map V.int))∧L.length≤14∧∀ d∈L,(1:Int)≤d∧d≤400
 . w;o⟨k,hk,hk3⟩:=zw (qs.map V.ref)
   h hk4:qs.length≤k+3:=by rw[be] at hk3;e hk3
   r⟨_,SqL.of (S2 _ _ h1),_,rfl,kt,rfl,_,SqL.of (S2 _ _ h6),fun p hp=>?_⟩;rw[hk]
   h hpla:p≠la:=fun e=>by rw[e,hl2] at hp;cases hp
   r⟨⟨_,SqL.of ac⟩,?_⟩;r bo (H0:=fun b=>if b=p then some (.lst ((qs.map V.ref).drop k)) else none) (aH (SqL.of (if_pos rfl))) (fun i σ' H'=>∃ (L:List Int)(o5 o6:Option V),σ'=[§lk,§la,o2,o3,o4,o5,o6]∧af H H'∧H' p=some (.lst ((qs.map V.ref).drop k))∧H' la=some (.lst (L.map V.int))∧L.length≤8+2*i∧∀ d∈L,(1:Int)≤d∧d≤400) ⟨L2,none,none,rfl,S2.trans (af.updN hp),ac,by rw[ai hpla.symm];e hl2,by m,hd2⟩ (fun _ _ _ _ ⟨_,_,_,_,_,h,_⟩=>fun b o e=>by dsimp only at e;split at e;(rename_i hb;cases e;rw[hb];e h);cases e) ?_ ?_
   . rintro i x σ' H' hi hx ⟨L,o5,o6,rfl,S,hp',hl,hL,hd⟩ R2 hR2;rw[AU,be] at hi;rw[B5,zK] at hx;o⟨t,ht,rfl⟩:=Option.map_eq_some_iff.mp hx;obtain⟨e,he⟩:∃ e,Tb[k+i]?=some e:=⟨_,zJ (by m)⟩;obtain⟨dd,hdd⟩:∃ dd,ds[k+i]?=some dd:=⟨_,zJ (by m)⟩;h htt:=S _ _ (h9 (k+i) t dd e ht hdd he).1;h hee:=hTb e (zO he);r d7 htt ?_;r cY (fun σ'' H''=>σ''=[§lk,§la,o2,o3,o4,£e.1,§dd]∧H''=upd H' la (.lst ((L++[e.1]).map V.int))) (fun R hR=>?_) ?_
     . w;r⟨.inl ⟨rfl,_,SqL.of hl⟩,_,hl,by rw[be];m,?_⟩;rw[show L.map V.int++[V.int e.1]=(L++[e.1]).map V.int by rw[zQ];rfl];e hR _ _ ⟨rfl,rfl⟩
     rintro σ5 H5 ⟨rfl,rfl⟩;w;r⟨.inl ⟨rfl,_,SqL.of ac⟩,_,ac,by rw[be,zL,zR];m,?_⟩;rw[show(L++[e.1]).map V.int++[V.int (if e.1 - 1 > 1 then e.1 - 1 else 1)]=(L++[e.1,if e.1 - 1 > 1 then e.1 - 1 else 1]).map V.int by rw[zQ,zQ];simp];r hR2 _ _ ⟨L++[e.1,_],_,_,rfl,cK (cK S hn1) hn1,by rw[ai hpla,ai hpla];e hp',ac,by rw[zL];show L.length+2≤_;m,fun d hd'=>?_⟩
     rcases List.mem_append.mp hd' with hd' | hd'
     . e hd d hd'
     . simp only[Az,Aq,or_false] at hd'
       rcases hd' with rfl | rfl
       . e hee
       . split<;>m
   . rintro σ' H' ⟨L,o5,o6,rfl,S,hp',hl,hL,hd⟩;e hR _ _ ⟨L,o2,o3,o4,o5,o6,rfl,S,hl,by rw[AU] at hL;m,hd⟩
 rintro σ3 H3 ⟨L3,o2,o3,o4,o5,o6,rfl,S3,hl3,hL3,hd3⟩;w;r⟨L3,SqL.of hl3,by m,fun p hp=>⟨_,ac,qX _,B3 (oG _) (by m),fun p2 L4 hp2 hpm _=>?_⟩⟩;r q p2 L4 _ ((S3.trans (af.updN hp)).trans (af.updN hp2)) ?_ ac ?_ fun d hd=>hd3 d ((uy _ _).mp (hpm.mem_iff.mp hd))
 . cases hz:H p2 with
   | none=>rfl
   | some o =>
     h h3:=S3 _ _ hz;rw[ai (aF h3 hp)] at hp2;rw[h3] at hp2;cases hp2
 . rw[hpm.length_eq];e AB (oG _) hL3
noncomputable def xm:Sp:=fun vs H Q _=>∃ (la:Addr)(L:List Int) (now:Int),vs=[.ref la,.int now]∧H la=some (.lst (L.map V.int))∧18≤L.length∧∀ (d:Int) H',af H H'→Q (.int d) H'
þ uF:ay ["_law_drawn", "_law_now", "_law_pick"] ["_law_drawn", "_law_now"] (ar vA):=®
þ xJ {f:Addr}{fd:FuncData}(F:Fun K "_law_day" "_law_day" vA f fd)
   (T:Txt mg)  :
   aW P w K mg base CX0 1 f fd ["_law_drawn", "_law_now"] xm:=by
 fo uF;o⟨la,L,now,rfl,hla,hL,q⟩:=h
 r⟨_,(aj (aL (i:=2) uF.nd rfl (Or.inl rfl) (aI br (am ak (pv 0) ag ¿) ag))
   (aj (aC (ap cX (pv 2) ag (ax _)) (ah (aq (pv 1))) ao)
   (aj (aC (ap cX (pv 2) ag (ax _)) (ah (aq (aI cp (aI cp (pv 1) ag) (aI br (am ak (pv 0) ag ¿) ag)))) ao)
   (aj (aC (ap bO (pv 2) ag (ax _)) (ah (aq (aI mV (pv 1) ag))) ao)
   (aj (aC (ap bO (pv 2) ag (ax _)) (ah (aq (aI cp ag (aI br (aI cp (am ak (pv 0) ag ¿) (aI fN ag (am ak (pv 0) ag ¿))) ag)))) ao)
   (ah (aq (am ak (bq (aa ag (aa ag (aa ag (aa ag (aa (eW dC ag) (aa (aI ug ag ag) ae))))))) (aI br (am ak (pv 0) ag ¿) ag) ¿)))))))),?_⟩
 try dsimp only[aE,aO]
 h hs:=aM
 h at_:∀ j:Nat,j < 18→∃ y,atI (L.map V.int) (j:Int)=£y:=fun j hj=>by
   o⟨y,_,h⟩:=im L (x:=(j:Int)) (by m) (by m);e⟨y,h⟩
 o⟨y3,e3⟩:=at_ 3 (by decide);o⟨y4,e4⟩:=at_ 4 (by decide);o⟨y5,e5⟩:=at_ 5 (by decide);h hL':∀ {G},af H G→SqL K G la (L.map V.int):=fun S=>SqL.of (S _ _ hla);cu ∃ pk:Int,σ'=[§la,£now,£pk]∧H'=H
 . w;e⟨_,SqL.of hla,_,e3,_,rfl,by decide,hR _ _ ⟨_,rfl,rfl⟩⟩
 rintro σ1 H1 ⟨pk,rfl,rfl⟩;cu σ'=[§la,£now,£pk]∧H'=H1
 . w;e az (fun _=>q _ _ (af.refl _)) (fun _=>hR _ _ ⟨rfl,rfl⟩)
 rintro σ2 H2 ⟨rfl,rfl⟩;cu σ'=[§la,£now,£pk]∧H'=H2
 . w;e az (fun _=>⟨_,SqL.of hla,_,e4,_,rfl,by decide,q _ _ (af.refl _)⟩) (fun _=>hR _ _ ⟨rfl,rfl⟩)
 rintro σ3 H3 ⟨rfl,rfl⟩;cu σ'=[§la,£now,£pk]∧H'=H3
 . w;e⟨rfl,az (fun _=>q _ _ (af.refl _)) (fun _=>hR _ _ ⟨rfl,rfl⟩)⟩
 rintro σ4 H4 ⟨rfl,rfl⟩;cu σ'=[§la,£now,£pk]∧H'=H4
 . w;e⟨rfl,az (fun _=>⟨_,SqL.of hla,_,e4,_,SqL.of hla,_,e5,_,rfl,.inl ⟨by decide,by decide⟩,_,rfl,by decide,q _ _ (af.refl _)⟩) (fun _=>hR _ _ ⟨rfl,rfl⟩)⟩
 rintro σ5 H5 ⟨rfl,rfl⟩;w;r⟨⟨by decide,by decide,by decide⟩,by m,fun p hp=>⟨_,hL' (af.updN hp),_,e4,_,rfl,by decide,?_⟩⟩;h h6:0≤y4 % 6∧y4 % 6 < 6:=⟨AL _ (by decide),AG _ (by decide)⟩;o⟨y,_,hy⟩:=im [0,401,400,1,-1,10 ^ Bm 30] (x:=y4 % 6) h6.1 h6.2;e⟨_,SqL.of ac,_,hy,q _ _ (af.updN hp)⟩
þ iU (L:List Str){x:Int}(h0:0≤x)(h1:x < L.length):∃ y∈L,atI (L.map V.str) x=¢y:=by
 o⟨j,rfl⟩:=A3 h0
 h hj:j < L.length:=by m
 e⟨L[j],AM hj,bU (by rw[zK,zJ hj];rfl)⟩
þ yC {n:Nat}{i:Int}(h0:0≤i)(h1:i < n):ixN n i=some i.toNat:=by
 unfold ixN;rw[if_pos h0,if_pos h1]
þ tE {L:List Str}(h:1≤L.length):∃ x∈L,atI (L.map V.str) (-1)=some (V.str x):=by
 h e:ixN (L.map V.str).length (-1)=some (L.length - 1):=by
   unfold ixN;rw[if_neg (by decide),be,if_pos (by m)]
   congr 1
   m
 h hj:L.length - 1 < L.length:=by m
 r⟨L[L.length - 1],AM hj,?_⟩;unfold atI;rw[e];show(L.map V.str)[L.length - 1]?=_;rw[zK,zJ hj];rfl
þ yB {xs:List Int}{k n:Nat}(h:k+n≤xs.length):iA (xs.map V.int) (some (k:Int)) (some ((k:Int)+(n:Int)))=((xs.drop k).take n).map V.int:=by
 unfold iA
 h e:(k:Int)+(n:Int)=((k+n:Nat):Int):=by m
 rw[e,HT.sIx_nat,HT.sIx_nat,be,show min k xs.length=k by m,show min (k+n) xs.length=k+n by m,Nat.add_sub_cancel_left,List.map_take,List.map_drop]
þ tX {ws:List Str}:iA (ws.map V.str) (some 1) none=(ws.drop 1).map V.str:=by
 unfold iA;h e1:HT.sIx (ws.map V.str).length 0 (some (1:Int))=min 1 (ws.map V.str).length:=HT.sIx_nat _ _ 1;h e2:HT.sIx (ws.map V.str).length (ws.map V.str).length none=(ws.map V.str).length:=rfl;rw[e1,e2,←List.map_drop,be]
 cases ws with
 | nil=>rfl
 | cons a r =>
   h e3:min 1 (a::r).length=1:=by rw[Av];m
   rw[e3];e AC (by simp)
noncomputable def rQ:Sp:=fun vs H Q _=>∃ (la pl pc pb pz:Addr)(L:List Int)(PC PB PZ:List Str)(lk kc kd kt lo:Addr)(so ns ss:List Str) (h:Hs)(Tb:List (Int×LK)),vs=[.ref la,.ref lk,.ref pl]∧H la=some (.lst (L.map V.int))∧18≤L.length∧KR H lk kc kd kt lo so ns ss h Tb∧1≤so.length∧so.length≤12∧(∀ z∈so,Shw z)∧H pl=some (.lst [.ref pc,.ref pb,.ref pz])∧H pc=some (.lst (PC.map V.str))∧H pb=some (.lst (PB.map V.str))∧H pz=some (.lst (PZ.map V.str))∧(1≤PC.length∧PC.length≤100)∧(1≤PB.length∧PB.length≤100)∧(1≤PZ.length∧PZ.length≤100)∧(∀ c∈PC,Shw c)∧(∀ c∈PB,Shw c)∧(∀ c∈PZ,Shw c)∧∀ t (dd:Dd) H',af H H'→H t=none→H' t=some (.tup dd.tup)→dd.fine H'→(∀ b lu os d,dd=.change b lu os d→H lu=none)→(∀ c z,dd=.bring c z→c∈PC)→Q (.ref t) H'
þ gK:ay ["_law_drawn", "_law_kept", "_law_pools_here", "_law_cloth", "_law_bath", "_law_day_here", "_law_pick", "_law_outs"] ["_law_drawn", "_law_kept", "_law_pools_here"] (ar vn):=®
þ xh {f fDy:Addr}{fd fdDy:FuncData}(F:Fun K "_law_deed" "_law_deed" vn f fd)
   (T:Txt mg)
   (GDy:Cl P w K mg base CX0 1 "_law_day" ["_law_drawn", "_law_now"] xm fDy fdDy) :
   aW P w K mg base CX0 2 f fd ["_law_drawn", "_law_kept", "_law_pools_here"] rQ:=by
 fo gK;o⟨la,pl,pc,pb,pz,L,PC,PB,PZ,lk,kc,kd,kt,lo,so,ns,ss,h,Tb,rfl,hla,hL,KR0,hso1,hso12,hsoS,hpl,hpc,hpb,hpz,lPC,lPB,lPZ,sPC,sPB,sPZ,q⟩:=h;h hr1:=hr.mono (j:=1) (by m)
 r⟨_,(aj (aL (i:=3) gK.nd rfl (Or.inl rfl) (am ak (am ak (pv 2) ag ¿) (aI br (am ak (pv 0) ag ¿) (al av (by rfl) T.len zT (aa (am ak (pv 2) ag ¿) ae))) ¿))
   (aj (aL (i:=4) gK.nd rfl (Or.inl rfl) (am ak (am ak (pv 2) ag ¿) (aI br (am ak (pv 0) ag ¿) (al av (by rfl) T.len zT (aa (am ak (pv 2) ag ¿) ae))) ¿))
   (aj (aL (i:=5) gK.nd rfl (Or.inl rfl) (pC GDy hr1 aA (aa (pv 0) (aa (am ak (pv 1) ag ¿) ae))))
   (aj (aL (i:=6) gK.nd rfl (Or.inl rfl) (aI br (am ak (pv 0) ag ¿) ag))
   (aj (aC (ap cX (pv 6) ag (ax _)) (ah (aq (bS (aa aB (aa (pv 3) (aa (pv 4) (aa (pv 5) ae))))))) ao)
   (aj (aC (ap cX (pv 6) ag (ax _)) (ah (aq (bS (aa aB (aa (pv 5) ae))))) ao)
   (aj (aC (ap cX (pv 6) ag (ax _)) (aN (jz (i:=7) (N':=["_law_one", "_law_kept"]) (pk:=[none,some 1]) gK.nd rfl (Or.inl rfl) rfl (bZ.of (by rfl)) (ba (eJ il (pv 0) (fF ag) (fF (aI cp ag (al av (by rfl) T.len zT (aa (am ak (pv 1) ag ¿) ae)))))) (fun s H ex=>(aw (i:=0) (by show(["_law_one", "_law_kept"]:List Str).Nodup;d) rfl (Or.inl rfl))) (fun s H ex=>(am (ak:IxR _ (gP K)) (am (ak:IxR _ (gP K)) (pv 1) ag ¿) (aI br (pv 0) (al (av:cv _ (.builtin "len") (fun xs H Q=>∃ p ys,xs=[.ref p]∧(SqL K H p ys∨SqT K H p ys)∧Q (.int (ys.length:Nat)) H)) (by rfl) T.len zT (aa (am (ak:IxR _ (gP K)) (pv 1) ag ¿) ae))) ¿)))
   (aN (aC (ap bO (aI br (am ak (pv 0) ag ¿) ag) ag (ax _)) (ah (aL (i:=7) gK.nd rfl (Or.inl rfl) (eJ il (pv 7) (fF ag) ig))) ao)
   (aN (aC (ap bO (aI br (am ak (pv 0) ag ¿) ag) ag (ax _)) (ah (mq (am ak (am ak (pv 2) ag ¿) (eW dC ag) ¿) (pG (pv 7) (aI br (am ak (pv 0) ag ¿) (al av (by rfl) T.len zT (aa (pv 7) ae))) jU))) ao)
   (ah (aq (bS (aa aB (aa (pv 4) (aa (pv 7) (aa (pv 5) ae)))))))))) ao)
   (aj (aC (ap bO (pv 6) ag (ax _)) (ah (aq (bS (aa aB (aa (pv 3) (aa (am ak (am ak (pv 2) ag ¿) (aI br (am ak (pv 0) ag ¿) (al av (by rfl) T.len zT (aa (am ak (pv 2) ag ¿) ae))) ¿) ae)))))) ao)
   (aj (aC (ap bO (pv 6) ag (ax _)) (ah (aq (bS (aa (am ak (bq (aa aB (aa aB ae))) (aI br (am ak (pv 0) ag ¿) ag) ¿) (aa (pv 5) ae))))) ao)
   (ah (aq (bS (aa (am ak (bq (aa aB (aa aB ae))) (aI mV (pv 6) ag) ¿) (aa (pv 3) (aa (pv 5) ae))))))))))))))),?_⟩
 try dsimp only[aE,aO]
 h hs:=aM
 h at_:∀ j:Nat,j < 18→∃ y,atI (L.map V.int) (j:Int)=£y:=fun j hj=>by
   o⟨y,_,h⟩:=im L (x:=(j:Int)) (by m) (by m);e⟨y,h⟩
 o⟨y0,e0⟩:=at_ 0 (by decide);o⟨y1,e1⟩:=at_ 1 (by decide);o⟨y2,e2⟩:=at_ 2 (by decide);o⟨y4,e4⟩:=at_ 4 (by decide);o⟨y5,e5⟩:=at_ 5 (by decide)
 h pk:∀ (l:List Str) (i:Int),1≤l.length→∃ y∈l,atI (l.map V.str) (i % ((l.map V.str).length:Int))=¢y:=fun l i hl=>by
   rw[be];e iU l (AL _ (by m)) (AG _ (by m))
 h l0:∀ l:List Str,1≤l.length→(0:Int) < ((l.map V.str).length:Int):=fun l hl=>by rw[be];m
 cu ∃ c∈PC,σ'=[§la,§lk,§pl,¢c,none,none,none,none]∧H'=H
 . w;o⟨c,hc,ec⟩:=pk PC y1 lPC.1;e⟨_,SqL.of hpl,_,rfl,_,SqL.of hla,_,e1,_,SqL.of hpl,_,rfl,_,rfl,_,.inl (SqL.of hpc),_,rfl,l0 _ lPC.1,_,rfl,_,SqL.of hpc,_,ec,hR _ _ ⟨c,hc,rfl,rfl⟩⟩
 rintro σ1 H1 ⟨c,hc,rfl,rfl⟩;cu ∃ b∈PB,σ'=[§la,§lk,§pl,¢c,¢b,none,none,none]∧H'=H1
 . w;o⟨b,hb,eb⟩:=pk PB y2 lPB.1;e⟨_,SqL.of hpl,_,rfl,_,SqL.of hla,_,e2,_,SqL.of hpl,_,rfl,_,rfl,_,.inl (SqL.of hpb),_,rfl,l0 _ lPB.1,_,rfl,_,SqL.of hpb,_,eb,hR _ _ ⟨b,hb,rfl,rfl⟩⟩
 rintro σ2 H2 ⟨b,hb,rfl,rfl⟩;cu ∃ d:Int,σ'=[§la,§lk,§pl,¢c,¢b,£d,none,none]∧af H2 H'
 . w;e⟨_,SqL.of KR0.hlk,_,rfl,la,L,_,rfl,hla,hL,fun d H' S=>hR _ _ ⟨d,rfl,S⟩⟩
 rintro σ3 H3 ⟨d,rfl,S3⟩;cu ∃ k:Int,σ'=[§la,§lk,§pl,¢c,¢b,£d,£k,none]∧(0≤k∧k < 16)∧H'=H3
 . w;e⟨_,SqL.of (S3 _ _ hla),_,e0,_,rfl,by decide,hR _ _ ⟨_,rfl,⟨AL _ (by decide),AG _ (by decide)⟩,rfl⟩⟩
 rintro σ4 H4 ⟨k,rfl,hk,rfl⟩
 h nn:∀ {x:Addr}{G:Hp},af H2 G→G x=none→H2 x=none:=fun {x G} S e=>by
   cases hz:H2 x with
   | none=>rfl
   | some o=>rw[S _ _ hz] at e;cases e
 cu σ'=[§la,§lk,§pl,¢c,¢b,£d,£k,none]∧H'=H4
 . w;e az (fun _=>⟨by m,fun p hp=>q p (.dip c b d) _ (S3.trans (af.updN hp)) (nn S3 hp) ac ⟨sPC c hc,sPB b hb⟩ (fun _ _ _ _ e=>by cases e) (fun _ _ e=>by cases e)⟩) (fun _=>hR _ _ ⟨rfl,rfl⟩)
 rintro σ5 H5 ⟨rfl,rfl⟩;cu σ'=[§la,§lk,§pl,¢c,¢b,£d,£k,none]∧H'=H5
 . w;e az (fun _=>⟨by m,fun p hp=>q p (.back d) _ (S3.trans (af.updN hp)) (nn S3 hp) ac trivial (fun _ _ _ _ e=>by cases e) (fun _ _ e=>by cases e)⟩) (fun _=>hR _ _ ⟨rfl,rfl⟩)
 rintro σ6 H6 ⟨rfl,rfl⟩;cu σ'=[§la,§lk,§pl,¢c,¢b,£d,£k,none]∧H'=H6∧12≤k
 . w;r az (fun hk12=>?_) (fun h=>hR _ _ ⟨rfl,rfl,by m⟩);h hlo3:SqL K H6 lo (so.map V.str):=SqL.of (S3 _ _ KR0.hlo);r⟨_,SqL.of (S3 _ _ KR0.hlk),_,rfl,lo,rfl,_,.inl hlo3,_,SqL.of (S3 _ _ hla),fun p1 hp1=>?_⟩;rw[be];h ec':iA (L.map V.int) (some 6) (some (6+((so.length:Nat):Int)))=((L.drop 6).take so.length).map V.int:=yB (xs:=L) (k:=6) (n:=so.length) (by m);rw[ec'];generalize hLC:(L.drop 6).take so.length=LC
   h hLCl:LC.length=so.length:=by rw[←hLC,Aa,AU];m
   r⟨⟨_,SqL.of ac⟩,fun D hD=>?_⟩;h S6:af H6 (upd H6 p1 (.lst (LC.map V.int))):=af.updN hp1;h hLCa:upd H6 p1 (.lst (LC.map V.int)) p1=some (.lst (LC.map V.int)):=ac;generalize upd H6 p1 (.lst (LC.map V.int))=G at *;h hlk6:=S6 _ _ (S3 _ _ KR0.hlk);h hlo6:=S6.seq hlo3;r cF (aH (SqL.of hLCa)) (by rw[be,hLCl];m) hD (fun σ=>∃ o,σ=[o,§lk]) (fun k=>V.str (gq so (LC.getD k 0 % ((so.length:Nat):Int)))) ⟨none,rfl⟩ ?_ ?_
   . rintro k x σ' H3' hk hx ⟨o,rfl⟩ hS3 R hR;rw[zK] at hx;o⟨y,hy,rfl⟩:=Option.map_eq_some_iff.mp hx;h hm0:=AL y (show((so.length:Nat):Int)≠0 by m);h hm1:=AG y (show(0:Int) < (so.length:Nat) by m);w;r⟨_,SqL.of (hS3 _ _ hlk6),_,rfl,_,SqL.of (hS3 _ _ hlk6),_,rfl,lo,rfl,_,.inl (hS3.seq hlo6),?_⟩;rw[be];r⟨by m,lo,rfl,_,hS3.seq hlo6,_,pw hm0 (by m),?_⟩
     h e:LC.getD k 0=y:=by rw[zM,hy];rfl
     have:=hR [some (V.int y),some (V.ref lk)] ⟨_,rfl⟩;rw[e] at this;e this
   h eos:(zS (LC.map V.int).length).map (fun k=>V.str (gq so (LC.getD k 0 % ((so.length:Nat):Int))))=(LC.map (fun y=>gq so (y % ((so.length:Nat):Int)))).map V.str:=by
     rw[Ao];r cE _ LC _ _ (by rw[be]) fun k x hx=>?_;rw[zM,hx];rfl
   rw[eos]
   h gos:(LC.map (fun y=>gq so (y % ((so.length:Nat):Int)))).length=so.length∧∀ x∈LC.map (fun y=>gq so (y % ((so.length:Nat):Int))),x∈so:=by
     r⟨by rw[be,hLCl],fun x hx=>?_⟩;o⟨y,hy,rfl⟩:=List.mem_map.mp hx;h hm0:=AL y (show((so.length:Nat):Int)≠0 by m);h hm1:=AG y (show(0:Int) < (so.length:Nat) by m);have:=nH hm0 hm1 (zN so.length)
     rwa [AE] at this
   generalize LC.map (fun y=>gq so (y % ((so.length:Nat):Int)))=os at *;h hDn:H2 D=none:=nn (S3.trans S6) hD;h S7:af H2 (upd G D (.lst (os.map V.str))):=(S3.trans S6).trans (af.updN hD);h hos7:upd G D (.lst (os.map V.str)) D=some (.lst (os.map V.str)):=ac;generalize upd G D (.lst (os.map V.str))=H8 at *;h fin:∀ (lu:Addr)(os:List Str)(G:Hp),af H2 G→H2 lu=none→G lu=some (.lst (os.map V.str))→os.length≤100→(∀ v∈os,Shw v)→∀ p,G p=none→Q (.ref p) (upd G p (.tup [.str ¶"change",.str b,.ref lu,.int d])):=fun lu os G S hn hl hle hsh p hp=>q p (.change b lu os d) _ (S.trans (af.updN hp)) (nn S hp) ac ⟨sPB b hb,(af.updN hp) _ _ hl,hle,hsh⟩ (fun _ _ _ _ e=>by cases e;e hn) (fun _ _ e=>by cases e);h hoS:∀ v∈os,Shw v:=fun v hv=>hsoS v (gos.2 v hv);r⟨_,SqL.of (S7 _ _ hla),_,e5,_,rfl,by decide,rfl,az (fun h9=>?_) (fun h9=>?_)⟩
   . r⟨_,SqL.of hos7,fun p2 hp2=>?_⟩;rw[tX];h S8:af H2 (upd H8 p2 (.lst ((os.drop 1).map V.str))):=S7.trans (af.updN hp2);r⟨_,SqL.of (S8 _ _ hla),_,e5,_,rfl,by decide,rfl,az (fun h=>by rw[h9] at h;e absurd h (by decide)) (fun _=>⟨by m,?_⟩)⟩;e fin p2 (os.drop 1) _ S8 (nn S7 hp2) ac (by rw[AU];m) fun v hv=>hoS v (List.mem_of_mem_drop hv)
   . o⟨z,hz,ez⟩:=tE lPZ.1
     h hl0:(0:Int) < ((os.map V.str).length:Int):=by rw[be,gos.1];m
     r⟨_,SqL.of (S7 _ _ hla),_,e5,_,rfl,by decide,rfl,az (fun _=>?_) (fun _=>⟨by m,?_⟩)⟩
     . r⟨_,SqL.of (S7 _ _ hpl),_,rfl,pz,rfl,_,SqL.of (S7 _ _ hpz),_,ez,_,SqL.of (S7 _ _ hla),_,e4,_,.inl (SqL.of hos7),_,rfl,hl0,_,hos7,_,yC (AL _ (by m)) (AG _ hl0),by m,?_⟩;rw[←List.map_set]
       e fin D (os.set _ z) _ (cK S7 hDn) hDn ac (by rw[Co];m) fun v hv=>by
         rcases List.mem_or_eq_of_mem_set hv with hv | rfl
         . e hoS v hv
         . e sPZ _ hz
     . e fin D os _ S7 hDn hos7 (by m) hoS
 rintro σ7 H7 ⟨rfl,rfl,hk12⟩;cu σ'=[§la,§lk,§pl,¢c,¢b,£d,£k,none]∧H'=H7∧13≤k
 . w;o⟨z,hz,ez⟩:=pk PZ y2 lPZ.1;e⟨rfl,az (fun _=>⟨_,SqL.of (S3 _ _ hpl),_,rfl,_,SqL.of (S3 _ _ hla),_,e2,_,SqL.of (S3 _ _ hpl),_,rfl,_,rfl,_,.inl (SqL.of (S3 _ _ hpz)),_,rfl,l0 _ lPZ.1,_,rfl,_,SqL.of (S3 _ _ hpz),_,ez,by m,fun p hp=>q p (.bring c z) _ (S3.trans (af.updN hp)) (nn S3 hp) ac ⟨sPC c hc,sPZ z hz⟩ (fun _ _ _ _ e=>by cases e) (fun _ _ e=>by cases e;e hc)⟩) (fun h=>hR _ _ ⟨rfl,rfl,by m⟩)⟩
 rintro σ8 H8 ⟨rfl,rfl,hk13⟩;cu σ'=[§la,§lk,§pl,¢c,¢b,£d,£k,none]∧H'=H8∧14≤k
 . w;r⟨rfl,az (fun _=>?_) (fun h=>hR _ _ ⟨rfl,rfl,by m⟩)⟩;r⟨by m,fun p hp=>?_⟩;h S4:=S3.trans (af.updN (o:=.lst [V.str ¶"dips",V.str ¶"book"]) hp);r⟨_,SqL.of (S4 _ _ hla),_,e5,_,rfl,by decide,_,SqL.of ac,?_⟩;o⟨z,hz,ez⟩:=iU [¶"dips",¶"book"] (x:=y5 % 2) (AL _ (by decide)) (AG _ (by decide));r⟨_,ez,by m,fun p2 hp2=>?_⟩;simp only[Az,Aq,or_false] at hz
   rcases hz with rfl | rfl
   . e q p2 (.dips d) _ (S4.trans (af.updN hp2)) (nn S4 hp2) ac trivial (fun _ _ _ _ e=>by cases e) (fun _ _ e=>by cases e)
   . e q p2 (.book d) _ (S4.trans (af.updN hp2)) (nn S4 hp2) ac trivial (fun _ _ _ _ e=>by cases e) (fun _ _ e=>by cases e)
 rintro σ9 H9 ⟨rfl,rfl,hk14⟩;w;r⟨by m,fun p hp=>?_⟩;h S4:=S3.trans (af.updN (o:=.lst [V.str ¶"shade",V.str ¶"trail"]) hp);o⟨z,hz,ez⟩:=iU [¶"shade",¶"trail"] (x:=k - 14) (by m) (by show k - 14 < 2;m);r⟨_,SqL.of ac,_,ez,by m,fun p2 hp2=>?_⟩;simp only[Az,Aq,or_false] at hz
 rcases hz with rfl | rfl
 . e q p2 (.shade c d) _ (S4.trans (af.updN hp2)) (nn S4 hp2) ac (sPC c hc) (fun _ _ _ _ e=>by cases e) (fun _ _ e=>by cases e)
 . e q p2 (.trail c d) _ (S4.trans (af.updN hp2)) (nn S4 hp2) ac (sPC c hc) (fun _ _ _ _ e=>by cases e) (fun _ _ e=>by cases e)
þ Shw.app {y z:Str}(hy:Shw y)(hz:Shw z)(h:y.length+z.length≤1000):Shw (y++z) :=
 ⟨by rw[wD];e h,fun c hc=>by
   rw[kx] at hc
   rcases List.mem_append.mp hc with h | h
   . e hy.2 c h
   . e hz.2 c h⟩
noncomputable def rB (K:PySem.W.Frag):Sp:=fun vs H Q _=>∃ (a ls lb:Addr)(ns:List Int)(ss:List Str)(bs:List (Str×List Str)) (spare other:Str),vs=[.ref a,.ref ls,.ref lb,.str spare,.str other]∧SqL K H a (ns.map V.int)∧H ls=some (.lst (ss.map V.str))∧iq H lb bs∧aP ss bs∧(∀ z∈ss,Shw z)∧(∀ b∈bs,Shw b.1)∧Shw spare∧Shw other∧∀ pl pc pb pz (ws PB PZ:List Str) (w:Str) H',af H H'→H pl=none→H pc=none→H pb=none→H pz=none→H' pl=some (.lst [.ref pc,.ref pb,.ref pz])→H' pc=some (.lst ((ws++[w]).map V.str))→H' pb=some (.lst (PB.map V.str))→H' pz=some (.lst (PZ.map V.str))→ws.length=5→ws.Nodup→(∀ x∈ws,Nm x)→Shw w→(1≤PB.length∧PB.length≤100)→(1≤PZ.length∧PZ.length≤100)→(∀ c∈PB,Shw c)→(∀ c∈PZ,Shw c)→Q (.ref pl) H'
þ js:ay ["_law_script", "_law_shades", "_law_baths", "_law_spare", "_law_other", "_law_mixed", "_law_cloths", "_law_titles"] ["_law_script", "_law_shades", "_law_baths", "_law_spare", "_law_other"] (ar pN):=®
þ vS {f fAt fW:Addr}{fd fdAt fdW:FuncData}(F:Fun K "_law_pools" "_law_pools" pN f fd)
   (T:Txt mg)
   (GAt:Cl P w K mg base CX0 1 "_law_at" ["_law_script", "_law_k"] (sM K) fAt fdAt)
   (GW:Cl P w K mg base CX0 2 "_law_words" ["_law_cell", "_law_many", "_law_wide", "_law_mixed"] mZ fW fdW) :
   aW P w K mg base CX0 3 f fd ["_law_script", "_law_shades", "_law_baths", "_law_spare", "_law_other"] (rB K):=by
 fo js;o⟨a,ls,lb,ns,ss,bs,spare,other,rfl,ha,hls,hlb,B,hsS,hbS,hsp,hot,q⟩:=h;h hr1:=hr.mono (j:=1) (by m);h hr2:=hr.mono (j:=2) (by m)
 r⟨_,(aj (aL (i:=5) js.nd rfl (Or.inl rfl) (aI br (pC GAt hr1 aA (aa (pv 0) (aa ag ae))) ag))
   (aj (aL (i:=6) js.nd rfl (Or.inl rfl) (pC GW hr2 aA (aa (pC GAt hr1 aA (aa (pv 0) (aa ag ae))) (aa ag (aa (am ak (bq (aa ag (aa ag ae))) (aI br (aI eR (pC GAt hr1 aA (aa (pv 0) (aa ag ae))) ag) ag) ¿) (aa (pv 5) ae))))))
   (aj (jz (i:=7) (N':=["_law_title", "_law_outs"]) (pk:=[none,none]) js.nd rfl (Or.inl rfl) rfl (bZ.of (by rfl)) (ba (pv 2)) (fun s H ex=>((cC (n:=2) rfl (aG (aw (i:=0) (by show(["_law_title", "_law_outs"]:List Str).Nodup;d) rfl (Or.inl rfl)) (aG (aw (i:=1) (by show(["_law_title", "_law_outs"]:List Str).Nodup;d) rfl (Or.inl rfl)) bV))):PG _ _ (kC K 2 (bQ (bG 0) (bQ (bG 1) iQ))))) (fun s H ex=>(pv 0)))
   (ah (aq (bq (aa (aI gM (pv 6) (bq (aa (aI fq (am ak (pv 6) ag ¿) aB) ae))) (aa (aI gM (aI uW (pv 7) ag) (bq (aa (pv 4) ae))) (aa (aI gM (aI uW (pv 1) ag) (bq (aa (pv 3) ae))) ae))))))))),?_⟩
 try dsimp only[aE,aO]
 h hs:=aM;cu ∃ mx:Int,(mx=0∨mx=1)∧σ'=[§a,§ls,§lb,¢spare,¢other,£mx,none,none]∧H'=H
 . w;e dB ha (by decide) ⟨_,rfl,by decide,hR _ _ ⟨_,by m,rfl,rfl⟩⟩
 rintro σ1 H1 ⟨mx,hmx,rfl,rfl⟩;cu ∃ (pc:Addr)(ws:List Str),σ'=[§a,§ls,§lb,¢spare,¢other,£mx,§pc,none]∧af H1 H'∧H' pc=some (.lst (ws.map V.str))∧ws.length=5∧ws.Nodup∧∀ x∈ws,Nm x
 . w;r dB ha (by decide) ⟨by m,fun p hp=>?_⟩;h S1:=af.updN (o:=.lst [V.int 26,V.int 2]) hp;r dB (S1.seq ha) (by decide) ⟨_,rfl,by decide,by decide,by decide,_,SqL.of ac,?_⟩
   h hm:atL ns 3 / 2 % 2=0∨atL ns 3 / 2 % 2=1:=by m
   h:∃ x:Int,(x=26∨x=2)∧atI [V.int 26,V.int 2] (atL ns 3 / 2 % 2)=£x:=by
     rcases hm with h | h<;>rw[h]
     . e⟨26,.inl rfl,rfl⟩
     . e⟨2,.inr rfl,rfl⟩
   o⟨x,hx,ex⟩:=this;e⟨_,ex,_,_,_,_,rfl,by decide,by decide,hx,hmx,fun l ws H' hl S hl' hwl hwn hwm=>hR _ _ ⟨l,ws,rfl,S1.trans S,hl',by m,hwn,hwm⟩⟩
 rintro σ2 H2 ⟨pc0,ws,rfl,S2,hpc,hw5,hwn,hwm⟩;cu ∃ (lt:Addr),σ'=[§a,§ls,§lb,¢spare,¢other,£mx,§pc0,§lt]∧af H2 H'∧H' lt=some (.lst ((bs.map (·.1)).map V.str))
 . w;o⟨ps,hlb1,hpl,hB⟩:=af.bths S2 hlb;h hb8:=B.b8;r⟨⟨_,SqL.of hlb1⟩,fun D hD=>?_⟩;r cF (aH (SqL.of hlb1)) (by rw[be];m) hD (fun σ=>∃ o1 o2,σ=[o1,o2]) (fun k=>V.str (bs.getD k (⟨#[]⟩,[])).1) ⟨none,none,rfl⟩ ?_ ?_
   . rintro k x σ' H3 hk hx ⟨o1,o2,rfl⟩ hS3 R hR;rw[zK] at hx;o⟨y,hy,rfl⟩:=Option.map_eq_some_iff.mp hx;obtain⟨b,hb⟩:∃ b,bs[k]?=some b:=⟨_,zJ (by rw[be] at hk;m)⟩;o⟨lo,ht,hlo⟩:=hB k y b hy hb;r d7 (hS3 _ _ ht) ?_;w
     h e:(bs.getD k (⟨#[]⟩,[]))=b:=by rw[zM,hb];rfl
     have:=hR [some (V.str b.1),some (V.ref lo)] ⟨_,_,rfl⟩;rw[e] at this;e this
   . h e:(zS (ps.map V.ref).length).map (fun k=>V.str (bs.getD k (⟨#[]⟩,[])).1)=(bs.map (·.1)).map V.str:=by
       rw[Ao];r cE _ bs _ _ (by rw[be,hpl]) fun k x hx=>?_;rw[zM,hx];rfl
     rw[e];e hR _ _ ⟨D,rfl,af.updN hD,ac⟩
 rintro σ3 H3 ⟨lt,rfl,S3,hlt⟩;w;h hb8:=B.b8;h hs12:=B.s12;h hs1:=B.s1;obtain⟨w0,hw0⟩:∃ w0,ws[0]?=some w0:=⟨_,zJ (by m)⟩;h hm0:=hwm w0 (zO hw0);h h8:=hm0.hi;h sQ:Shw ¶"Q":=⟨by d,by d⟩
 h lQ:¶"Q".length=1:=by d
 r⟨_,SqL.of (S3 _ _ hpc),_,cc (i:=0) hw0,_,rfl,by m,by m,fun p1 hp1=>?_⟩;r fr ((af.updN hp1) _ _ (S3 _ _ hpc)) ac (by rw[be,hw5];show 5+1≤_;m) fun pc hpc1=>?_
 h npc:H1 pc=none:=by
   cases hz:H1 pc with
   | none=>rfl
   | some o=>rw[((S2.trans S3).trans (af.updN hp1)) _ _ hz] at hpc1;cases hpc1
 h S4:af H3 (upd (upd H3 p1 (.lst [V.str (w0++¶"Q")])) pc (.lst (ws.map V.str++[V.str (w0++¶"Q")]))):=(af.updN hp1).trans (af.updN hpc1)
 h hpc4:upd (upd H3 p1 (.lst [V.str (w0++¶"Q")])) pc (.lst (ws.map V.str++[V.str (w0++¶"Q")])) pc=some (.lst ((ws++[w0++¶"Q"]).map V.str)):=by rw[ac,zQ];rfl
 generalize upd (upd H3 p1 (.lst [V.str (w0++¶"Q")])) pc (.lst (ws.map V.str++[V.str (w0++¶"Q")]))=H4 at *
 h rp3:∀ (n:Nat)(l:List Str),(zY n (l.map V.str)).flatten=((zY n l).flatten).map V.str:=fun n l=>by rw[List.map_flatten,List.map_replicate]
 r⟨_,S4 _ _ hlt,by decide,by decide,by rw[be,be];show bs.length*3≤_;m,fun p2 hp2=>⟨by m,fun p3 hp3=>?_⟩⟩;rw[show Bm 3=3 from rfl,rp3] at *
 h l3:((zY 3 (bs.map (·.1))).flatten).length=3*bs.length:=by rw[mi,be]
 r fr ((af.updN hp3) _ _ ac) ac (by rw[be,l3];show 3*bs.length+1≤_;m) fun pb hpb1=>?_
 h npb:H1 pb=none:=by
   cases hz:H1 pb with
   | none=>rfl
   | some o=>rw[((S2.trans (S3.trans S4)).trans ((af.updN hp2).trans (af.updN hp3))) _ _ hz] at hpb1;cases hpb1
 rw[show(List.map V.str (zY 3 (bs.map (·.1))).flatten++[V.str other])=(((zY 3 (bs.map (·.1))).flatten++[other]).map V.str) by rw[zQ];rfl];h S5:af H4 (upd (upd (upd H4 p2 (.lst ((zY 3 (bs.map (·.1))).flatten.map V.str))) p3 (.lst [V.str other])) pb (.lst (((zY 3 (bs.map (·.1))).flatten++[other]).map V.str))):=(af.updN hp2).trans ((af.updN hp3).trans (af.updN hpb1));h hpb5:(upd (upd (upd H4 p2 (.lst ((zY 3 (bs.map (·.1))).flatten.map V.str))) p3 (.lst [V.str other])) pb (.lst (((zY 3 (bs.map (·.1))).flatten++[other]).map V.str))) pb=some (.lst (((zY 3 (bs.map (·.1))).flatten++[other]).map V.str)):=ac;generalize upd (upd (upd H4 p2 (.lst ((zY 3 (bs.map (·.1))).flatten.map V.str))) p3 (.lst [V.str other])) pb (.lst (((zY 3 (bs.map (·.1))).flatten++[other]).map V.str))=H5 at *;h S25:=S2.trans (S3.trans (S4.trans S5));r⟨_,S25 _ _ hls,by decide,by decide,by rw[be];show ss.length*2≤_;m,fun p4 hp4=>⟨by m,fun p5 hp5=>?_⟩⟩;rw[show Bm 2=2 from rfl,rp3] at *
 h l2:((zY 2 ss).flatten).length=2*ss.length:=by rw[mi]
 r fr ((af.updN hp5) _ _ ac) ac (by rw[be,l2];show 2*ss.length+1≤_;m) fun pz hpz1=>?_
 h npz:H1 pz=none:=by
   cases hz:H1 pz with
   | none=>rfl
   | some o=>rw[((S2.trans (S3.trans (S4.trans S5))).trans ((af.updN hp4).trans (af.updN hp5))) _ _ hz] at hpz1;cases hpz1
 rw[show(List.map V.str (zY 2 ss).flatten++[V.str spare])=(((zY 2 ss).flatten++[spare]).map V.str) by rw[zQ];rfl];h S6:af H5 (upd (upd (upd H5 p4 (.lst ((zY 2 ss).flatten.map V.str))) p5 (.lst [V.str spare])) pz (.lst (((zY 2 ss).flatten++[spare]).map V.str))):=(af.updN hp4).trans ((af.updN hp5).trans (af.updN hpz1));h hpz6:(upd (upd (upd H5 p4 (.lst ((zY 2 ss).flatten.map V.str))) p5 (.lst [V.str spare])) pz (.lst (((zY 2 ss).flatten++[spare]).map V.str))) pz=some (.lst (((zY 2 ss).flatten++[spare]).map V.str)):=ac;generalize upd (upd (upd H5 p4 (.lst ((zY 2 ss).flatten.map V.str))) p5 (.lst [V.str spare])) pz (.lst (((zY 2 ss).flatten++[spare]).map V.str))=H6 at *;r⟨by m,fun pl hpl=>?_⟩;h S26:=S25.trans S6;h S7:af H6 (upd H6 pl (.lst [.ref pc,.ref pb,.ref pz])):=af.updN hpl
 h nn:∀ {G:Hp}{x:Addr},af H1 G→G x=none→H1 x=none:=fun {G x} S e=>by
   cases hz:H1 x with
   | none=>rfl
   | some o=>rw[S _ _ hz] at e;cases e
 r q pl pc pb pz ws _ _ (w0++¶"Q") _ (S26.trans S7) (nn S26 hpl) npc npb npz ac ((S5.trans (S6.trans S7)) _ _ hpc4) ((S6.trans S7) _ _ hpb5) (S7 _ _ hpz6) hw5 hwn hwm (hm0.shw.app sQ (by m)) (by rw[zL,l3,zR];m) (by rw[zL,l2,zR];m) (fun c hc=>?_) (fun c hc=>?_)
 . rcases List.mem_append.mp hc with hc | hc
   . o⟨l,hl,hcl⟩:=List.mem_flatten.mp hc;rw[List.eq_of_mem_replicate hl] at hcl;o⟨b,hb,rfl⟩:=List.mem_map.mp hcl;e hbS b hb
   . rw[List.mem_singleton.mp hc];e hot
 . rcases List.mem_append.mp hc with hc | hc
   . o⟨l,hl,hcl⟩:=List.mem_flatten.mp hc;rw[List.eq_of_mem_replicate hl] at hcl;e hsS c hcl
   . rw[List.mem_singleton.mp hc];e hsp
þ eO.house {X:Addr→Bool}{H H':Hp}{CH CB:Addr}{A:Ad}{W:Hp}{ss:List Str}{h:Hs}(oc:eO X H)(S:af (hid H A) (hid H' A))(hh:aJ H' CH CB A W ss h):eO X H':=fun b hb e=>by
 cases hH:H b with
 | none=>e oc b hb hH
 | some o =>
   by_cases hA:b≠A.x∧b≠A.d1∧b≠A.ls∧b≠A.db
   . have:=a9 _ _ (S b o (fb hH hA.1 hA.2.1 hA.2.2.1 hA.2.2.2));rw[e] at this;cases this
   . e hA ⟨(fun z=>by rw[z,hh.ins] at e;cases e),(fun z=>by rw[z,hh.cl] at e;cases e),(fun z=>by o⟨ps,h1,_⟩:=hh.dp;rw[z,h1] at e;cases e),(fun z=>by o⟨rs,h1,_⟩:=hh.bk;rw[z,h1] at e;cases e)⟩
þ yI {ws:List Str} (i:Int)(h:0 < ws.length):∃ y∈ws,atI (ws.map V.str) (i % ((ws.length:Nat):Int))=some (V.str y):=by
 h hm0:=AL i (show((ws.length:Nat):Int)≠0 by m);h hm1:=AG i (show(0:Int) < (ws.length:Nat) by m);o⟨j,hj⟩:=A3 hm0;obtain⟨y,hy⟩:∃ z,ws[j]?=some z:=⟨_,zJ (by m)⟩;e⟨y,zO hy,by rw[hj];e cc hy⟩
þ zA {H:Hp}{A:Ad}{x:Addr}{u o:HO}(h:hid H A x=some u):hid (upd H x o) A=upd (hid H A) x o:=mU (gN h).2.1 (gN h).2.2.1 (gN h).2.2.2.1 (gN h).2.2.2.2
noncomputable def rg (K:PySem.W.Frag)(CH CB:Addr):Sp:=fun vs H Q _=>∃ (A:Ad)(W:Hp)(X:Addr→Bool)(lk kc kd kt lo:Addr)(so ns ss:List Str) (h:Hs)(Tb:List (Int×LK))(a pl pc pb pz:Addr)(ns':List Int)(ws:List Str) (w:Str),vs=[.ref a,.ref A.x,.ref lk,.ref pl]∧SqL K (hid H A) a (ns'.map V.int)∧J38 H CH CB A W X lk kc kd kt lo so ns ss h Tb∧h.cl=[]∧h.dp.length < 999∧Tb.length < 999∧1≤so.length∧hid H A pl=some (.lst [.ref pc,.ref pb,.ref pz])∧hid H A pc=some (.lst ((ws++[w]).map V.str))∧ws.length=5∧ws.Nodup∧(∀ x∈ws,Nm x)∧∀ H' h',J38 H' CH CB A W X lk kc kd kt lo so ns ss h' Tb→(∀ b o,b≠kc→hid H A b=some o→hid H' A b=some o)→h'.dp=h.dp→(∀ c∈h'.cl,c.1∈ws)→h'.cl.length≤5→Q (.bl true) H'
þ mD:ay ["_law_script", "_law_house", "_law_kept", "_law_pools_here", "_law_k", "_law_shade"] ["_law_script", "_law_house", "_law_kept", "_law_pools_here"] (ar pT):=®
þ vq {f fAt fHR:Addr}{fd fdAt fdHR:FuncData}{CH CB cBN cKn cNS cFu:Addr}(F:Fun K "_law_begun" "_law_begun" pT f fd)
   (T:Txt mg)(hX:Hx K mg CH)
   (GAt:Cl P w K mg base CX0 1 "_law_at" ["_law_script", "_law_k"] (sM K) fAt fdAt)
   (GHR:Cm P w K mg base (CX1 P w) 5 CH "bring" ["self", "cloth", "shade"] (kA CH CB cBN cKn cNS cFu) fHR fdHR) :
   aW P w K mg base CX0 8 f fd ["_law_script", "_law_house", "_law_kept", "_law_pools_here"] (rg K CH CB):=by
 fo mD;o⟨A0,W,X,lk,kc,kd,kt,lo,so,ns,ss,h,Tb,a,pl,pc,pb,pz,ns',ws,w0,rfl,ha,J,hcl0,hdl9,htl99,hso1,hpl,hpc,hw5,hwn,hwm,q⟩:=h;h hu:=eF hr;h cH:=hX.c;h hr1:=hr.mono (j:=1) (by m);h hr5:=hr.mono (j:=5) (by m)
 r⟨_,(aj (bC PassesOwn.never rfl (ck rfl T.range (aa (aI br (aI cp (pC GAt hr1 aA (aa (pv 0) (aa ag ae))) ag) ag) ae)) (aw (i:=4) mD.nd rfl (Or.inl rfl)) (aj (aL (i:=5) mD.nd rfl (Or.inl rfl) (am ak (am ak (pv 2) ag ¿) (aI br (pC GAt hr1 aA (aa (pv 0) (aa (aI cp ag (pv 4)) ae))) (al av (by rfl) T.len zT (aa (am ak (pv 2) ag ¿) ae))) ¿))
   (aj (aR (pM (pv 1) cH GHR hr5 gA (aa (am ak (am ak (pv 3) ag ¿) (pv 4) ¿) (aa (pv 5) ae))))
   (ah (dH hu (am ak (pv 2) ag ¿) (am ak (am ak (pv 3) ag ¿) (pv 4) ¿) (pv 5) rfl)))))
   (ah (aq cx))),?_⟩
 try dsimp only[aE,aO]
 h hs:=aM;h lko:∀ {m:Str}{dd:Int},(m==¶"first_shades")=false→(m==¶"day_now")=false→(m==¶"standing")=false→(m==¶"books_from")=false→Af m (hfs A0 dd)=none:=fun h1 h2 h3 h4=>d9 h1 h2 h3 h4
 h h0:{ h with cl:=[] }=h:=by cases h;cases hcl0;rfl
 cu ∃ (fi:List (Str×Str))(o4 o5:Option V),σ'=[§a,§A0.x,§lk,§pl,o4,o5]∧(∀ c∈fi,c.1∈ws)∧fi.length≤5∧J38 H' CH CB A0 W X lk kc kd kt lo so ns ss { h with cl:=fi } Tb∧(∀ b o,b≠kc→hid H A0 b=some o→hid H' A0 b=some o)
 . w;r dB (a9.seq ha) (by decide) ⟨_,rfl,by decide,by m,by m,?_⟩
   h hn5:((atL ns' 15+2) % 5).toNat≤4:=by m
   generalize ((atL ns' 15+2) % 5).toNat=n at *;r bo (H0:=fun _=>none) bv (fun i σ' H'=>∃ (fi:List (Str×Str))(o4 o5:Option V),σ'=[§a,§A0.x,§lk,§pl,o4,o5]∧fi.map (·.1)=ws.take i∧J38 H' CH CB A0 W X lk kc kd kt lo so ns ss { h with cl:=fi } Tb∧(∀ b o,b≠kc→hid H A0 b=some o→hid H' A0 b=some o)) ⟨[],none,none,rfl,rfl,by rw[h0];e J,fun _ _ _ e=>e⟩ (fun _ _ _ _ _ b o e=>by cases e) ?_ ?_
   . rintro i x σ H' hi rfl ⟨fi,o4,o5,rfl,hfi,J1,k1⟩ R2 hR2
     h hz:(0:Int)+(i:Int)=i:=by m
     rw[hz];obtain⟨c,hc⟩:∃ c,ws[i]?=some c:=⟨_,zJ (by m)⟩
     h hc':(ws++[w0])[i]?=some c:=by rw[zU (by m)];e hc
     h hfl:fi.length=i:=by
       have:=congrArg B9 hfi;rw[be,Aa] at this;m
     h hcm:=hwm c (zO hc)
     h hcn:c∉fi.map (·.1):=by rw[hfi];e eS hwn hc
     h nk:∀ {x:Addr}{xs:List V},hid H A0 x=some (.lst xs)→x≠kc:=fun {x xs} e z=>by
       h h1:=a9 _ _ e;rw[z,au _ _ J.ki.kcx] at h1;cases h1
     h k2:∀ {x:Addr}{xs:List V},hid H A0 x=some (.lst xs)→H' x=some (.lst xs):=fun e=>a9 _ _ (k1 _ _ (nk e) e)
     h sq':SqL K H' a (ns'.map V.int):=by
       rcases ha with (h | ⟨u,h⟩) | h
       . e .inl (.inl (k2 h))
       . e .inl (.inr ⟨u,a9 _ _ (k1 _ _ (fun z=>by h h1:=a9 _ _ h;rw[z,au _ _ J.ki.kcx] at h1;cases h1) h)⟩)
       . e .inr h
     r cY (fun σ' H''=>∃ z,z∈so∧σ'=[§a,§A0.x,§lk,§pl,£i,¢z]∧H''=H') (fun R hR=>?_) ?_
     . w;o⟨z,hz,hza⟩:=yI (ws:=so) (atL ns' (16+(i:Int))) (by m);r⟨_,SqL.of (au _ _ J1.ki.r.hlk),_,rfl,dB sq' (by m) ⟨_,SqL.of (au _ _ J1.ki.r.hlk),_,rfl,lo,rfl,_,.inl (SqL.of (au _ _ J1.ki.r.hlo)),?_⟩⟩;rw[be];e⟨_,rfl,by m,lo,rfl,_,SqL.of (au _ _ J1.ki.r.hlo),_,hza,hR _ _ ⟨z,hz,rfl,rfl⟩⟩
     rintro σ2 H2 ⟨z,hz,rfl,rfl⟩;h hzs:=J.ka.pm.mem_iff.mp hz;r cY (fun σ' H''=>σ'=[§a,§A0.x,§lk,§pl,£i,¢z]∧af (hid H2 A0) (hid H'' A0)∧aJ H'' CH CB A0 W ss { h with cl:=fi++[(c,z)] }) (fun R hR=>?_) ?_
     . w;o⟨Bd,hNd,hZd⟩:=J.ka.ho.on 1;e⟨A0.dx,_,J1.hh.ins,lko (by d) (by d) (by d) (by d),_,SqL.of (k2 hpl),_,rfl,pc,rfl,_,SqL.of (k2 hpc),_,cc hc',A0,W,ss,ns,{ h with cl:=fi },c,z,rfl,J1.hh,J1.ka.ho,by show fi.length≤1000;m,hcm.shw,Bd.snw z ((hZd z).mpr hzs),fun h=>absurd (hcm.good.symm.trans h) (by decide),fun _ h=>absurd h hcn,fun _ _ h=>absurd hzs h,fun _ _ _ h=>absurd h (by show ¬(50≤fi.length);m),fun _ _ _ _ H' S hh=>hR _ _ ⟨rfl,S,hh⟩⟩
     rintro σ3 H3 ⟨rfl,S3,hh3⟩;w;h K3:=J1.ki.same (rH S3 (dM.refl _ _) (X:=X));h hf:=(aU K3.kcx).2;h hkc3:=au _ _ K3.kcx;o⟨n1,n2,n3⟩:=dh hf;h hkc3h:hid H3 A0 kc=some (.dK (clV fi)):=fb hkc3 n1.1 n1.2.1 n1.2.2.1 n1.2.2.2;h k3:∀ {x:Addr}{xs:List V},hid H A0 x=some (.lst xs)→H3 x=some (.lst xs):=fun e=>a9 _ _ (S3 _ _ (k1 _ _ (nk e) e));h ho':bK ss ns { h with cl:=fi++[(c,z)] }:=J1.ka.ho.bring hcn hzs hcm.good;h kas:=(J1.ka.step (dd:=.bring c z) (h':={ h with cl:=fi++[(c,z)] }) ⟨hcm.good,hcn,hz⟩ rfl ho' (by show h.dp.length+1 < 1000;m) (by m) (by show fi.length < 50;m)).1;r⟨_,SqL.of (au _ _ K3.r.hlk),_,rfl,_,SqL.of (k3 hpl),_,rfl,pc,rfl,_,SqL.of (k3 hpc),_,cc hc',kc,rfl,_,.inl ⟨_,Sum.inr c,hkc3,rfl,by unfold clV;rw[be];show fi.length+1≤sizeLine;m,rfl⟩,?_⟩;rw[cZ _ (bN hcn)];rw[show clV fi++[(Sum.inr c,V.str z)]=clV (fi++[(c,z)]) by unfold clV;rw[zQ];rfl];r hR2 _ _ ⟨fi++[(c,z)],_,_,rfl,by rw[zQ,hfi,bw hc];rfl,⟨hh3.upd hkc3h n2,?_,fun b hb e=>?_,kas⟩,fun b o hb e=>?_⟩
     . rw[dz hf];e K3.cl
     . by_cases hbk:b=kc
       . rw[hbk,ac] at e;cases e
       . rw[ai hbk] at e;e(J1.oc.house S3 hh3) b hb e
     . rw[zA hkc3h,ai hb];e S3 _ _ (k1 _ _ hb e)
   . rintro σ H' ⟨fi,o4,o5,rfl,hfi,J1,k1⟩;r hR _ _ ⟨fi,o4,o5,rfl,fun c hc=>?_,?_,J1,k1⟩
     . h:c.1∈fi.map (·.1):=Aj hc;rw[hfi] at this;e(Br _ _).subset this
     . have:=congrArg B9 hfi;rw[be,Aa] at this;m
 rintro σ1 H1 ⟨fi,o4,o5,rfl,hf1,hf2,J1,k1⟩;w;e q _ _ J1 k1 rfl hf1 hf2
þ J38.start {H2 Ha Hb G:Hp}{CH CB:Addr}{A:Ad}{W:Hp}{X:Addr→Bool}{ss so:List Str}{bs:List (Str×List Str)}{lk kc kd kt lo t d:Addr}(hh2:aJ H2 CH CB A W ss ⟨[],1,[],[(1,(ss,bs))]⟩)(oc2:eO X H2)(B:aP ss bs)(Sa:af H2 Ha)(Sb:af Ha Hb)(Sc:af Hb G)(hks:∀ k∈[lk,kc,kd,kt],H2 k=none)(hlo2:H2 lo=none)(ht2:H2 t=none)(hkcA:Ha kc=some (.dK []))(hkd:G kd=some (.lst []))(ht:G t=some (.tup [.int 1,.ref d]))(hkt:G kt=some (.lst [.ref t]))(hlo:G lo=some (.lst (so.map V.str)))(hlk:G lk=some (.lst [.ref kc,.ref kd,.ref kt,.int 1,.ref lo]))(hd:Ha d=none)(hT:rF Ha Hb d ss bs)(hpm:so.Perm ss)(hso:Al so=true) :
   J38 G CH CB A W X lk kc kd kt lo so (bs.map (·.1)) ss ⟨[],1,[],[(1,(ss,bs))]⟩ [(1,lkB ss bs)]:=by
 h S:=Sa.trans (Sb.trans Sc);h occ:=hh2.occ oc2;h hs12:=B.s12;h hs1:=B.s1;h hb8:=B.b8;h nf:∀ {b:Addr}{o:HO},H2 b=none→G b=some o→bn (fX A W X) G b=some o:=fun h e=>cf e (occ.new h);h hkcG:G kc=some (.dK []):=(Sb.trans Sc) _ _ hkcA;h hsl:=hpm.length_eq
 h k2:∀ {b:Addr},Ha b=none→H2 b=none:=fun {b} e=>by
   cases hz:H2 b with
   | none=>rfl
   | some o=>rw[Sa _ _ hz] at e;cases e
 h bk:∀ d:Int,1≤d→aV [(1,(ss,bs))] d=(ss,bs):=fun d hd=>by
   simp[aV,hd]
 h n1:so≠[]:=fun e=>by rw[e] at hsl;simp at hsl;m
 r⟨af.house S hh2,⟨⟨nf (hks _ (by simp)) hlk,nf hlo2 hlo,.inl (nf (hks _ (by simp)) hkcG),⟨[],nf (hks _ (by simp)) hkd,rfl,fun _ _ _ h=>(by cases h)⟩,[t],[d],nf (hks _ (by simp)) hkt,rfl,rfl,fun i p d' e hp hd' he=>?_⟩,nf (hks _ (by simp)) hkcG,?_⟩,fun b hb e=>?_,⟨⟨⟨_,_,rfl⟩,fun d hd=>⟨lkB ss bs,?_,fun n _ z _=>?_⟩,by show 1≤1000;decide⟩,⟨List.Pairwise.nil,fun i e he=>(by cases he)⟩,bK.new B,fun e he=>(by cases he),fun e he=>(by cases he),fun e he=>?_,B.snd,hpm.nodup_iff.mpr B.snd,hso,B.bnd,hpm,by m,by rw[be];e hb8,by show 0 < 1000;decide,by show 0≤60;decide,by show 1 < 1000;decide⟩⟩
 . cases i with
   | zero =>
     cases hp;cases hd';cases he;r⟨nf ht2 ht,hT.tabG B hd fun b u hb hu=>?_⟩;rw[aY (fun z=>by rw[z,hkcA] at hb;cases hb)];e nf (k2 hb) (Sc _ _ hu)
   | succ j=>cases hp
 . r⟨fun e=>?_,fun e=>?_,fun e=>?_,fun e=>?_,fun e=>?_,fun e=>?_⟩
   . rw[e,hkd] at hlk;cases hlk
   . rw[e,hkt] at hlk;cases hlk
   . rw[e,hkt] at hkd;cases hkd
   . rw[e,hlk] at hlo
     cases so with
     | nil=>e n1 rfl
     | cons a r=>cases hlo
   . rw[e,hkd] at hlo
     cases so with
     | nil=>e n1 rfl
     | cons a r=>cases hlo
   . rw[e,hkt] at hlo
     cases so with
     | nil=>e n1 rfl
     | cons a r=>cases hlo
 . cases hz:H2 b with
   | none=>e oc2 b hb hz
   | some o=>rw[S _ _ hz] at e;cases e
 . unfold fZ;rw[AV (by simpa using hd)];rfl
 . rw[bk d hd]
 . rw[List.mem_singleton.mp he];e⟨Bv _,Bv _⟩
þ xR {K:PySem.W.Frag}{B0 H:Hp}{a:Addr}{xs:List V}(h:SqL K B0 a xs)(k:∀ b o,B0 b=some o→(∀ u,o≠.dK u)→H b=some o):SqL K H a xs:=by
 rcases h with (h | ⟨u,h⟩) | h
 . e .inl (.inl (k _ _ h (fun _ e=>by cases e)))
 . e .inl (.inr ⟨u,k _ _ h (fun _ e=>by cases e)⟩)
 . e .inr h
þ uj:∀ (l m:List Str),l.Nodup→(∀ x∈l,x∈m)→l.length≤m.length
 | [],_,_,_=>AA _
 | a::l,m,hn,hm=>by
   rw[BD] at hn;h ha:=hm a zV;h h1:=uj l (m.erase a) hn.2 (fun x hx=>(BP (fun e=>hn.1 (by rw[←e];e hx))).mpr (hm x (zX _ hx)));rw[BA ha] at h1;h h2:=BI ha;rw[Av];m
abbrev bBN:List Bool:=[true,false,false,false,false,false,false,false,false,false,false,false]
abbrev bKn:List Bool:=[false,true,false,false,false,false,false,false,false,false,false,false]
abbrev bNS:List Bool:=[false,false,false,false,true,false,false,false,false,false,false,false]
abbrev bNC:List Bool:=[false,false,true,false,false,false,false,false,false,false,false,false]
abbrev bNB:List Bool:=[false,false,false,true,false,false,false,false,false,false,false,false]
abbrev bBB:List Bool:=[false,false,false,false,false,true,false,false,false,false,false,false]
abbrev bND:List Bool:=[false,false,false,false,false,false,false,false,true,false,false,false]
abbrev bLa:List Bool:=[false,false,false,false,false,false,false,false,false,true,false,false]
abbrev bNo:List Bool:=[false,false,false,false,false,false,false,false,false,false,true,false]
þ y8:dQ (true::bBN)=¶"ValueError "++¶"BadName":=by d
þ zr:dQ (true::bKn)=¶"ValueError "++¶"Known":=by d
þ yL:dQ (true::bNS)=¶"ValueError "++¶"NoShade":=by d
þ ze:dQ (true::bNC)=¶"ValueError "++¶"NoCloth":=by d
þ yW:dQ (true::bNB)=¶"ValueError "++¶"NoBath":=by d
þ zg:dQ (true::bBB)=¶"ValueError "++¶"BadBook":=by d
þ zp:dQ (true::bND)=¶"ValueError "++¶"NoDay":=by d
þ yX:dQ (true::bLa)=¶"ValueError "++¶"Late":=by d
þ yQ:dQ (true::bNo)=¶"ValueError "++¶"NoDip":=by d
þ zC {K:PySem.W.Frag}{cs:List Addr}{dip cBN cKn cNS cNC cNB cBB cND cLa cNo:Addr}(hBN:Bits K cs dip cBN bBN)(hKn:Bits K cs dip cKn bKn)(hNS:Bits K cs dip cNS bNS)(hNC:Bits K cs dip cNC bNC)(hNB:Bits K cs dip cNB bNB)(hBB:Bits K cs dip cBB bBB)(hND:Bits K cs dip cND bND)(hLa:Bits K cs dip cLa bLa)(hNo:Bits K cs dip cNo bNo):zb K cs dip cBN cKn cNS cNC cNB cBB cND cLa cNo:=⟨fun C w h=>by
 rcases h with ⟨rfl,rfl⟩ | ⟨rfl,rfl⟩ | ⟨rfl,rfl⟩ | ⟨rfl,rfl⟩ | ⟨rfl,rfl⟩ | ⟨rfl,rfl⟩ | ⟨rfl,rfl⟩ | ⟨rfl,rfl⟩ | ⟨rfl,rfl⟩
 . e⟨_,hBN,y8⟩
 . e⟨_,hKn,zr⟩
 . e⟨_,hNS,yL⟩
 . e⟨_,hNC,ze⟩
 . e⟨_,hNB,yW⟩
 . e⟨_,hBB,zg⟩
 . e⟨_,hND,zp⟩
 . e⟨_,hLa,yX⟩
 . e⟨_,hNo,yQ⟩⟩
noncomputable def rL (K:PySem.W.Frag):Sp:=fun vs H Q _=>∃ (a:Addr)(ns:List Int),vs=[.ref a]∧SqL K H a (ns.map V.int)∧ns.length≤63∧∀ H',Q (.bl true) H'
þ fV:ay ["_law_script", "_law_shades", "_law_baths", "_law_spare", "_law_other", "_law_house", "_law_kept", "_law_pools_here", "_law_mixed", "_law_k", "_law_deed_here"] ["_law_script"] (ar yc):=®
þ xE {f fAt fPl fTa fHd fD fPo fBg fDw fFt fAl fSe fDz fHY fHI:Addr}{fd fdAt fdPl fdTa fdHd fdD fdPo fdBg fdDw fdFt fdAl fdSe fdDz fdHY fdHI:FuncData}{CH CB cBN cKn cNS cFu cNC cNB cBB cND cLa cNo dip:Addr}{cs:List Addr}(F:Fun K "law" "law" yc f fd)
   (T:Txt mg)(hX:Hx K mg CH)
   (GAt:Cl P w K mg base CX0 1 "_law_at" ["_law_script", "_law_k"] (sM K) fAt fdAt)
   (GPl:Cl P w K mg base CX0 4 "_law_plain" ["_law_script", "_law_count"] (rj K) fPl fdPl)
   (GTa:Cl P w K mg base CX0 1 "_law_tables" ["_law_shades", "_law_baths"] (lj K) fTa fdTa)
   (GHd:Cl P w K mg base CX0 6 "_law_handed" ["_law_shades", "_law_baths"] (lm K CB) fHd fdHd)
   (GD:Cl P w K mg base CX0 1 "_law_draws" ["_law_cell", "_law_many", "_law_bound", "_law_mixed"] jA fD fdD)
   (GPo:Cl P w K mg base CX0 3 "_law_pools" ["_law_script", "_law_shades", "_law_baths", "_law_spare", "_law_other"] (rB K) fPo fdPo)
   (GBg:Cl P w K mg base CX0 8 "_law_begun" ["_law_script", "_law_house", "_law_kept", "_law_pools_here"] (rg K CH CB) fBg fdBg)
   (GDw:Cl P w K mg base CX0 2 "_law_deed" ["_law_drawn", "_law_kept", "_law_pools_here"] rQ fDw fdDw)
   (GFt:Cl P w K mg base CX0 10 "_law_fits" ["_law_house", "_law_kept", "_law_deed_here"] (uZ K CH CB cBN cKn cNS cFu cNC cNB cBB cND cLa cNo cs dip) fFt fdFt)
   (GAl:Cl P w K mg base CX0 3 "_law_alike" ["_law_found", "_law_due_here"] (eU (eU (eU oI))) fAl fdAl)
   (GSe:Cl P w K mg base CX0 5 "_law_seen" ["_law_house", "_law_kept", "_law_days_here"] (vd K CH CB) fSe fdSe)
   (GDz:Cl P w K mg base CX0 1 "_law_days" ["_law_kept"] vc fDz fdDz)
   (GHY:Cm P w K mg base (CX1 P w) 1 CH "today" ["self"] (kL CH CB) fHY fdHY)
   (MH:Mk K CH fHI)(GHI:aW P w K mg base CX0 1 fHI fdHI ["self", "book"] (rK CH CB))(bHI:eC K fdHI ["self", "book"] [])(mCH:mg "House"=§CH) :
   aW P w K mg base CX0 11 f fd ["_law_script"] (rL K):=by
 fo fV;o⟨a,ns,rfl,ha,hn,q⟩:=h;h cH:=hX.c;h hr1:=hr.mono (j:=1) (by m);h hr2:=hr.mono (j:=2) (by m);h hr3:=hr.mono (j:=3) (by m);h hr4:=hr.mono (j:=4) (by m);h hr5:=hr.mono (j:=5) (by m);h hr6:=hr.mono (j:=6) (by m);h hr8:=hr.mono (j:=8) (by m);h hr10:=hr.mono (j:=10) (by m)
 r⟨_,(aj (mq (pC GPl hr4 aA (aa (pv 0) (aa (aI br (pC GAt hr1 aA (aa (pv 0) (aa ag ae))) ag) ae))) (cC (n:=4) rfl (aG (aw (i:=1) fV.nd rfl (Or.inl rfl)) (aG (aw (i:=2) fV.nd rfl (Or.inl rfl)) (aG (aw (i:=3) fV.nd rfl (Or.inl rfl)) (aG (aw (i:=4) fV.nd rfl (Or.inl rfl)) bV))))))
   (aj (aL (i:=5) fV.nd rfl (Or.inl rfl) (mR MH GHI hr2 rfl mCH bHI .nil aA (aa (pC GHd hr6 aA (aa (pv 1) (aa (pv 2) ae))) ae)))
   (aj (aL (i:=6) fV.nd rfl (Or.inl rfl) (bq (aa ed (aa (bq ae) (aa (bq (aa (bS (aa ag (aa (pC GTa hr1 aA (aa (pv 1) (aa (pv 2) ae))) ae))) ae)) (aa ag (aa (al fe (by rfl) T.sorted (by d) (aa (pv 1) ae)) ae)))))))
   (aj (aL (i:=7) fV.nd rfl (Or.inl rfl) (pC GPo hr3 aA (aa (pv 0) (aa (pv 1) (aa (pv 2) (aa (pv 3) (aa (pv 4) ae)))))))
   (aj (aR (pC GBg hr8 aA (aa (pv 0) (aa (pv 5) (aa (pv 6) (aa (pv 7) ae))))))
   (aj (aL (i:=8) fV.nd rfl (Or.inl rfl) (aI br (pC GAt hr1 aA (aa (pv 0) (aa ag ae))) ag))
   (aj (bC PassesOwn.never rfl (ck rfl T.range (aa (al (l8 rfl) (by rfl) T.min (by d) (aa ag (aa (al av (by rfl) T.len zT (aa (pv 0) ae)) ae))) ae)) (aw (i:=9) fV.nd rfl (Or.inl rfl)) (aj (aL (i:=10) fV.nd rfl (Or.inl rfl) (pC GDw hr2 aA (aa (pC GD hr1 aA (aa (aI cp (am ak (pv 0) (pv 9) ¿) (aI fN (aI fN ag (pv 9)) (pv 8))) (aa ag (aa ag (aa (pv 8) ae))))) (aa (pv 6) (aa (pv 7) ae)))))
   (ah (aC (PW.pt (em (bW (bF (pC GFt hr10 aA (aa (pv 5) (aa (pv 6) (aa (pv 10) ae)))))) (cM (bW (bF (pC GAl hr3 aA (aa (pM0 (pv 5) cH GHY hr1 gA) (aa (am ak (pv 6) ag ¿) ae)))))))) (ah (aq cx)) ao))))
   (ah (aq (pC GSe hr5 aA (aa (pv 5) (aa (pv 6) (aa (pC GDz hr1 aA (aa (pv 6) ae)) ae))))))))))))),?_⟩
 try dsimp only[aE,aO]
 h hs:=aM;h lk0:∀ {A0:Ad}{m:Str}{dd:Int},(m==¶"first_shades")=false→(m==¶"day_now")=false→(m==¶"standing")=false→(m==¶"books_from")=false→Af m (hfs A0 dd)=none:=fun h1 h2 h3 h4=>d9 h1 h2 h3 h4;cu ∃ l lb ss bs spare other,σ'=[§a,§l,§lb,¢spare,¢other,none,none,none,none,none,none]∧af H H'∧H' l=some (.lst (ss.map V.str))∧iq H' lb bs∧aP ss bs∧Nm spare∧Nm other
 . w
   h h0:(0:Int)≤atL ns 1 % 9:=by m
   r dB ha (by decide) ⟨_,rfl,by decide,a,ns,(atL ns 1 % 9).toNat,by rw[BX h0],ha,by m,fun p l lb ss bs spare other H' S h1 h2 h3 h4 h5 B hbl n1 _ n2 _=>?_⟩;e⟨p,_,rfl,SqT.of h1,rfl,_,_,rfl,_,_,rfl,_,_,rfl,_,_,rfl,rfl,hR _ _ ⟨l,lb,ss,bs,_,_,rfl,S,h3,h5,B,n1,n2⟩⟩
 rintro σ1 H1 ⟨l,lb,ss,bs,spare,other,rfl,S1,hl,hb,B,nsp,noth⟩;h hs12:=B.s12;h hs1:=B.s1;h hb8:=B.b8;cu ∃ (A0:Ad)(W:Hp),σ'=[§a,§l,§lb,¢spare,¢other,§A0.x,none,none,none,none,none]∧af H1 (hid H' A0)∧aJ H' CH CB A0 W ss ⟨[],1,[],[(1,(ss,bs))]⟩∧∀ b o,H1 b=some o→W b=none
 . w;r⟨l,lb,ss,bs,rfl,SqL.of hl,hb,B,fun r H' hr S hbk=>?_⟩;show ∀ (x dx:Addr),_;intro x dx hx hdx hne
   h S6:af H' (hide (upd (upd H' dx (.own x)) x (.ins CH dx [])) x):=fun y o e=>by
     rw[aY (aF e hx),ai (aF e hx),ai (aF e hdx)];e e
   e⟨x,dx,r,cW H1 H',ss,bs,rfl,ac,lv.trans S6,hbk,fun A0 H2 hA S7 hh=>⟨rfl,by rw[←hA];e hR _ _ ⟨A0,_,rfl,(S.trans S6).trans S7,hh,fun b o e=>by unfold cW;rw[e]⟩⟩⟩
 rintro σ2 H2 ⟨A0,W,rfl,S2,hh2,hW2⟩;h ho2:=bK.new B;h occ2:eO (fX A0 W fun _=>false) H2:=hh2.occ (fun b hb=>by cases hb);cu ∃ lk kc kd kt lo so,σ'=[§a,§l,§lb,¢spare,¢other,§A0.x,§lk,none,none,none,none]∧af H2 H'∧(∀ k∈[lk,kc,kd,kt],H2 k=none)∧J38 H' CH CB A0 W (fun _=>false) lk kc kd kt lo so (bs.map (·.1)) ss ⟨[],1,[],[(1,(ss,bs))]⟩ [(1,lkB ss bs)]
 . w;intro kc hkc;r⟨by m,fun kd hkd=>?_⟩;h Sa:af H2 (upd (upd H2 kc (.dK [])) kd (.lst [])):=(af.updN hkc).trans (af.updN hkd);h hckd:kc≠kd:=aF ac hkd
   h hkc1:upd (upd H2 kc (.dK [])) kd (.lst []) kc=some (.dK []):=by rw[ai hckd];e ac
   h hkd1:upd (upd H2 kc (.dK [])) kd (.lst []) kd=some (.lst []):=ac;generalize upd (upd H2 kc (.dK [])) kd (.lst [])=Ha at *;r⟨l,lb,ss,bs,rfl,SqL.of ((S2.trans (a9.trans Sa)) _ _ hl),af.bths (S2.trans (a9.trans Sa)) hb,B,fun d Hb hd Sb hT=>?_⟩;r⟨by m,fun t ht=>⟨by m,fun kt hkt=>?_⟩⟩;r⟨ss,SqL.of (((Sb.trans (af.updN ht)).trans (af.updN hkt)) _ _ ((S2.trans (a9.trans Sa)) _ _ hl)),by m,fun lo so hlo hpm hso=>⟨by m,fun lk hlk=>?_⟩⟩;h Sc:af Hb (upd (upd (upd (upd Hb t (.tup [.int 1,.ref d])) kt (.lst [.ref t])) lo (.lst (so.map V.str))) lk (.lst [.ref kc,.ref kd,.ref kt,.int 1,.ref lo])):=((af.updN ht).trans (af.updN hkt)).trans ((af.updN hlo).trans (af.updN hlk))
   h n2:∀ {G:Hp}{x:Addr},af H2 G→G x=none→H2 x=none:=fun {G x} S e=>by
     cases hz:H2 x with
     | none=>rfl
     | some o=>rw[S _ _ hz] at e;cases e
   h Sab:=Sa.trans Sb;h Lt:af Hb (upd Hb t (.tup [.int 1,.ref d])):=af.updN ht;h Lkt:af (upd Hb t (.tup [.int 1,.ref d])) (upd (upd Hb t (.tup [.int 1,.ref d])) kt (.lst [.ref t])):=af.updN hkt;h Llo:af (upd (upd Hb t (.tup [.int 1,.ref d])) kt (.lst [.ref t])) (upd (upd (upd Hb t (.tup [.int 1,.ref d])) kt (.lst [.ref t])) lo (.lst (so.map V.str))):=af.updN hlo;h Llk:af (upd (upd (upd Hb t (.tup [.int 1,.ref d])) kt (.lst [.ref t])) lo (.lst (so.map V.str))) (upd (upd (upd (upd Hb t (.tup [.int 1,.ref d])) kt (.lst [.ref t])) lo (.lst (so.map V.str))) lk (.lst [.ref kc,.ref kd,.ref kt,.int 1,.ref lo])):=af.updN hlk
   h hks:∀ k∈[lk,kc,kd,kt],H2 k=none:=fun k hk=>by
     simp only[Az,Aq,or_false] at hk
     rcases hk with rfl | rfl | rfl | rfl
     . e n2 (Sab.trans (Lt.trans (Lkt.trans Llo))) hlk
     . e hkc
     . e n2 (af.updN hkc) hkd
     . e n2 (Sab.trans Lt) hkt
   e hR _ _ ⟨lk,kc,kd,kt,lo,so,rfl,Sab.trans Sc,hks,J38.start hh2 (fun b hb=>by cases hb) B Sa Sb Sc hks (n2 (Sab.trans (Lt.trans Lkt)) hlo) (n2 Sab ht) hkc1 (Sc _ _ (Sb _ _ hkd1)) (Llk _ _ (Llo _ _ (Lkt _ _ ac))) (Llk _ _ (Llo _ _ ac)) (Llk _ _ ac) ac hd hT hpm hso⟩
 rintro σ3 H3 ⟨lk,kc,kd,kt,lo,so,rfl,S3,hks,J3⟩;h up3:=S2.trans (a9.trans S3);cu ∃ (pl pc pb pz:Addr)(ws PB PZ:List Str) (w:Str),σ'=[§a,§l,§lb,¢spare,¢other,§A0.x,§lk,§pl,none,none,none]∧af H3 H'∧(∀ p∈[pl,pc,pb,pz],H3 p=none)∧H' pl=some (.lst [.ref pc,.ref pb,.ref pz])∧H' pc=some (.lst ((ws++[w]).map V.str))∧H' pb=some (.lst (PB.map V.str))∧H' pz=some (.lst (PZ.map V.str))∧ws.length=5∧ws.Nodup∧(∀ x∈ws,Nm x)∧Shw w∧(1≤PB.length∧PB.length≤100)∧(1≤PZ.length∧PZ.length≤100)∧(∀ c∈PB,Shw c)∧(∀ c∈PZ,Shw c)
 . w;r⟨a,l,lb,ns,ss,bs,spare,other,rfl,(S1.trans up3).seq ha,up3 _ _ hl,af.bths up3 hb,B,B.snw,B.bnw,nsp.shw,noth.shw,fun pl pc pb pz ws PB PZ w H' S n1 n2 n3 n4 e1 e2 e3 e4 g1 g2 g3 g4 g5 g6 g7 g8=>hR _ _ ⟨pl,pc,pb,pz,ws,PB,PZ,w,rfl,S,fun p hp=>?_,e1,e2,e3,e4,g1,g2,g3,g4,g5,g6,g7,g8⟩⟩;simp only[Az,Aq,or_false] at hp
   rcases hp with rfl | rfl | rfl | rfl<;>assumption
 rintro σ4 H4 ⟨pl,pc,pb,pz,ws,PB,PZ,w,rfl,S4,hnp,hpl,hpc,hpb,hpz,hw5,hwn,hwm,hww,lPB,lPZ,sPB,sPZ⟩;h J4:=J3.same S4;h hpH:∀ {p:Addr}{xs:List V},p∈[pl,pc,pb,pz]→H4 p=some (.lst xs)→hid H4 A0 p=some (.lst xs):=fun hp e=>mJ J3.hh (hnp _ hp) e;h hplh:=hpH (by simp) hpl;h hpch:=hpH (by simp) hpc;h hpbh:=hpH (by simp) hpb;h hpzh:=hpH (by simp) hpz;h hah:SqL K (hid H4 A0) a (ns.map V.int):=((S1.trans S2).trans (cj (S3.trans S4))).seq ha
 h hso1:1≤so.length:=by rw[J3.ka.pm.length_eq];e hs1
 h hsoS:∀ z∈so,Shw z:=fun z hz=>B.snw z (J3.ka.pm.mem_iff.mp hz);cu ∃ h,σ'=[§a,§l,§lb,¢spare,¢other,§A0.x,§lk,§pl,none,none,none]∧J38 H' CH CB A0 W (fun _=>false) lk kc kd kt lo so (bs.map (·.1)) ss h [(1,lkB ss bs)]∧(∀ b o,b≠kc→hid H4 A0 b=some o→hid H' A0 b=some o)∧h.dp.length=0∧∀ c∈h.cl,c.1∈ws
 . w;e⟨A0,W,fun _=>false,lk,kc,kd,kt,lo,so,_,ss,_,_,a,pl,pc,pb,pz,ns,ws,w,rfl,hah,J4,rfl,by show 0 < 999;decide,by show 1 < 999;decide,hso1,hplh,hpch,hw5,hwn,hwm,fun H' h' J k edp ecl lcl=>hR _ _ ⟨h',rfl,J,k,by rw[edp];rfl,ecl⟩⟩
 rintro σ5 H5 ⟨h5,rfl,J5,k5,hdp5,hcl5⟩;h hB0:∃ B0:Hp,B0=bn (fun b=>decide (b∈[lk,kc,kd,kt])) (hid H4 A0):=⟨_,rfl⟩;o⟨B0,hB0⟩:=hB0
 h b0:∀ {b:Addr}{o:HO},B0 b=some o→b∉[lk,kc,kd,kt]∧hid H4 A0 b=some o:=fun {b o} e=>by
   rw[hB0] at e;have:=aU e;e⟨fun hm=>(by h h2:=this.2;rw[decide_eq_true hm] at h2;cases h2),this.1⟩
 h hpk:∀ p∈[pl,pc,pb,pz],p∉[lk,kc,kd,kt]:=fun p hp hk=>by
   h h1:=hnp p hp
   h h3:∃ o,H3 p=some o:=by
     o⟨psd,hkd,_⟩:=J3.ki.r.hkd;o⟨pst,dst,hkt,_⟩:=J3.ki.r.hkt;simp only[Az,Aq,or_false] at hk
     rcases hk with rfl | rfl | rfl | rfl
     . e⟨_,au _ _ J3.ki.r.hlk⟩
     . e⟨_,au _ _ J3.ki.kcx⟩
     . e⟨_,au _ _ hkd⟩
     . e⟨_,au _ _ hkt⟩
   o⟨o,h3⟩:=h3;rw[h1] at h3;cases h3
 h hpB:∀ {p:Addr}{xs:List V},p∈[pl,pc,pb,pz]→hid H4 A0 p=some (.lst xs)→B0 p=some (.lst xs):=fun {p xs} hp e=>by
   rw[hB0];e cf e (decide_eq_false (hpk p hp))
 h hplB:=hpB (by simp) hplh;h hpcB:=hpB (by simp) hpch;h hpbB:=hpB (by simp) hpbh;h hpzB:=hpB (by simp) hpzh
 h haB:SqL K B0 a (ns.map V.int):=by
   h hk:∀ b o,H1 b=some o→B0 b=some o:=fun b o e=>by
     rw[hB0];r cf ((cj (S3.trans S4)) _ _ (S2 _ _ e)) (decide_eq_false fun hm=>?_);h h1:=a9 _ _ (S2 _ _ e);rw[hks b hm] at h1;cases h1
   rcases S1.seq ha with (h | ⟨u,h⟩) | h
   . e .inl (.inl (hk _ _ h))
   . e .inl (.inr ⟨u,hk _ _ h⟩)
   . e .inr h
 h kb5:∀ b o,B0 b=some o→(∀ u,o≠.dK u)→hid H5 A0 b=some o:=fun b o e _=>k5 b o (fun z=>(b0 e).1 (by rw[z];simp)) (b0 e).2;cu ∃ mx:Int,(mx=0∨mx=1)∧σ'=[§a,§l,§lb,¢spare,¢other,§A0.x,§lk,§pl,£mx,none,none]∧H'=H5
 . w;e dB (xR haB fun b o e n=>a9 _ _ (kb5 b o e n)) (by decide) ⟨_,rfl,by decide,hR _ _ ⟨_,by m,rfl,rfl⟩⟩
 rintro σ6 H6 ⟨mx,hmx,rfl,rfl⟩;cu ∃ (W':Hp) (h:Hs)(Tb:List (Int×LK))(o9 o10:Option V),σ'=[§a,§l,§lb,¢spare,¢other,§A0.x,§lk,§pl,£mx,o9,o10]∧J38 H' CH CB A0 W' (fun _=>false) lk kc kd kt lo so (bs.map (·.1)) ss h Tb∧(∀ c∈h.cl,c.1∈ws++[w])
 . w;r⟨_,.inl (xR haB fun b o e n=>a9 _ _ (kb5 b o e n)),?_⟩;rw[be];r⟨by split<;>m,by split<;>m,?_⟩
   h hmin:(if((ns.length:Nat):Int) < 200 then((ns.length:Nat):Int) else 200).toNat=ns.length:=by rw[if_pos (by m)];m
   rw[hmin];r bo (H0:=fun _=>none) bv (fun i σ' H'=>∃ (W':Hp) (h:Hs)(Tb:List (Int×LK))(o9 o10:Option V),σ'=[§a,§l,§lb,¢spare,¢other,§A0.x,§lk,§pl,£mx,o9,o10]∧J38 H' CH CB A0 W' (fun _=>false) lk kc kd kt lo so (bs.map (·.1)) ss h Tb∧(∀ b o,B0 b=some o→(∀ u,o≠.dK u)→hid H' A0 b=some o)∧h.dp.length≤i∧Tb.length≤i+1∧∀ c∈h.cl,c.1∈ws++[w]) ⟨W,h5,_,none,none,rfl,J5,kb5,by m,zN _,fun c hc=>AR _ (hcl5 c hc)⟩ (fun _ _ _ _ _ b o e=>by cases e) ?_ ?_
   . rintro i x σ H' hi rfl ⟨W',h,Tb,o9,o10,rfl,J,kb,hdl,htl,hcl⟩ R2 hR2
     h hz:(0:Int)+(i:Int)=i:=by m
     rw[hz]
     h hm9:(31:Int)*i*mx < 2 ^ 62:=by rcases hmx with e | e<;>(rw[e];m)
     h hcl6:h.cl.length < 50:=by
       have:=uj (h.cl.map (·.1)) (ws++[w]) J.ka.ho.cnd (fun x hx=>by o⟨c,hc,rfl⟩:=List.mem_map.mp hx;e hcl c hc);rw[be,zL,zR] at this;m
     h kl:∀ {p:Addr}{xs:List V},B0 p=some (.lst xs)→hid H' A0 p=some (.lst xs):=fun e=>kb _ _ e (fun _ e=>by cases e);r cY (fun σ' H''=>∃ (t:Addr)(dd:Dd),σ'=[§a,§l,§lb,¢spare,¢other,§A0.x,§lk,§pl,£mx,£i,§t]∧af H' H''∧H'' t=some (.tup dd.tup)∧dd.fine H''∧dd.luok [lk,kc,kd,kt]∧∀ c z,dd=.bring c z→c∈ws++[w]) (fun R hR=>?_) ?_
     . w;r⟨_,xR haB fun b o e n=>a9 _ _ (kb b o e n),V.int ns[i],bU (by rw[zK,zJ hi];rfl),.inl ⟨by decide,by decide⟩,.inl ⟨by m,by m⟩,_,rfl,_,_,_,_,rfl,by decide,by decide,by decide,by decide,hmx,fun dr H'' hdr S'' hH''=>?_⟩;h J'':=J.same S'';r⟨dr,pl,pc,pb,pz,_,ws++[w],PB,PZ,lk,kc,kd,kt,lo,so,_,ss,h,Tb,rfl,hH'',Cu (eZ _ _ _ _).symm,J''.ki.r.same au,hso1,J.ka.so12,hsoS,S'' _ _ (a9 _ _ (kl hplB)),S'' _ _ (a9 _ _ (kl hpcB)),S'' _ _ (a9 _ _ (kl hpbB)),S'' _ _ (a9 _ _ (kl hpzB)),by rw[zL,hw5,zR];e⟨by decide,by decide⟩,lPB,lPZ,fun c hc=>?_,sPB,sPZ,fun t dd H3' S3' hn3 ht3 hf3 hlu3 hbr3=>hR _ _ ⟨t,dd,rfl,S''.trans S3',ht3,hf3,?_,hbr3⟩⟩
       . rcases List.mem_append.mp hc with hc | hc
         . e(hwm c hc).shw
         . rw[List.mem_singleton.mp hc];e hww
       . cases dd with
         | change b lu os d =>
           intro hm;h h1:=hlu3 b lu os d rfl;o⟨psd,hkd,_⟩:=J''.ki.r.hkd;o⟨pst,dst,hkt,_⟩:=J''.ki.r.hkt;simp only[Az,Aq,or_false] at hm
           rcases hm with rfl | rfl | rfl | rfl
           . rw[au _ _ J''.ki.r.hlk] at h1;cases h1
           . rw[au _ _ J''.ki.kcx] at h1;cases h1
           . rw[au _ _ hkd] at h1;cases h1
           . rw[au _ _ hkt] at h1;cases h1
         | _=>trivial
     rintro σ1 H1' ⟨t,dd,rfl,S1',ht,hfd,hlu,hbr⟩;h J1:=J.same S1';w;r⟨A0,W',fun _=>false,lk,kc,kd,kt,lo,so,_,ss,h,Tb,t,dd,rfl,J1,ht,hfd,hlu,B.snd,hcl6,by m,by m,fun H2' W2 h2 Tb2 J2 kp gr l1 l2 l3=>?_⟩
     h kb2:∀ b o,B0 b=some o→(∀ u,o≠.dK u)→hid H2' A0 b=some o:=fun b o e n=>by
       h e1:=gN (kb b o e n)
       rcases kp b o (b0 e).1 e1.2 (S1' _ _ e1.1) with h | ⟨_,u,_,z,_⟩
       . e fb h e1.2.1 e1.2.2.1 e1.2.2.2.1 e1.2.2.2.2
       . e(n u z).elim
     r⟨true,rfl,az (fun h=>by cases h) (fun _=>?_)⟩;r⟨A0.dx,_,J2.hh.ins,lk0 (by d) (by d) (by d) (by d),A0,W2,ss,h2,rfl,J2.hh,_,SqL.of (au _ _ J2.ki.r.hlk),_,rfl,_,_,rfl,.inr (.inl ⟨_,_,rfl,rfl,_,rfl,az (fun hc=>by simp at hc) (fun _=>hR2 _ _ ⟨W2,h2,Tb2,_,_,rfl,J2,kb2,by m,by m,fun c hc=>?_⟩)⟩)⟩
     rcases l3 c hc with hc | ⟨z,hz⟩
     . e hcl c hc
     . e hbr _ _ hz
   . rintro σ H' ⟨W',h,Tb,o9,o10,rfl,J,kb,hdl,htl,hcl⟩;e hR _ _ ⟨W',h,Tb,o9,o10,rfl,J,hcl⟩
 rintro σ7 H7 ⟨W',h,Tb,o9,o10,rfl,J7,hcl7⟩;w;h ho7:=J7.ka.ho;r⟨lk,kc,kd,kt,lo,so,_,ss,h,Tb,rfl,J7.ki.r.same au,⟨ho7.d1,ho7.d4⟩,fun e he=>?_,fun e he=>?_,fun ld L H' S hn hl hL hd=>?_⟩
 . h h1:=ho7.dd e he;h h2:=ho7.d4;e⟨h1.1,by m⟩
 . h h1:=J7.ka.ts e he;h h2:=ho7.d4;e⟨h1.1,by m⟩
 . r⟨A0,W',fun _=>false,lk,kc,kd,kt,lo,so,_,ss,h,Tb,ld,L,rfl,(J7.same S).jr,hl,by m,hd,fun c hc=>?_,fun H' _ _=>q H'⟩
   rcases List.mem_append.mp (hcl7 c hc) with hc | hc
   . e(hwm _ hc).shw
   . rw[List.mem_singleton.mp hc];e hww
end
end DM
namespace DM
open PySem L2
þ bits12 {K:PySem.W.Frag}{C:Addr}{x1 x2 x3 x4 x5 x6 x7 x8 x9 x10 x11 x12:Addr}{b1 b2 b3 b4 b5 b6 b7 b8 b9 b10 b11 b12:Bool}
   (h1:Ab K (.ref C) (.ref x1)=some b1)(h2:Ab K (.ref C) (.ref x2)=some b2)(h3:Ab K (.ref C) (.ref x3)=some b3)(h4:Ab K (.ref C) (.ref x4)=some b4)(h5:Ab K (.ref C) (.ref x5)=some b5)(h6:Ab K (.ref C) (.ref x6)=some b6)(h7:Ab K (.ref C) (.ref x7)=some b7)(h8:Ab K (.ref C) (.ref x8)=some b8)(h9:Ab K (.ref C) (.ref x9)=some b9)(h10:Ab K (.ref C) (.ref x10)=some b10)(h11:Ab K (.ref C) (.ref x11)=some b11)(h12:Ab K (.ref C) (.ref x12)=some b12) :
   ∀ (i:Nat) c b,[x1,x2,x3,x4,x5,x6,x7,x8,x9,x10,x11,x12][i]?=some c→[b1,b2,b3,b4,b5,b6,b7,b8,b9,b10,b11,b12][i]?=some b→Ab K (.ref C) (.ref c)=some b:=by
 intro i c b hc hb
 rcases i with _ | _ | _ | _ | _ | _ | _ | _ | _ | _ | _ | _ | i
 all_goals first
   | (cases hc;cases hb;assumption)
   | (cases hc)
þ isSm {α:Type}{o:Option α}{c:α}(h:o=some c):o.isSome=true:=by rw[h];rfl
local macro "bb":tactic=>`(tactic| first | (exact fun _ _ _ _ _ _ us hl=>match us,hl with | [_],_=>rfl) | (exact fun _ _ _ _ _ _ us hl=>match us,hl with | [_,_],_=>rfl) | (exact fun _ _ _ _ _ _ us hl=>match us,hl with | [_,_,_],_=>rfl) | (exact fun _ _ _ _ _ _ us hl=>match us,hl with | [_,_,_,_],_=>rfl) | (exact fun _ _ _ _ _ _ us hl=>match us,hl with | [_,_,_,_,_],_=>rfl) | (exact fun _ _ _ _ _ _ us hl=>match us,hl with | [],_=>rfl))
þ zf {P:Program}{w:World}{K:PySem.W.Frag}{hp:Heap}{mg:Str→Option Value}{base:Heap}{CX:CXT}{k:Nat}{sp:Sp}{n x qual:Str}{st:Stmt}{f:Addr}{fd:FuncData}{ps:List Str}(X:K.In hp)(G:hp.Ns mainGlobals mg)(F:Am K mainGlobals n=some (§f)∧Fun K x qual st f fd)(g:aW P w K mg base CX k f fd ps sp)
 (h:∀ (kV doc pm:Value)(an:Option Addr) (cdv ct:Value)(us:List Value),us.length=ps.length→bindArgs (Bo x qual (gm st) (eu st) (ar st) .none kV doc pm an cdv ct) ⟨us,[]⟩=pure (ps.zip us):=by bb):Cl P w K mg base CX k n ps sp f fd:=⟨g,F.2.kp,F.2.binds h,Ag X G F.1⟩
þ zm {P:Program}{w:World}{K:PySem.W.Frag}{mg:Str→Option Value}{base:Heap}{CX:CXT}{k:Nat}{sp:Sp}{C:Addr}{n x qual:Str}{st:Stmt}{f:Addr}{fd:FuncData}{ps:List Str}(F:Meth K C n f∧Fun K x qual st f fd)(g:aW P w K mg base CX k f fd ps sp)
 (h:∀ (kV doc pm:Value)(an:Option Addr) (cdv ct:Value)(us:List Value),us.length=ps.length→bindArgs (Bo x qual (gm st) (eu st) (ar st) .none kV doc pm an cdv ct) ⟨us,[]⟩=pure (ps.zip us):=by bb):Cm P w K mg base CX k C n ps sp f fd:=⟨g,F.1,F.2.binds h⟩
set_option hygiene false in
local macro "¤" n:str f:ident:term=>`(PySem.W.nsIn K mainGlobals $n=some (some (.ref $f)))
set_option hygiene false in
local macro "ç" F:ident g:term:max:term=>`(zf (P:=l.prog) (w:=w) (base:=base) X G $F $g)
set_option hygiene false in
local macro "ñ" F:ident g:term:max:term=>`(zm (P:=l.prog) (w:=w) (mg:=mg) (base:=base) $F $g)
set_option autoImplicit true in
set_option relaxedAutoImplicit true in
þ all_mk {l:PySem.W.OpenLaw}{w:World}{K:PySem.W.Frag}{h:Heap}{mg:Str→Option Value}{fa:Addr}(X:K.In h)(G:h.Ns mainGlobals mg)(hfa:mg "law"=§fa)
   (aCB:¤ "Book" CB)
   (FI:Meth K CB "__init__" f0I∧Fun K "__init__" "Book.__init__" sd f0I d0I)
   (FMS:Meth K CB "shades" f0MS∧Fun K "shades" "Book.shades" jV f0MS d0MS)
   (FMB:Meth K CB "baths" f0MB∧Fun K "baths" "Book.baths" nq f0MB d0MB)
   (FMT:Meth K CB "table" f0MT∧Fun K "table" "Book.table" mF f0MT d0MT)
   (FMX:Meth K CB "changed" f0MX∧Fun K "changed" "Book.changed" iu f0MX d0MX)
   (FMC:Meth K CB "check_bath" f0MC∧Fun K "check_bath" "Book.check_bath" jy f0MC d0MC)
   (FMH:Meth K CB "check_shade" f0MH∧Fun K "check_shade" "Book.check_shade" gZ f0MH d0MH)
   (FMO:Meth K CB "out" f0MO∧Fun K "out" "Book.out" uT f0MO d0MO)
   (clB:Cls K CB)
   (mkB:BQ K CB=true)
   (kcB:A8 K (.ref CB)=true)
   (OB:Own K CB)
   (naB_order:NoAttr K CB "order")
   (naB_tables:NoAttr K CB "tables")
   (aCH:¤ "House" CH)
   (FHI:Meth K CH "__init__" f0HI∧Fun K "__init__" "House.__init__" p8 f0HI d0HI)
   (FHR:Meth K CH "bring" f0HR∧Fun K "bring" "House.bring" nu f0HR d0HR)
   (FHQ:Meth K CH "dip" f0HQ∧Fun K "dip" "House.dip" vy f0HQ d0HQ)
   (FHK:Meth K CH "back" f0HK∧Fun K "back" "House.back" qo f0HK d0HK)
   (FHG:Meth K CH "change" f0HG∧Fun K "change" "House.change" jQ f0HG d0HG)
   (FHB:Meth K CH "book" f0HB∧Fun K "book" "House.book" qB f0HB d0HB)
   (FHS:Meth K CH "shade" f0HS∧Fun K "shade" "House.shade" mE f0HS d0HS)
   (FHT:Meth K CH "trail" f0HT∧Fun K "trail" "House.trail" mP f0HT d0HT)
   (FHP:Meth K CH "dips" f0HP∧Fun K "dips" "House.dips" qi f0HP d0HP)
   (FHN:Meth K CH "newest_book" f0HN∧Fun K "newest_book" "House.newest_book" ky f0HN d0HN)
   (FHC:Meth K CH "check_cloth" f0HC∧Fun K "check_cloth" "House.check_cloth" jK f0HC d0HC)
   (FHD:Meth K CH "check_day_to_do" f0HD∧Fun K "check_day_to_do" "House.check_day_to_do" qA f0HD d0HD)
   (FHL:Meth K CH "cloths" f0HL∧Fun K "cloths" "House.cloths" jT f0HL d0HL)
   (FHY:Meth K CH "today" f0HY∧Fun K "today" "House.today" mX f0HY d0HY)
   (clH:Cls K CH)
   (mkH:BQ K CH=true)
   (kcH:A8 K (.ref CH)=true)
   (OH:Own K CH)
   (naH_first_shades:NoAttr K CH "first_shades")
   (naH_day_now:NoAttr K CH "day_now")
   (naH_standing:NoAttr K CH "standing")
   (naH_books_from:NoAttr K CH "books_from")
   (FGd:¤ "good_name" f0Gd∧Fun K "good_name" "good_name" uC f0Gd d0Gd)
   (FCn:¤ "check_names" f0Cn∧Fun K "check_names" "check_names" jw f0Cn d0Cn)
   (FCs:¤ "check_shades" f0Cs∧Fun K "check_shades" "check_shades" gU f0Cs d0Cs)
   (FCo:¤ "check_outs" f0Co∧Fun K "check_outs" "check_outs" nw f0Co d0Co)
   (FCb:¤ "check_baths" f0Cb∧Fun K "check_baths" "check_baths" ju f0Cb d0Cb)
   (FCD:¤ "check_day" f0CD∧Fun K "check_day" "check_day" wa f0CD d0CD)
   (FA:¤ "_law_at" f0A∧Fun K "_law_at" "_law_at" sAt f0A d0A)
   (FD:¤ "_law_draws" f0D∧Fun K "_law_draws" "_law_draws" qG f0D d0D)
   (FW:¤ "_law_words" f0W∧Fun K "_law_words" "_law_words" qx f0W d0W)
   (FPl:¤ "_law_plain" f0Pl∧Fun K "_law_plain" "_law_plain" pU f0Pl d0Pl)
   (FTa:¤ "_law_tables" f0Ta∧Fun K "_law_tables" "_law_tables" mw f0Ta d0Ta)
   (FHd:¤ "_law_handed" f0Hd∧Fun K "_law_handed" "_law_handed" mG f0Hd d0Hd)
   (FX:¤ "_law_texts" f0X∧Fun K "_law_texts" "_law_texts" qv f0X d0X)
   (FTe:¤ "_law_tells" f0Te∧Fun K "_law_tells" "_law_tells" qU f0Te d0Te)
   (FAl:¤ "_law_alike" f0Al∧Fun K "_law_alike" "_law_alike" pY f0Al d0Al)
   (FNw:¤ "_law_no" f0Nw∧Fun K "_law_no" "_law_no" sNo f0Nw d0Nw)
   (FIs:¤ "_law_is_name" f0Is∧Fun K "_law_is_name" "_law_is_name" ml f0Is d0Is)
   (FRl:¤ "_law_refusal" f0Rl∧Fun K "_law_refusal" "_law_refusal" kT f0Rl d0Rl)
   (FDo:¤ "_law_do" f0Do∧Fun K "_law_do" "_law_do" sDo f0Do d0Do)
   (FAs:¤ "_law_asked" f0As∧Fun K "_law_asked" "_law_asked" qp f0As d0As)
   (FIF:¤ "_law_in_force" f0IF∧Fun K "_law_in_force" "_law_in_force" kq f0IF d0IF)
   (FTD:¤ "_law_trail_due" f0TD∧Fun K "_law_trail_due" "_law_trail_due" iH f0TD d0TD)
   (FSD:¤ "_law_shade_due" f0SD∧Fun K "_law_shade_due" "_law_shade_due" iV f0SD d0SD)
   (FDpD:¤ "_law_dips_due" f0DpD∧Fun K "_law_dips_due" "_law_dips_due" jG f0DpD d0DpD)
   (FBrD:¤ "_law_bring_due" f0BrD∧Fun K "_law_bring_due" "_law_bring_due" iy f0BrD d0BrD)
   (FDiD:¤ "_law_dip_due" f0DiD∧Fun K "_law_dip_due" "_law_dip_due" nC f0DiD d0DiD)
   (FBaD:¤ "_law_back_due" f0BaD∧Fun K "_law_back_due" "_law_back_due" kI f0BaD d0BaD)
   (FChD:¤ "_law_change_due" f0ChD∧Fun K "_law_change_due" "_law_change_due" gE f0ChD d0ChD)
   (FAsD:¤ "_law_asked_due" f0AsD∧Fun K "_law_asked_due" "_law_asked_due" iR f0AsD d0AsD)
   (FDu:¤ "_law_due" f0Du∧Fun K "_law_due" "_law_due" yv f0Du d0Du)
   (FFt:¤ "_law_fits" f0Ft∧Fun K "_law_fits" "_law_fits" v5 f0Ft d0Ft)
   (FSn:¤ "_law_seen" f0Sn∧Fun K "_law_seen" "_law_seen" u6 f0Sn d0Sn)
   (FDz:¤ "_law_days" f0Dz∧Fun K "_law_days" "_law_days" vo f0Dz d0Dz)
   (FDy:¤ "_law_day" f0Dy∧Fun K "_law_day" "_law_day" vA f0Dy d0Dy)
   (FDw:¤ "_law_deed" f0Dw∧Fun K "_law_deed" "_law_deed" vn f0Dw d0Dw)
   (FPo:¤ "_law_pools" f0Po∧Fun K "_law_pools" "_law_pools" pN f0Po d0Po)
   (FBg:¤ "_law_begun" f0Bg∧Fun K "_law_begun" "_law_begun" pT f0Bg d0Bg)
   (FL:¤ "law" f0L∧Fun K "law" "law" yc f0L d0L)
   (aBadText:¤ "BadText" x0BadText)
   (aTooLong:¤ "TooLong" x0TooLong)
   (aDipError:¤ "DipError" x0DipError)
   (aND:¤ "NoDay" x0ND)
   (XND:ExcC K x0ND)
   (aLa:¤ "Late" x0La)
   (XLa:ExcC K x0La)
   (aNC:¤ "NoCloth" x0NC)
   (XNC:ExcC K x0NC)
   (aKn:¤ "Known" x0Kn)
   (XKn:ExcC K x0Kn)
   (aBN:¤ "BadName" x0BN)
   (XBN:ExcC K x0BN)
   (aFu:¤ "Full" x0Fu)
   (XFu:ExcC K x0Fu)
   (aNB:¤ "NoBath" x0NB)
   (XNB:ExcC K x0NB)
   (aNS:¤ "NoShade" x0NS)
   (XNS:ExcC K x0NS)
   (aBB:¤ "BadBook" x0BB)
   (XBB:ExcC K x0BB)
   (aNo:¤ "NoDip" x0No)
   (XNo:ExcC K x0No)
   (hZ:Z=[x0BN,x0Kn,x0NC,x0NB,x0NS,x0BB,x0BadText,x0TooLong,x0ND,x0La,x0No,x0Fu])
   (BiBN:ExcC K x0BN→Bits K Z x0DipError x0BN DM.bBN)
   (BiKn:ExcC K x0Kn→Bits K Z x0DipError x0Kn DM.bKn)
   (BiNC:ExcC K x0NC→Bits K Z x0DipError x0NC DM.bNC)
   (BiNB:ExcC K x0NB→Bits K Z x0DipError x0NB DM.bNB)
   (BiNS:ExcC K x0NS→Bits K Z x0DipError x0NS DM.bNS)
   (BiBB:ExcC K x0BB→Bits K Z x0DipError x0BB DM.bBB)
   (BiND:ExcC K x0ND→Bits K Z x0DipError x0ND DM.bND)
   (BiLa:ExcC K x0La→Bits K Z x0DipError x0La DM.bLa)
   (BiNo:ExcC K x0No→Bits K Z x0DipError x0No DM.bNo)
   (zlen:Am K mainGlobals "len"=some none)
   (zall:Am K mainGlobals "all"=some none)
   (zrange:Am K mainGlobals "range"=some none)
   (zisinstance:Am K mainGlobals "isinstance"=some none)
   (zlist:Am K mainGlobals "list"=some none)
   (zstr:Am K mainGlobals "str"=some none)
   (zsorted:Am K mainGlobals "sorted"=some none)
   (ztuple:Am K mainGlobals "tuple"=some none)
   (zdict:Am K mainGlobals "dict"=some none)
   (zzip:Am K mainGlobals "zip"=some none)
   (zset:Am K mainGlobals "set"=some none)
   (zmin:Am K mainGlobals "min"=some none)
   (zint:Am K mainGlobals "int"=some none)
   (zmax:Am K mainGlobals "max"=some none)
   (zbool:Am K mainGlobals "bool"=some none)
   (zValueError:Am K mainGlobals "ValueError"=some none)
   (vlett:Am K mainGlobals "LETTERS"=some (some (.str bp tlett)))
   (vlong:Am K mainGlobals "LONGEST"=some (some (.int 8 tlong)))
   (vmostS:Am K mainGlobals "MOST_SHADES"=some (some (.int 12 tmostS)))
   (vmostB:Am K mainGlobals "MOST_BATHS"=some (some (.int 8 tmostB)))
   (vfday:Am K mainGlobals "FIRST_DAY"=some (some (.int 1 tfday)))
   (vlday:Am K mainGlobals "LAST_DAY"=some (some (.int 400 tlday)))
   (vmostC:Am K mainGlobals "MOST_CLOTHS"=some (some (.int 50 tmostC)))
   (vmostD:Am K mainGlobals "MOST_DIPS"=some (some (.int 1000 tmostD))) :
   ∃ fd:FuncData,(∀ (s:Shared) (v:Value),BindsTo s fd ⟨[v],[]⟩ [("_law_script",v)])∧∀ base:Heap,K.In base→base.Ns mainGlobals mg→aW l.prog w K mg base CX0 11 fa fd ["_law_script"] (rL K):=by
 cases hfa.symm.trans (Ag X G FL.1);h bI:=FI.2.binds (ps:=["self", "shades", "baths"]) (by bb);h mCB:=Ag X G aCB;h bHI:=FHI.2.binds (ps:=["self", "book"]) (by bb);h mCH:=Ag X G aCH;h mmBadText:=Ag X G aBadText;h mmTooLong:=Ag X G aTooLong;h mmDipError:=Ag X G aDipError;h mND:=Ag X G aND;h mLa:=Ag X G aLa;h mNC:=Ag X G aNC;h mKn:=Ag X G aKn;h mBN:=Ag X G aBN;h mFu:=Ag X G aFu;h mNB:=Ag X G aNB;h mNS:=Ag X G aNS;h mBB:=Ag X G aBB;h mNo:=Ag X G aNo;h nlen:=Ai X G zlen;h nall:=Ai X G zall;h nrange:=Ai X G zrange;h nisinstance:=Ai X G zisinstance;h nlist:=Ai X G zlist;h nstr:=Ai X G zstr;h nsorted:=Ai X G zsorted;h ntuple:=Ai X G ztuple;h ndict:=Ai X G zdict;h nzip:=Ai X G zzip;h nset:=Ai X G zset;h nmin:=Ai X G zmin;h nint:=Ai X G zint;h nmax:=Ai X G zmax;h nbool:=Ai X G zbool;h nValueError:=Ai X G zValueError;h elett:=Ag X G vlett;h elong:=Ag X G vlong;h emostS:=Ag X G vmostS;h emostB:=Ag X G vmostB;h efday:=Ag X G vfday;h elday:=Ag X G vlday;h emostC:=Ag X G vmostC;h emostD:=Ag X G vmostD;h T:Txt mg:=⟨nlen,nall,nrange,nisinstance,nlist,nstr,nsorted,ntuple,ndict,nzip,nset,nmin,nint,⟨_,elett⟩,⟨_,elong⟩⟩;h TB:ue mg:=⟨⟨_,emostS⟩,⟨_,emostB⟩⟩;h c:=clB;h nO:=naB_order;h nT:=naB_tables;h MkB:Mk K CB f0I:=⟨mkB,FI.1.at_,FI.1.fn,kcB⟩;h hX:Hx K mg CH:=⟨clH,naH_first_shades,naH_day_now,naH_standing,naH_books_from,⟨_,efday⟩,⟨_,elday⟩,⟨_,emostC⟩,⟨_,emostD⟩,nmax⟩;h MkH:Mk K CH f0HI:=⟨mkH,FHI.1.at_,FHI.1.fn,kcH⟩;h O:=OB
 h RR:zj K mg Z x0DipError:=by subst hZ;e⟨⟨_,rfl,mBN⟩,⟨_,rfl,mKn⟩,⟨_,rfl,mNC⟩,⟨_,rfl,mNB⟩,⟨_,rfl,mNS⟩,⟨_,rfl,mBB⟩,⟨_,rfl,mmBadText⟩,⟨_,rfl,mmTooLong⟩,⟨_,rfl,mND⟩,⟨_,rfl,mLa⟩,⟨_,rfl,mNo⟩,⟨_,rfl,mFu⟩,mmDipError,nValueError⟩
 h BiBN:=BiBN XBN;h BiKn:=BiKn XKn;h BiNC:=BiNC XNC;h BiNB:=BiNB XNB;h BiNS:=BiNS XNS;h BiBB:=BiBB XBB;h BiND:=BiND XND;h BiLa:=BiLa XLa;h BiNo:=BiNo XNo;r⟨d0L,fun s v=>by o⟨_,_,_,_,_,_,_,_,_,rfl,_⟩:=FL.2.ex;e .of_eq rfl,fun base _ _=>?_⟩;h TM:mg "max"=none:=nmax;h BT:=zC BiBN BiKn BiNS BiNC BiNB BiBB BiND BiLa BiNo;h GA:=ç FA (zu FA.2 T);h GD:=ç FD (vO FD.2 T);h GW:=ç FW (t4 FW.2 T GD);h GPl:=ç FPl (vN FPl.2 T GD GA GW);h GTa:=ç FTa (qY FTa.2 T);h GGd:=ç FGd (wj FGd.2 T);h GCn:=ç FCn (sI FCn.2 T GGd);h GCs:=ç FCs (pF FCs.2 T TB GCn);h GCo:=ç FCo (uB FCo.2 T);h GCb:=ç FCb (sH FCb.2 T TB GCn GCo);h GI:=wu (P:=l.prog) (w:=w) (mg:=mg) (base:=base) FI.2 T c nO nT GCs GCb;h GMC0:=ñ FMC (sC FMC.2 c nT);h GMH0:=ñ FMH (qE FMH.2 c nO);h GMO:=ñ FMO (wC FMO.2 c nT GMC0 GMH0);h GMC:=ñ FMC (pW FMC.2 c nT XNB mNB);h GMH:=ñ FMH (nL FMH.2 c nO XNS mNS);h GCnX:=ç FCn (qO FCn.2 T XBB mBB GGd);h GCsX:=ç FCs (og FCs.2 T TB XBB mBB GCnX);h GCoX:=ç FCo (tm FCo.2 T XBB mBB);h GCbX:=ç FCb (qq FCb.2 T TB XBB mBB GCnX GCoX);h GIX:=uo (P:=l.prog) (w:=w) (mg:=mg) (base:=base) FI.2 T c nO nT GCsX GCbX;h GMS:=ñ FMS (qR FMS.2 T c nO);h GMB:=ñ FMB (tI FMB.2 T c nT);h GMT:=ñ FMT (sG FMT.2 c nO nT GMC0);h GMX:=ñ FMX (oz FMX.2 T c MkB GIX bI mCB GMC GMS GMB GMT);h GHd:=ç FHd (pL FHd.2 T MkB GIX bI mCB);h GX:=ç FX (vm FX.2 T);h GCD:=ç FCD (wy FCD.2 T hX c XND mND);h GHC:=ñ FHC (yu FHC.2 T hX c XNC mNC);h GHD:=ñ FHD (xQ FHD.2 T hX c XLa mLa GCD);h GHB:=ñ FHB (ux FHB.2 T hX c GCD);h GHN:=ñ FHN (wf FHN.2 T hX c GHB);h GHY:=ñ FHY (sj FHY.2 T hX c);h GHT:=ñ FHT (sw FHT.2 T hX c GHC GCD);h GHP:=ñ FHP (vx FHP.2 T hX c GCD);h GHS:=ñ FHS (tM FHS.2 T hX c GHT);h GHI:=vV (P:=l.prog) (w:=w) (mg:=mg) (base:=base) FHI.2 T hX c;h GHR:=ñ FHR (sL FHR.2 T hX c XBN mBN XKn mKn XFu mFu GGd GHN GMH);h GHK:=ñ FHK (vL FHK.2 T hX c XNo mNo GHD GHP);h GHG:=ñ FHG (qw FHG.2 T hX c XLa mLa GHN GMX GHD GHP);h GHQ:=ñ FHQ (wP FHQ.2 T hX c XFu mFu GHC GHN GMC GHD GHB GHS GMO);h GRl:=ç FRl (qP FRl.2 T);h GHL:=ñ FHL (pS FHL.2 T hX c);h GNw:=ç FNw (zh FNw.2 T);h GIs:=ç FIs (sZ FIs.2 T);h GAl1:=ç FAl (kS FAl.2 T nbool (ç FAl xX));h GAl:=ç FAl (kS FAl.2 T nbool GAl1);h GTe:=ç FTe (uE FTe.2 T c GX GMS GMB GMT GMO);h GAs:=ç FAs (vD FAs.2 T hX GHR GHQ GHK GHG GHS GHT GHP GHB);h GDo:=ç FDo (yN FDo.2 T RR GAs GRl);h GAl3:=ç FAl (kS FAl.2 T nbool GAl);h GIF:=ç FIF (pJ FIF.2 T);h GTD:=ç FTD (pj FTD.2 T GIF);h GSD:=ç FSD (oB FSD.2 T GTD);h GDpD:=ç FDpD (qM FDpD.2 T);h GBrD:=ç FBrD (nN FBrD.2 T GIs GNw);h GDiD:=ç FDiD (sS FDiD.2 T GNw GSD);h GBaD:=ç FBaD (qH FBaD.2 T GNw);h GChD:=ç FChD (mI FChD.2 T GNw GDpD);h GAsD:=ç FAsD (oq FAsD.2 T GNw GSD GTD GDpD);h GDu:=ç FDu (xM FDu.2 T GBrD GDiD GBaD GChD GAsD);h GFt:=ç FFt (wW FFt.2 T hX c O mCB BT GDu GDo GTe GIF GAl3);h GSn:=ç FSn (wT FSn.2 T hX GHL GHY GHP GHB GHT GHS GX GAl3 GDpD GTe GIF GTD GSD);h GDz:=ç FDz (xa FDz.2 T TM);h GDy:=ç FDy (xJ FDy.2 T);h GDw:=ç FDw (xh FDw.2 T GDy);h GPo:=ç FPo (vS FPo.2 T GA GW);h GBg:=ç FBg (vq FBg.2 T hX GA GHR);e xE FL.2 T hX GA GPl GTa GHd GD GPo GBg GDw GFt GAl3 GSn GDz GHY MkH GHI bHI mCH
þ walk {l:PySem.W.OpenLaw}{q:Program}{loose:List Str}{XP:(Str→Option Value)→Heap→Prop}{YP:World→Heap→Prop}{d:DefRec}{K:Params→PySem.W.Frag}(hn:l.most=some 63)(hdf:d.params.defaults=[])
   (hY:∀ (w:World)(h:Heap),YP w h→(K w.params).In h)
   (F:∀ (w:World)(mg:Str→Option Value)(fa:Addr)(h:Heap),(K w.params).In h→h.Ns mainGlobals mg→mg d.name=§fa →
     ∃ fd:FuncData,(∀ (s:Shared) (u:Value),BindsTo s fd ⟨[u],[]⟩ [("_law_script",u)])∧∀ base:Heap,(K w.params).In base→base.Ns mainGlobals mg→aW l.prog w (K w.params) mg base CX0 11 fa fd ["_law_script"] (rL (K w.params))) :
   PySem.W.WalkO q loose XP YP l.row.toRowW d [] (fun f vs=>CA f vs) :=
 L2.walk_of (n:=63) (k:=11) (x:="_law_script") (CX:=fun _=>CX0) (sp:=fun w=>rL (K w.params)) hn (by decide) hdf ⟨rfl,by decide,by decide⟩ hY F (fun _ _ a ns hl _ hS=>⟨a,ns,rfl,hS,hl,fun _=>rfl⟩) fun _ _ _ _ _ z=>z
end DM
namespace PySem.W.Fast
def tw10163804249312483227:=0
def tw10181309279929502869:=0
def tw10214298211574557515:=0
def tw10231793794957358258:=0
def tw10235433000852470741:=0
def tw10259758692448040661:=0
def tw10291286174183494997:=0
def tw10292162256035798133:=0
def tw10299893812852739176:=0
def tw10334264607651726941:=0
def tw10382857523739029850:=0
def tw10407709532402113713:=0
def tw1041823110055448290:=0
def tw10420251656443629394:=0
def tw10519922687700315223:=0
def tw10629486603804457990:=0
def tw10691743630356818156:=0
def tw10772747629373128128:=0
def tw10807987685264398276:=0
def tw10851746682298316848:=0
def tw10856585961056890272:=0
def tw10888482145064177783:=0
def tw10907431677874505860:=0
def tw10925234853358988504:=0
def tw10998437515455555905:=0
def tw11061152189362799625:=0
def tw11063489000324462462:=0
def tw11078103505503133925:=0
def tw11104197118770058473:=0
def tw11106602683058002707:=0
def tw11119179367926223785:=0
def tw11178877518501263935:=0
def tw11224761106389527576:=0
def tw11240913177159637414:=0
def tw11247649986007467994:=0
def tw11275387436613416388:=0
def tw1130716304415066582:=0
def tw11329469236700351345:=0
def tw11331916657508120969:=0
def tw11332329600440777913:=0
def tw11355102776786340361:=0
def tw11405736008552914189:=0
def tw11430372028158047161:=0
def tw11439887588537629646:=0
def tw11473758856485375418:=0
def tw11478369937475775348:=0
def tw11615258627088216662:=0
def tw11750353103297413014:=0
def tw11770149696320334564:=0
def tw11802924660478749672:=0
def tw11825933819668565897:=0
def tw11845153772130242933:=0
def tw11849860391838129700:=0
def tw11869834025644006405:=0
def tw11876703700269452931:=0
def tw11886735867804924142:=0
def tw11900390770770711250:=0
def tw11922134590096060649:=0
def tw11945584242782016144:=0
def tw11954996033046631218:=0
def tw12018185621327609640:=0
def tw1203458649911111439:=0
def tw12051677382195305165:=0
def tw1206714995134283664:=0
def tw12097933334905360524:=0
def tw12125334011880763057:=0
def tw12131122551356408242:=0
def tw12170475572727096542:=0
def tw12197545233554036823:=0
def tw12223794577716863621:=0
def tw12248051308702859935:=0
def tw12249688479755664752:=0
def tw12328455379909116481:=0
def tw12383091925038636349:=0
def tw12464875816484325938:=0
def tw124675569878203594:=0
def tw12491058658863311386:=0
def tw12524590155997805495:=0
def tw1254998108996316354:=0
def tw12557534720513319373:=0
def tw12582460702304564777:=0
def tw12616971850737508335:=0
def tw12626844350432436628:=0
def tw12644976622951551662:=0
def tw12668340833185153012:=0
def tw12696418154755494519:=0
def tw12699822611102036300:=0
def tw12707655808912924486:=0
def tw12719338249118590459:=0
def tw12722422267169252223:=0
def tw12780899227854221608:=0
def tw12785239736812893786:=0
def tw12807122352515867565:=0
def tw12829107491555429881:=0
def tw12832518800972297555:=0
def tw12952525331640790480:=0
def tw12960548582597934570:=0
def tw1296598719408206113:=0
def tw12984714259650281878:=0
def tw13015874377156210441:=0
def tw13025130118205320947:=0
def tw13039473612094491726:=0
def tw13044347301426481055:=0
def tw1306087120877739813:=0
def tw13093200457291749214:=0
def tw1315298061288575930:=0
def tw13192766379064970784:=0
def tw13214058568209109737:=0
def tw13240566806455705302:=0
def tw13309990341219352350:=0
def tw13363016927382945204:=0
def tw1347998573886462212:=0
def tw13488521957741376690:=0
def tw13491795252998090675:=0
def tw13517114770165984823:=0
def tw1354485031422664145:=0
def tw13553373281256399147:=0
def tw13590009046262848372:=0
def tw13618831925011774880:=0
def tw13621832120988886219:=0
def tw13622564191706666859:=0
def tw13628238135677348045:=0
def tw13635066328686639498:=0
def tw13660368027133702902:=0
def tw13662563982637385411:=0
def tw13662719251716158470:=0
def tw13711336458197830998:=0
def tw13747498067134413210:=0
def tw13778233720795012334:=0
def tw13790414475097915027:=0
def tw1386580460701433160:=0
def tw13894406207091013996:=0
def tw13941406865543746989:=0
def tw13961506663702931432:=0
def tw13978815354849891961:=0
def tw13999366356192417169:=0
def tw14018330364762372983:=0
def tw14018860160230840281:=0
def tw14049779457086784902:=0
def tw14054614054373972479:=0
def tw14100867802806031366:=0
def tw14106258679443526542:=0
def tw14116186029199719921:=0
def tw14118508977391295479:=0
def tw14214191346188652543:=0
def tw14276474794192568059:=0
def tw14315962345662314035:=0
def tw14316872222446532294:=0
def tw14324318848854524741:=0
def tw14372308927413035184:=0
def tw14389833582828983309:=0
def tw14405175423427576641:=0
def tw14426096272796398098:=0
def tw14428448695606797884:=0
def tw14434593400957374936:=0
def tw14531326136113345085:=0
def tw14584369505119920019:=0
def tw14584664547846547573:=0
def tw14613194268104414036:=0
def tw14621600339476655017:=0
def tw14654359899289339358:=0
def tw14678274935089916953:=0
def tw14686404493582459462:=0
def tw14709953266637480012:=0
def tw14742084957395677863:=0
def tw14745062161622722874:=0
def tw14761489914855000583:=0
def tw14761823582058138896:=0
def tw14869697283192408324:=0
def tw1487841270139275606:=0
def tw14907386303374459514:=0
def tw1492820607518952291:=0
def tw14937092841004611240:=0
def tw14944289143595640902:=0
def tw14949525066720530746:=0
def tw14961085034663282153:=0
def tw1499709811797824405:=0
def tw15037506743844821730:=0
def tw15044029693926024109:=0
def tw15080625133060056564:=0
def tw15107692804396210013:=0
def tw15117866087557719692:=0
def tw15143293142130953715:=0
def tw15209488846375874741:=0
def tw1524164877841671282:=0
def tw15271791765116965858:=0
def tw15275092707116088908:=0
def tw15295234960776916718:=0
def tw15342878616421382035:=0
def tw15353060414838552583:=0
def tw15356944473036501099:=0
def tw15362717928674721532:=0
def tw15421921119382575923:=0
def tw15444220194188265644:=0
def tw15455086870218402632:=0
def tw15468965629172398740:=0
def tw15471112773373573875:=0
def tw15484861052044116673:=0
def tw15488107693930266623:=0
def tw15508993091721624770:=0
def tw1553324391304253374:=0
def tw15542888840233808316:=0
def tw15566745101928685431:=0
def tw15611067149353655295:=0
def tw15650116101271316054:=0
def tw15657334260468039544:=0
def tw15750696033021239839:=0
def tw15781582922633776781:=0
def tw15806960790812044982:=0
def tw1583791549540262428:=0
def tw15839412463433164413:=0
def tw15869098927941645865:=0
def tw15912699067532702319:=0
def tw15931143569918881137:=0
def tw15967317327460723381:=0
def tw15994914608218895297:=0
def tw16010850654924150176:=0
def tw16022622932233544939:=0
def tw16045715294758462296:=0
def tw16066002447905844870:=0
def tw16078873949883824387:=0
def tw16086632580111397165:=0
def tw16094975658536114811:=0
def tw16097271976993042460:=0
def tw16111968211318727626:=0
def tw16120896498605432463:=0
def tw16164732514180422918:=0
def tw16186799629435006010:=0
def tw16192724147053113256:=0
def tw16318308416707344690:=0
def tw16326852509289091074:=0
def tw16346095397279840192:=0
def tw16353233930004285910:=0
def tw16366651855945768889:=0
def tw16374806466995788719:=0
def tw16397661372838467525:=0
def tw16406711183087126107:=0
def tw16476930572916182190:=0
def tw16503922187134491111:=0
def tw16515922041675534916:=0
def tw16567737986374638594:=0
def tw16589229535442852361:=0
def tw1663073864810303020:=0
def tw16645877684150934005:=0
def tw16649444944500506613:=0
def tw1666801397263182251:=0
def tw16679398908687380533:=0
def tw16721873228622853945:=0
def tw16767703220330320194:=0
def tw16773909756298414020:=0
def tw16783125241199635929:=0
def tw16788494989378960445:=0
def tw16805802614617893038:=0
def tw16900966144185668636:=0
def tw16939078145243951683:=0
def tw16950808795400049982:=0
def tw16976116213710511650:=0
def tw16979747867272254503:=0
def tw16982443371752467436:=0
def tw17015562414864148616:=0
def tw17071957607899604712:=0
def tw17079243006628508720:=0
def tw17084343460356750317:=0
def tw1709708161032533827:=0
def tw17116130034494004799:=0
def tw17121984042395120783:=0
def tw17163853157879541356:=0
def tw17165497913301696154:=0
def tw17196060858813387345:=0
def tw17240905327275223481:=0
def tw17281488477096350340:=0
def tw17295196478260841836:=0
def tw17298588513531039884:=0
def tw17324151464078000525:=0
def tw17330924752831226770:=0
def tw17345365289371073275:=0
def tw17358005776471318984:=0
def tw1736939810680051835:=0
def tw1748347598066852088:=0
def tw17525661066982854157:=0
def tw17527526154253679816:=0
def tw1757743947849499599:=0
def tw1759814576678280569:=0
def tw17603355142060538384:=0
def tw17623717043995706509:=0
def tw17636152677237975802:=0
def tw17673299169910290036:=0
def tw17674646415661982046:=0
def tw17691101485965092905:=0
def tw17707629544535717722:=0
def tw17708881862525614802:=0
def tw17716554290968574744:=0
def tw1773919379095025251:=0
def tw17747454170125988312:=0
def tw17748184007853702684:=0
def tw17763366042597200467:=0
def tw17772255060980072960:=0
def tw17801430333998217299:=0
def tw17902770609402073808:=0
def tw17926158081004932316:=0
def tw1795465822347912099:=0
def tw17958169073643275982:=0
def tw17958529263803699108:=0
def tw17967695720513093749:=0
def tw18000167376135178163:=0
def tw18033895778514599737:=0
def tw18039263063750246135:=0
def tw18065941021139451619:=0
def tw18072550169311600791:=0
def tw18084297596409234775:=0
def tw18112154597620795378:=0
def tw18127214037511561437:=0
def tw18152713482545990661:=0
def tw18188678945888931539:=0
def tw18190026726646154538:=0
def tw18196433646774356213:=0
def tw18201285779447060383:=0
def tw1822591522120161642:=0
def tw1823454410127927332:=0
def tw18368106188666855759:=0
def tw18373720648766975117:=0
def tw18387621258615145483:=0
def tw18424699588134996828:=0
def tw1889859393923278520:=0
def tw1962830600913609839:=0
def tw1991333559235317387:=0
def tw2025740066362930542:=0
def tw2065928407444982766:=0
def tw2079520430777913844:=0
def tw2090547985006675717:=0
def tw2123936415392240018:=0
def tw2141124087575833499:=0
def tw2165967440429681865:=0
def tw2184524171814969040:=0
def tw2200359585433209650:=0
def tw220752292373644577:=0
def tw2253008295234114014:=0
def tw2325427614130604900:=0
def tw2337641972801882826:=0
def tw2339326075648107173:=0
def tw2392665137557753405:=0
def tw242276519012541539:=0
def tw2444405316515604288:=0
def tw2453883549663600876:=0
def tw2584819237990550769:=0
def tw2616675589470904389:=0
def tw2624323215304253734:=0
def tw2723912891263927619:=0
def tw2724177625446077289:=0
def tw2742692333083887471:=0
def tw2770943165904406514:=0
def tw2784145468471383803:=0
def tw2792595762792636157:=0
def tw2808685742766300810:=0
def tw2868034040545604963:=0
def tw2913002591510891509:=0
def tw2947649623699082740:=0
def tw2953623276706023067:=0
def tw2979498255157862282:=0
def tw297969185084566211:=0
def tw3027821527960076738:=0
def tw3108702317898972495:=0
def tw3124884898551437081:=0
def tw3143744092009975769:=0
def tw3153086927802748004:=0
def tw3188201899897702772:=0
def tw3195161099231501290:=0
def tw3232382486176925043:=0
def tw3277727699678146632:=0
def tw3302557382734222413:=0
def tw3307950469078159082:=0
def tw3337904971432760535:=0
def tw3402910010686800527:=0
def tw3424845836025587821:=0
def tw3431504535721544891:=0
def tw3447552484584934577:=0
def tw346058320454949919:=0
def tw3507818758968122619:=0
def tw3521430554581268939:=0
def tw3535941675260510642:=0
def tw355090553008381584:=0
def tw3569402874790748834:=0
def tw375635017033965572:=0
def tw3759639059895248127:=0
def tw3804102562158068154:=0
def tw3876344414289288387:=0
def tw3913418129203979132:=0
def tw3916191308625954121:=0
def tw3932376841191077556:=0
def tw3937334652357177986:=0
def tw3955466660266476069:=0
def tw4005070328586832776:=0
def tw4059213382007546553:=0
def tw4120376926348047703:=0
def tw41674651569241781:=0
def tw4218936525846946119:=0
def tw4290952706911622490:=0
def tw429875458056543012:=0
def tw4320919993352857378:=0
def tw4411933468476140637:=0
def tw448124103988527175:=0
def tw4482940831076338787:=0
def tw4501817134269305647:=0
def tw4505673227823511124:=0
def tw4517950242191136250:=0
def tw4544736074447957217:=0
def tw4594658042870040928:=0
def tw4679681989886063531:=0
def tw4690391625187300149:=0
def tw4746118633794975999:=0
def tw47714188594244078:=0
def tw4792128661913438516:=0
def tw4850454771466416724:=0
def tw4860844047671820301:=0
def tw4864674681089428351:=0
def tw4878896710453091171:=0
def tw4896237772505198311:=0
def tw490445875676559657:=0
def tw4948155337664595087:=0
def tw494863362802165214:=0
def tw4967234152912946308:=0
def tw4984515490095612175:=0
def tw4986224987305079025:=0
def tw4991398743380603343:=0
def tw5023220172256121300:=0
def tw5045512021756616664:=0
def tw5054564663033821026:=0
def tw5073371113896472106:=0
def tw5080134979101518298:=0
def tw5090430075407420751:=0
def tw5093856082698520240:=0
def tw5096857479978443231:=0
def tw5111251164094284860:=0
def tw5112046782342316802:=0
def tw5127639213362990138:=0
def tw5135088912154975045:=0
def tw5150880230632552426:=0
def tw5185003390576773984:=0
def tw5203621008573534174:=0
def tw5217463023328920821:=0
def tw5218045180299208304:=0
def tw5266767646868792899:=0
def tw5278100553593518938:=0
def tw528467258999635698:=0
def tw5286524710797225524:=0
def tw5287602882282981058:=0
def tw5308999562156495386:=0
def tw5319486286530949996:=0
def tw5332714118850411572:=0
def tw5345036745318662190:=0
def tw5357359817673954449:=0
def tw5370707134468598399:=0
def tw5379559071321300366:=0
def tw5422841707249333080:=0
def tw5446623714774433302:=0
def tw5465583993086725867:=0
def tw5484250433640616655:=0
def tw5503326416449846514:=0
def tw5629299018547559130:=0
def tw5666268799477159187:=0
def tw5685598667828331755:=0
def tw5719114261499046727:=0
def tw5758371243508947353:=0
def tw576893829386937052:=0
def tw5790471054932632008:=0
def tw5805826833184357070:=0
def tw5837719364336111551:=0
def tw5851207798479975348:=0
def tw5893496385584329124:=0
def tw5926220539639702661:=0
def tw5943465393138963440:=0
def tw6020424760261134397:=0
def tw6048964044649624059:=0
def tw6053091520247736993:=0
def tw6064724570211826581:=0
def tw6075454496067850790:=0
def tw6081834614696719153:=0
def tw6109815552435213234:=0
def tw6161277172013667548:=0
def tw6174917119492205079:=0
def tw6235123344270512105:=0
def tw623786313715153671:=0
def tw6258983145922983579:=0
def tw6274023498729141053:=0
def tw6281269707742588243:=0
def tw6284058820176928685:=0
def tw6308314036396961867:=0
def tw6323535042696154224:=0
def tw6323633534154239553:=0
def tw6342631564522828905:=0
def tw6342935228026272098:=0
def tw6347032357770831807:=0
def tw635948555560013756:=0
def tw6370068166582082049:=0
def tw6399318615208718790:=0
def tw6443323575781261701:=0
def tw644542906509309533:=0
def tw6487059022855687556:=0
def tw650565669602507791:=0
def tw6556637447805223599:=0
def tw6567625477856894253:=0
def tw6569164831405626432:=0
def tw6616018860445186173:=0
def tw6636384901350862319:=0
def tw6652220882254401636:=0
def tw6719814408240384732:=0
def tw6735689804546679023:=0
def tw6741875725750876203:=0
def tw6816390934131882662:=0
def tw6832380342644673725:=0
def tw6855965305368525807:=0
def tw6876057778213973496:=0
def tw6911248193071218671:=0
def tw6917115207994486755:=0
def tw6968044117551712858:=0
def tw6978303580166073776:=0
def tw7053173875586926600:=0
def tw7088735619637261306:=0
def tw7110629719874283734:=0
def tw7220694594228235304:=0
def tw7268512311671312180:=0
def tw7289666754252972809:=0
def tw7299998286474196641:=0
def tw7324902751621448296:=0
def tw7333889071604676416:=0
def tw7363331602541092378:=0
def tw7373079715699556891:=0
def tw7393205416202776907:=0
def tw7461136802325735674:=0
def tw7506098587552077411:=0
def tw7518451951522617812:=0
def tw75196200131614044:=0
def tw7585238867426819546:=0
def tw7614485907992867752:=0
def tw7637210445561976189:=0
def tw7677266532279807066:=0
def tw7679553942471899747:=0
def tw772253372023391988:=0
def tw7789447804403675866:=0
def tw782597723222492890:=0
def tw7843538525258504099:=0
def tw785474635082225000:=0
def tw7868768677313630855:=0
def tw7912264997433312112:=0
def tw7914698897031308910:=0
def tw7920158811074139387:=0
def tw7967143124819953468:=0
def tw7985791163832621916:=0
def tw7997954837816674476:=0
def tw8057843068360650490:=0
def tw8081619276759710296:=0
def tw8086601883688305920:=0
def tw8088679149695921352:=0
def tw8100860278325708199:=0
def tw810278562237979042:=0
def tw8121939379299686664:=0
def tw8128011191695361520:=0
def tw814753289493791180:=0
def tw8223128306788419408:=0
def tw825198892950674513:=0
def tw8262891394999627988:=0
def tw8283905163703216094:=0
def tw8340189774457496303:=0
def tw8375041396354530126:=0
def tw8378148031397866094:=0
def tw8413894483507224977:=0
def tw8445948423804980903:=0
def tw8478136731185051572:=0
def tw8520626923018847327:=0
def tw8539884484114550013:=0
def tw8542918528571189323:=0
def tw8569925715877484897:=0
def tw8594459779211009359:=0
def tw8631438101112142546:=0
def tw8634604606161495224:=0
def tw8641462736015797817:=0
def tw8652637069987213943:=0
def tw8723517297019906810:=0
def tw8730855037723906835:=0
def tw8782358289914360839:=0
def tw8792079192913465070:=0
def tw8797247274126772313:=0
def tw8814186222037569969:=0
def tw8840819732075721051:=0
def tw8866327577187074105:=0
def tw8868359254937394241:=0
def tw8874111334200356076:=0
def tw8958811448770882649:=0
def tw8961571526132712720:=0
def tw8962855158610583846:=0
def tw9002361116541898116:=0
def tw9004803651179491829:=0
def tw901753150054909386:=0
def tw9021042011763973669:=0
def tw902338112927736476:=0
def tw9026291803084028173:=0
def tw9079837972277520607:=0
def tw9111520783472021615:=0
def tw9111623721820577839:=0
def tw9115459680018165942:=0
def tw9126568340272813074:=0
def tw913668906732180607:=0
def tw9136961173600735855:=0
def tw9177054647118002798:=0
def tw9231656029380090360:=0
def tw9235471219821504562:=0
def tw9295203997867969439:=0
def tw9295335708286728763:=0
def tw930055959839795082:=0
def tw9317530423968966111:=0
def tw9319235422980770039:=0
def tw9328185048673024607:=0
def tw9346513534265417279:=0
def tw9357082681309321173:=0
def tw9370691321610877347:=0
def tw9372077856955365896:=0
def tw9425013805254759327:=0
def tw9426706621553505543:=0
def tw944823099812976284:=0
def tw9462818062160245165:=0
def tw9495669604741088857:=0
def tw9507653759395681293:=0
def tw9567224668540017223:=0
def tw9638585681508401490:=0
def tw9647698694358532918:=0
def tw9664501203035070499:=0
def tw9688632022247368691:=0
def tw9715308639234975373:=0
def tw9715690516869892361:=0
def tw9718093336965956237:=0
def tw9728903968839449762:=0
def tw9748179928681481188:=0
def tw9755017802937523946:=0
def tw9767542496442487672:=0
def tw9808199748206658826:=0
def tw9818675145331249056:=0
def tw9837493976655614190:=0
def tw983800818691026547:=0
def tw9839425119955005778:=0
def tw9852075548291489737:=0
def tw9882316515713492201:=0
def tw9929027013531175308:=0
def tw9954771004638614855:=0
def tw9956373605746898604:=0
def tw9996976370459556553:=0
end PySem.W.Fast
open PySem PySem.W PyProof.Rows
local macro "ki":tactic=>`(tactic| first | k_is | skip)
local macro "kf":tactic=>`(tactic| (refine' L2.fun_mk ?_ ?_ ?_<;>ki))
local macro "kk":tactic=>`(tactic| first
 | k_is
 | kf
 | (refine' L2.ExcC.mk ?_ ?_ ?_ (DM.isSm ?_) ?_ ?_ ?_ ?_ ?_;k_exc;all_goals ki)
 | (refine' L2.Cls.mk ?_ ?_ ?_ ?_<;>k_is)
 | (refine' DM.Own.mk ?_ ?_ ?_ ?_<;>k_is)
 | (with_reducible e rfl)
 | (unfold L2.NoAttr;k_is)
 | skip)
set_option maxRecDepth 100000 in
set_option maxHeartbeats 0 in
theorem PySem.Challenge.cw_dipmaps_k38_whole_days_holds : PySem.Challenge.rw_dipmaps_k38_whole_days.Holds := by
 w_on;o_law;k_head;(case hw=>w_witness2)
 k_fill
 r DM.walk (l:=PySem.Challenge.rw_dipmaps_k38_whole_days) rfl rfl (fun w h Y=>PySem.W.kIn_of Y) ?F
 case F =>
   intro w mg fa h KX G hmg;refine' DM.all_mk KX G hmg ..
   all_goals (try (refine' And.intro ?_ ?_))
   all_goals (try (refine' L2.Meth.mk ?_ ?_ ?_))
   all_goals (try kk)
   all_goals (intro X;refine' DM.Bits.mk X rfl ?_ (DM.bits12 ?_ ?_ ?_ ?_ ?_ ?_ ?_ ?_ ?_ ?_ ?_ ?_) ?_)
   all_goals (first | kit_is | kts_exm)
