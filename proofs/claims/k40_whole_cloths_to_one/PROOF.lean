import PyProof.Rows.All
import Wide.All
import OpenK.AllK
import Wide.FinOn
import Lean
import PyProof.EqAt
import PyProof.EqKinds
import PyProof.TupleCall
import PySem.Challenge.RW_dipmaps_k40_whole_cloths_to_one
set_option Elab.async false
set_option linter.all false
set_option maxRecDepth 100000
/-! THE HAND LAYER, for ints, bools, texts, own classes, LISTS and tuples (index, slices, in, append, pop ..), calls, loops. Paste it whole ahead of your own text; what your proof does not reach may be deleted. -/
namespace L2
open PySem PySem.Spec PyProof.Rows

abbrev Key := Sum Int Str
def keyIs : Key → Value → Bool
  | .inl k, v => Value.isInt k v
  | .inr x, v => Value.isStrOf x v
def keyH (w : World) : Key → Int
  | .inl k => hashInt k
  | .inr x => hashStr w x
theorem keyIs_shape : ∀ {k : Key} {v : Value}, keyIs k v = true → (∃ i t, k = Sum.inl i ∧ v = Value.int i t) ∨ (∃ x t, k = Sum.inr x ∧ v = Value.str x t)
  | .inl i, v, h => by
    obtain ⟨t, e⟩ := Value.isInt_shape (k := i) (v := v) h
    exact .inl ⟨i, t, rfl, e⟩
  | .inr x, v, h => by
    obtain ⟨t, e⟩ := Value.isStrOf_shape (x := x) (v := v) h
    exact .inr ⟨x, t, rfl, e⟩
theorem keyIs_int (i : Int) (t : Tok) : keyIs (.inl i) (.int i t) = true := by simp [keyIs, Value.isInt]
theorem keyIs_str (x : Str) (t : Tok) : keyIs (.inr x) (.str x t) = true := by simp [keyIs, Value.isStrOf]
theorem key_ll (a b : Int) : decide ((Sum.inl a : Key) = Sum.inl b) = (a == b) := by
  by_cases e : a = b
  · subst e; simp
  · have h : ¬ (Sum.inl a : Key) = Sum.inl b := fun q => e (Sum.inl.inj q)
    rw [decide_eq_false h]
    exact (beq_eq_false_iff_ne.mpr e).symm
theorem key_rr (a b : Str) : decide ((Sum.inr a : Key) = Sum.inr b) = decide (a = b) := by
  by_cases e : a = b
  · subst e; simp
  · have h : ¬ (Sum.inr a : Key) = Sum.inr b := fun q => e (Sum.inr.inj q)
    rw [decide_eq_false h, decide_eq_false e]
theorem key_lr (a : Int) (b : Str) : decide ((Sum.inl a : Key) = Sum.inr b) = false := decide_eq_false (fun q => nomatch q)
theorem key_rl (a : Str) (b : Int) : decide ((Sum.inr a : Key) = Sum.inl b) = false := decide_eq_false (fun q => nomatch q)

def mixKind (prog : Program) (w : World) : PySem.KeyKind prog w Key where
  is := keyIs
  hash := keyH w
  inj := fun v a b ha hb => by
    rcases keyIs_shape ha with ⟨i, t, rfl, rfl⟩ | ⟨x, t, rfl, rfl⟩
    · rcases keyIs_shape hb with ⟨j, u, rfl, e⟩ | ⟨y, u, rfl, e⟩
      · injection e with e1 _; rw [e1]
      · exact nomatch e
    · rcases keyIs_shape hb with ⟨j, u, rfl, e⟩ | ⟨y, u, rfl, e⟩
      · exact nomatch e
      · injection e with e1 _; rw [e1]
  byValue := fun k v h => by
    rcases keyIs_shape h with ⟨i, t, rfl, rfl⟩ | ⟨x, t, rfl, rfl⟩ <;> rfl
  pyHash := fun hv h => by
    rcases keyIs_shape hv with ⟨i, t, rfl, rfl⟩ | ⟨x, t, rfl, rfl⟩
    · exact wpAny_pyHash_int h
    · exact wpAny_pyHash_str h
  eqBool := fun hu hv h => by
    rcases keyIs_shape hu with ⟨i, t, rfl, rfl⟩ | ⟨x, t, rfl, rfl⟩
    · rcases keyIs_shape hv with ⟨j, u, rfl, rfl⟩ | ⟨y, u, rfl, rfl⟩
      · rw [key_ll] at h; exact wpAny_eqBool_int h
      · rw [key_lr] at h; exact SeqAt.EqAt.int_str i t y u _ _ _ _ h
    · rcases keyIs_shape hv with ⟨j, u, rfl, rfl⟩ | ⟨y, u, rfl, rfl⟩
      · rw [key_rl] at h; exact SeqAt.EqAt.str_int x t j u _ _ _ _ h
      · rw [key_rr] at h; exact wpAny_eqBool_str h
  «strs» := fun k x t v h => by
    rcases keyIs_shape h with ⟨i, u, rfl, e⟩ | ⟨y, u, rfl, e⟩
    · exact nomatch e
    · injection e with e1 _
      subst e1
      cases v <;> rfl

theorem mixKind_int (prog : Program) (w : World) (i : Int) (t : Tok) : (mixKind prog w).is (.inl i) (.int i t) = true := keyIs_int i t
theorem mixKind_str (prog : Program) (w : World) (x : Str) (t : Tok) : (mixKind prog w).is (.inr x) (.str x t) = true := keyIs_str x t
end L2

namespace L2
open PySem PySem.Spec PyProof.Rows

inductive V where
  | non | bl (b : Bool) | int (i : Int) | str (x : Str) | byt (b : Array UInt8) | flt (b : UInt64) | ref (a : Addr) | ty (n : String)
  deriving DecidableEq

def RelV : V → Value → Prop
  | .non, u => u = Value.none
  | .bl b, u => u = Value.bool b
  | .int i, u => ∃ t, u = Value.int i t
  | .str x, u => ∃ t, u = Value.str x t
  | .byt b, u => ∃ t, u = Value.bytes b t
  | .flt b, u => ∃ t, u = Value.float b t
  | .ref a, u => u = Value.ref a
  | .ty n, u => u = Value.type n

abbrev Vals : List V → List Value → Prop := Paired RelV
theorem Vals.length {xs : List V} {us : List Value} (r : Vals xs us) : xs.length = us.length := Paired.length r
theorem Vals.get : ∀ {xs : List V} {us : List Value} {i : Nat} {x : V}, Vals xs us → xs[i]? = some x → ∃ u, us[i]? = some u ∧ RelV x u
  | _, _, _, _, .nil, e => by simp at e
  | _, _, 0, _, .cons r _, e => by simp at e; subst e; exact ⟨_, rfl, r⟩
  | _, _, i + 1, x, .cons _ t, e => by
    obtain ⟨u, h1, h2⟩ := Vals.get (i := i) (x := x) t (by simpa using e)
    exact ⟨u, by simpa using h1, h2⟩
theorem Vals.set {x : V} {u : Value} (r : RelV x u) : ∀ {xs : List V} {us : List Value} (i : Nat), Vals xs us → Vals (xs.set i x) (us.set i u)
  | _, _, _, .nil => .nil
  | _, _, 0, .cons _ t => .cons r t
  | _, _, i + 1, .cons q t => .cons q (Vals.set r i t)
theorem Vals.append : ∀ {xs ys : List V} {us ws : List Value}, Vals xs us → Vals ys ws → Vals (xs ++ ys) (us ++ ws)
  | _, _, _, _, .nil, s => s
  | _, _, _, _, .cons r t, s => .cons r (Vals.append t s)
theorem Vals.take : ∀ {xs : List V} {us : List Value} (n : Nat), Vals xs us → Vals (xs.take n) (us.take n)
  | _, _, 0, _ => .nil
  | _, _, _ + 1, .nil => .nil
  | _, _, n + 1, .cons r t => .cons r (Vals.take n t)
theorem Vals.drop : ∀ {xs : List V} {us : List Value} (n : Nat), Vals xs us → Vals (xs.drop n) (us.drop n)
  | _, _, 0, r => r
  | _, _, _ + 1, .nil => .nil
  | _, _, n + 1, .cons _ t => Vals.drop n t
def RelO : Option V → Option Value → Prop
  | some v, some u => RelV v u
  | none, none => True
  | _, _ => False
def KV {κ : Type} : List (κ × V) → List (κ × Value) → Prop := Paired fun (p : κ × V) (q : κ × Value) => p.1 = q.1 ∧ RelV p.2 q.2

def kV : Key → V
  | .inl i => .int i
  | .inr x => .str x

inductive HO where
    | lst (xs : List V)
    | tup (xs : List V)
    | dK (kvs : List (Key × V)) | dT (kvs : List (List Key × V))
    | set (S : Int → Bool) (n : Nat)
    | ins (C dx : Addr) (fs : List (Str × V))
    | own (x : Addr)
    | xd (fs : List (Str × V))
    | met (f x : Addr)
    | rng (lo hi : Int)
    | frz (o : Obj) (u : HO)
    | tbl (ps : Array Value)
    | ext (φ : Heap → Prop)

abbrev Hp := Addr → Option HO
def upd (H : Hp) (a : Addr) (o : HO) : Hp := fun b => if b = a then some o else H b
theorem upd_same {H : Hp} {a : Addr} {o : HO} : upd H a o a = some o := by unfold upd; rw [if_pos rfl]
theorem upd_ne {H : Hp} {a b : Addr} {o : HO} (h : b ≠ a) : upd H a o b = H b := by unfold upd; rw [if_neg h]
theorem upd_upd {H : Hp} {a : Addr} {o u : HO} : upd (upd H a o) a u = upd H a u := by
  funext b; unfold upd; split <;> rfl
theorem ne_of {H : Hp} {a b : Addr} {o u : HO} (h : H a = some o) (h' : H b = some u) (d : o ≠ u) : a ≠ b := by
  intro e; subst e; rw [h] at h'; exact d (Option.some.inj h')
theorem ne_of_none {H : Hp} {a b : Addr} {o : HO} (h : H a = some o) (h' : H b = none) : a ≠ b := by
  intro e; subst e; rw [h] at h'; cases h'

section
variable (P : Program) (w : World)
def ObjOk (H : Hp) (h : Heap) (a : Addr) : HO → Prop
  | .lst xs => xs.length ≤ sizeLine ∧ ∃ (its : List Value) (n : Nat), Vals xs its ∧ h.get? a = some { cls := .type "list", data := .seq its.toArray n }
  | .tup xs => xs.length ≤ sizeLine ∧ ∃ its : List Value, Vals xs its ∧ IsTup h a its.toArray
  | .dK kvs => kvs.length ≤ sizeLine ∧ (a == sysModules) = false ∧ ∃ vs, KV kvs vs ∧ h.DictOf (mixKind P w) a vs
  | .dT kvs => kvs.length ≤ sizeLine ∧ (a == sysModules) = false ∧ ∃ xs : List (List Key × Addr × Value),
      Paired (fun (p : List Key × V) (q : List Key × Addr × Value) => p.1 = q.1 ∧ H q.2.1 = some (.tup (p.1.map kV)) ∧ RelV p.2 q.2.2) kvs xs ∧
      ∃ o es ep, h.get? a = some o ∧ o.ExactDict ∧ o.data = .dict es ep ∧ es.toList = xs.map (entryOfKey (tupleKind (mixKind P w))) ∧ (xs.map (·.1)).Nodup
  | .set S n => h.SetOf (intKind P w) a S n
  | .ins C dx fs => H dx = some (.own a) ∧ fs.length ≤ 1000 ∧ dx ≠ a ∧ h.get? a = some (PySem.W.instObj C dx) ∧
      ∃ mA, h.Ns1 dx mA ∧ (∀ f, RelO (fs.lookup f) (mA f)) ∧ PySem.Within mA (fs.map (·.1))
  | .own _ => ∃ o, h.get? a = some o
  | .xd fs => ∃ mA, h.Ns1 a mA ∧ ∀ f, RelO (fs.lookup f) (mA f)
  | .rng lo hi => ∃ t u v, h.get? a = some { cls := .type "range", data := .fields #[.int lo t, .int hi u, .int 1 v] }
  | .frz o u => h.get? a = some o ∧ ObjOk H h a u
  | .tbl ps => h.get? a = some { cls := .none, data := .fields ps }
  | .met f x => h.get? a = some (PySem.W.methodObj (.ref f) (.ref x))
  | .ext φ => φ h ∧ (∃ o, h.get? a = some o) ∧ ∀ h1 h2 : Heap, φ h1 → (∀ o, h1.get? a = some o → h2.get? a = some o) → φ h2
def HOk (H : Hp) (h : Heap) : Prop := ∀ a o, H a = some o → ObjOk P w H h a o
end

section
variable {P : Program} {w : World} {H H' : Hp} {h h' : Heap} {a : Addr} {o : HO}
theorem ObjOk.lt (x : ObjOk P w H h a o) : a < h.objs.size := by
  cases o with
  | lst xs => obtain ⟨_, _, _, _, e⟩ := x; exact Heap.lt_size e
  | tup xs => obtain ⟨_, _, _, p⟩ := x; exact p.lt
  | dK kvs => obtain ⟨_, _, _, _, o, _, _, e, _⟩ := x; exact Heap.lt_size e
  | dT kvs => obtain ⟨_, _, _, _, o, _, _, e, _⟩ := x; exact Heap.lt_size e
  | set S n => obtain ⟨o, _, _, _, e, _⟩ := x; exact Heap.lt_size e
  | ins C dx fs => obtain ⟨_, _, _, e, _⟩ := x; exact Heap.lt_size e
  | own y => obtain ⟨_, e⟩ := x; exact Heap.lt_size e
  | xd fs => obtain ⟨_, ⟨_, _, _, e, _⟩, _⟩ := x; exact Heap.lt_size e
  | rng lo hi => obtain ⟨_, _, _, e⟩ := x; exact Heap.lt_size e
  | frz ob u => obtain ⟨e, _⟩ := x; exact Heap.lt_size e
  | tbl ps => exact Heap.lt_size (show h.get? a = some _ from x)
  | met f y => exact Heap.lt_size (show h.get? a = some _ from x)
  | ext φ => obtain ⟨_, ⟨_, e⟩, _⟩ := x; exact Heap.lt_size e
theorem Paired.mapP {α β : Type} {F G : α → β → Prop} : ∀ {l₁ : List α} {l₂ : List β}, Paired F l₁ l₂ → (∀ a b, F a b → G a b) → Paired G l₁ l₂
  | _, _, .nil, _ => .nil
  | _, _, .cons r t, f => .cons (f _ _ r) (Paired.mapP t f)
theorem ObjOk.stay (x : ObjOk P w H h a o) (k : ∀ b u, (b = a ∨ H b = some (.own a)) → h.get? b = some u → h'.get? b = some u)
    (ho : ∀ b, H b = some (.own a) → H' b = some (.own a)) (ht : ∀ b xs, H b = some (.tup xs) → H' b = some (.tup xs)) : ObjOk P w H' h' a o := by
  induction o with
  | lst xs => obtain ⟨z, its, n, r, e⟩ := x; exact ⟨z, its, n, r, k _ _ (.inl rfl) e⟩
  | tup xs => obtain ⟨z, its, r, ob, e, c⟩ := x; exact ⟨z, its, r, ob, k _ _ (.inl rfl) e, c⟩
  | dK kvs => obtain ⟨z, y, vs, r, ob, es, ep, e, c⟩ := x; exact ⟨z, y, vs, r, ob, es, ep, k _ _ (.inl rfl) e, c⟩
  | dT kvs =>
    obtain ⟨z, y, xs, r, ob, es, ep, e, c⟩ := x
    exact ⟨z, y, xs, Paired.mapP r fun p q z => ⟨z.1, ht _ _ z.2.1, z.2.2⟩, ob, es, ep, k _ _ (.inl rfl) e, c⟩
  | set S n => obtain ⟨ob, es, ep, t, e, c⟩ := x; exact ⟨ob, es, ep, t, k _ _ (.inl rfl) e, c⟩
  | ins C dx fs =>
    obtain ⟨d, z, ne, e, mA, ⟨od, es, ep, e2, c⟩, r⟩ := x
    exact ⟨ho _ d, z, ne, k _ _ (.inl rfl) e, mA, ⟨od, es, ep, k _ _ (.inr d) e2, c⟩, r⟩
  | own y => obtain ⟨ob, e⟩ := x; exact ⟨ob, k _ _ (.inl rfl) e⟩
  | xd fs => obtain ⟨mA, ⟨od, es, ep, e, c⟩, r⟩ := x; exact ⟨mA, ⟨od, es, ep, k _ _ (.inl rfl) e, c⟩, r⟩
  | rng lo hi => obtain ⟨t, u, v, e⟩ := x; exact ⟨t, u, v, k _ _ (.inl rfl) e⟩
  | frz ob u ih => obtain ⟨e, q⟩ := x; exact ⟨k _ _ (.inl rfl) e, ih q⟩
  | tbl ps =>
    have e : h.get? a = some { cls := .none, data := .fields ps } := x
    show h'.get? a = some { cls := .none, data := .fields ps }
    exact k a _ (.inl rfl) e
  | met f y =>
    have e : h.get? a = some (PySem.W.methodObj (.ref f) (.ref y)) := x
    show h'.get? a = some (PySem.W.methodObj (.ref f) (.ref y))
    exact k a _ (.inl rfl) e
  | ext φ => obtain ⟨p, ⟨o, e⟩, st⟩ := x; exact ⟨st _ _ p fun o q => k _ _ (.inl rfl) q, ⟨o, k _ _ (.inl rfl) e⟩, st⟩
theorem HOk.lt (x : HOk P w H h) (e : H a = some o) : a < h.objs.size := (x a o e).lt
theorem HOk.fresh (x : HOk P w H h) (e : h.objs.size ≤ a) : H a = none := by
  cases q : H a with
  | none => rfl
  | some u => exact absurd (Nat.lt_of_lt_of_le (x.lt q) e) (Nat.lt_irrefl _)
theorem HOk.kept (x : HOk P w H h) (k : ∀ b u, h.get? b = some u → h'.get? b = some u) : HOk P w H h' := fun a o e =>
  (x a o e).stay (fun b u _ q => k b u q) (fun _ q => q) fun _ _ q => q
theorem HOk.laid (x : HOk P w H h) (k : ∀ b u, h.get? b = some u → h'.get? b = some u) (hp : h.objs.size ≤ a) (new : ObjOk P w (upd H a o) h' a o) : HOk P w (upd H a o) h' := fun b u e => by
  have hn := x.fresh hp
  by_cases hb : b = a
  · subst hb; rw [upd_same] at e; cases e; exact new
  · rw [upd_ne hb] at e
    exact (x b u e).stay (fun c v _ q => k c v q) (fun c q => by rw [upd_ne (ne_of_none q hn)]; exact q) fun c xs q => by rw [upd_ne (ne_of_none q hn)]; exact q
end

def Rd (H : Hp) (a : Addr) (u : HO) : Prop := H a = some u ∨ ∃ o, H a = some (.frz o u)
theorem Rd.ok {P : Program} {w : World} {H : Hp} {h : Heap} {a : Addr} {u : HO} (r : Rd H a u) (x : HOk P w H h) : ObjOk P w H h a u := by
  rcases r with r | ⟨o, r⟩
  · exact x a u r
  · obtain ⟨_, q⟩ := x a _ r
    exact q
def Mut : Option HO → Prop
  | some (.lst _) => True
  | some (.dK _) => True
  | some (.dT _) => True
  | some (.set _ _) => True
  | some (.ins _ _ _) => True
  | some (.ext _) => True
  | _ => False
section
variable {P : Program} {w : World} {H : Hp} {h h' : Heap} {x e : Addr} {o' : HO}
theorem HOk.write (ok : HOk P w H h) (mu : Mut (H x)) (he : e = x ∨ H e = some (.own x)) (k : ∀ b u, b ≠ e → h.get? b = some u → h'.get? b = some u) (heo : ∃ u, h'.get? e = some u)
    (new : ObjOk P w (upd H x o') h' x o') : HOk P w (upd H x o') h' := fun b u q => by
  have nown : ∀ c y, H c = some (.own y) → c ≠ x := fun c y r z => by subst z; rw [r] at mu; exact mu
  have ntup : ∀ c xs, H c = some (.tup xs) → c ≠ x := fun c xs r z => by subst z; rw [r] at mu; exact mu
  by_cases hb : b = x
  · subst hb; rw [upd_same] at q; cases q; exact new
  · rw [upd_ne hb] at q
    by_cases hbe : b = e
    · have q' : H b = some (.own x) := by
        rcases he with z | z
        · exact absurd (hbe.trans z) hb
        · rw [hbe]; exact z
      rw [q] at q'; cases q'
      obtain ⟨v, hv⟩ := heo
      exact ⟨v, by rw [hbe]; exact hv⟩
    · refine (ok b u q).stay (fun c v hc r => k c v ?_ r) (fun c r => by rw [upd_ne (nown c b r)]; exact r) fun c xs r => by rw [upd_ne (ntup c xs r)]; exact r
      rcases hc with rfl | hc
      · exact hbe
      · rintro rfl
        rcases he with z | z
        · exact nown c b hc z
        · rw [hc] at z; cases z; exact hb rfl
end

/-! ### kept unless tracked; of the frames at fs (the callers') the slots may change (an exception that passes writes there); of the records at ex (iterators) nothing is said -/
structure Un (fs ex : List Addr) (H H' : Hp) (h h' : Heap) : Prop where
  keep : ∀ b o, h.get? b = some o → H b = none → b ∉ fs → b ∉ ex → h'.get? b = some o
  slot : ∀ b o, h.get? b = some o → H b = none → b ∈ fs → b ∉ ex → ∃ sl, h'.get? b = some { o with slots := sl }
  free : ∀ b o, h.get? b = some o → H b = none → b ∉ ex → H' b = none
  there : ∀ b o, h.get? b = some o → b ∉ ex → ∃ o', h'.get? b = some o'
  tups : ∀ b xs, H b = some (.tup xs) → H' b = some (.tup xs)
  frzs : ∀ b o u, H b = some (.frz o u) → H' b = some (.frz o u)
  tbls : ∀ b ps, H b = some (.tbl ps) → ∃ more, H' b = some (.tbl (ps ++ more))
section
variable {fs fs' ex ex' : List Addr} {H H1 H2 : Hp} {h h1 h2 h' : Heap} {a x e : Addr} {o : HO}
theorem Un.any (u : Un fs ex H H1 h h1) {b : Addr} {ob : Obj} (q : h.get? b = some ob) (n : H b = none) (hx : b ∉ ex) : ∃ sl, h1.get? b = some { ob with slots := sl } := by
  by_cases hb : b ∈ fs
  · exact u.slot b ob q n hb hx
  · exact ⟨ob.slots, u.keep b ob q n hb hx⟩
theorem Un.kept (k : ∀ b u, h.get? b = some u → h'.get? b = some u) : Un fs ex H H h h' :=
  ⟨fun b ob q _ _ _ => k b ob q, fun b ob q _ _ _ => ⟨ob.slots, k b ob q⟩, fun _ _ _ n _ => n, fun b ob q _ => ⟨ob, k b ob q⟩, fun _ _ q => q, fun _ _ _ q => q, fun _ ps q => ⟨#[], by rw [q]; simp⟩⟩
theorem Un.refl : Un fs ex H H h h := Un.kept fun _ _ q => q
theorem Un.laid (k : ∀ b u, h.get? b = some u → h'.get? b = some u) (hp : h.objs.size ≤ a) (hn : H a = none) : Un fs ex H (upd H a o) h h' where
  keep := fun b u q _ _ _ => k b u q
  slot := fun b u q _ _ _ => ⟨u.slots, k b u q⟩
  free := fun b u q n _ => by rw [upd_ne (Nat.ne_of_lt (Nat.lt_of_lt_of_le (Heap.lt_size q) hp))]; exact n
  there := fun b u q _ => ⟨u, k b u q⟩
  tups := fun b xs q => by rw [upd_ne (ne_of_none q hn)]; exact q
  frzs := fun b u xs q => by rw [upd_ne (ne_of_none q hn)]; exact q
  tbls := fun b ps q => ⟨#[], by rw [upd_ne (ne_of_none q hn), q]; simp⟩
theorem Un.write (mu : Mut (H x)) (he : e = x ∨ H e = some (.own x)) (k : ∀ b u, b ≠ e → h.get? b = some u → h'.get? b = some u) (heo : ∃ u, h'.get? e = some u) : Un fs ex H (upd H x o) h h' := by
  have hx : ∀ b, H b = none → b ≠ x := fun b n z => by subst z; rw [n] at mu; exact mu
  have hb : ∀ b, H b = none → b ≠ e := fun b n z => by
    subst z
    rcases he with r | r
    · exact hx b n r
    · rw [n] at r; cases r
  have hm : ∀ b u, H b = some u → ¬ Mut (some u) → b ≠ x := fun b u q nm z => by subst z; rw [q] at mu; exact nm mu
  refine ⟨fun b u q n _ _ => k b u (hb b n) q, fun b u q n _ _ => ⟨u.slots, k b u (hb b n) q⟩, fun b u q n _ => by rw [upd_ne (hx b n)]; exact n, fun b u q _ => ?_,
    fun b xs q => by rw [upd_ne (hm b _ q fun z => z)]; exact q, fun b u xs q => by rw [upd_ne (hm b _ q fun z => z)]; exact q, fun b ps q => ⟨#[], by rw [upd_ne (hm b _ q fun z => z), q]; simp⟩⟩
  by_cases hbe : b = e
  · subst hbe; exact heo
  · exact ⟨u, k b u hbe q⟩
end

/-! ### the heap without what is tracked -/
def trk (h : Heap) (H : Hp) : List Addr := (List.range h.objs.size).filter fun a => (H a).isSome
def hidT (h : Heap) (H : Hp) : Heap := PySem.W.hideAll h (trk h H)
theorem hidT_size (h : Heap) (H : Hp) : (hidT h H).objs.size = h.objs.size := PySem.W.hideAll_size _ _
theorem hidT_get {h : Heap} {H : Hp} {b : Addr} {o : Obj} (e : h.get? b = some o) (n : H b = none) : (hidT h H).get? b = some o :=
  PySem.W.hideAll_get _ e fun hm => by
    have q : (H b).isSome = true := (List.mem_filter.mp hm).2
    rw [n] at q; simp at q
theorem of_hidT {h : Heap} {H : Hp} {b : Addr} {o : Obj} (e : (hidT h H).get? b = some o) : h.get? b = some o ∧ H b = none := by
  have e' : h.get? b = some o := PySem.W.of_hideAll (trk h H) e
  refine ⟨e', ?_⟩
  cases q : H b with
  | none => rfl
  | some x =>
    have hm : b ∈ trk h H := List.mem_filter.mpr ⟨List.mem_range.mpr (Heap.lt_size e'), by simp [q]⟩
    have z : (hidT h H).get? b = none := PySem.W.hideAll_none (trk h H) hm
    rw [z] at e; cases e

/-! ### OpenK's ledger, filled with every new object but one -/
def allNews (g h : Heap) (L : Addr) : List (Addr × Obj) := (List.range h.objs.size).filterMap fun a => if a = L ∨ (g.get? a).isSome = true then none else (h.get? a).map fun o => (a, o)
def rest (g h : Heap) (L d : Addr) : List (Addr × Obj) := (allNews g h L).filter fun p => decide (p.1 ≠ d)
end L2

namespace L2
open PySem PySem.Spec PyProof.Rows

structure Mod (K : PySem.W.Frag) (mg : Str → Option Value) (base : Heap) : Prop where
  kin : K.In base
  glob : base.Ns mainGlobals mg
  blt : ∃ mb, base.Ns builtinsNs mb ∧ ∀ x : Str, x ≠ "__name__" → mb x = bootBuiltins x
  nolimit : base.NoLimit

structure Cx where
  prog : Program
  w : World
  K : PySem.W.Frag
  mg : Str → Option Value
  base : Heap
  A : Around
  N : List Str
  s₀ : Shared
  H₀ : Hp
  env : Env
  outer : List Env
  stack : List Env
  ex : List Addr
  fn : Str → Bool
  calm : Bool
  pn : List (Addr × Obj)
  xe : Value → Shared → Prop
def frs (l : List Env) : List Addr := l.filterMap (·.frame)
abbrev Cx.fs (X : Cx) : List Addr := frs X.outer

def Vis (sc : Scope) (x : Str) : Prop := sc.names.lookup x = some .local ∨ sc.names.lookup x = some .cell ∨ sc.names.lookup x = some .free
def Loc (sc : Scope) (x : Str) : Prop := sc.names.lookup x = some .local ∨ sc.names.lookup x = some .cell
def Look (env : Env) (h : Heap) (m : Str → Option Value) (x : Str) (u : Value) : Prop :=
  (env.kindOf x = some .local ∧ m x = some u) ∨ ((env.kindOf x = some .cell ∨ env.kindOf x = some .free) ∧ ∃ c, env.cells.lookup x = some c ∧ h.IsCell c (some u))

structure Cx.Ok (X : Cx) : Prop where
  mod : Mod X.K X.mg X.base
  kind : X.env.scope.kind = .function
  glob : X.env.globals = mainGlobals
  blt : X.env.builtins = builtinsNs
  above : X.s₀.heap.objs.size ≤ X.env.locals
  inj : ∀ x y c, X.env.cells.lookup x = some c → X.env.cells.lookup y = some c → x = y
  has : ∀ x, (X.env.kindOf x = some .cell ∨ X.env.kindOf x = some .free) → ∃ c, X.env.cells.lookup x = some c
  cab : ∀ x c, X.fn x = true → X.env.cells.lookup x = some c → X.s₀.heap.objs.size ≤ c
  hd : X.calm = true → X.A.handled = none
  frames : X.A.frames = some X.stack
  stk : X.stack = X.outer ∨ (X.stack = X.env :: X.outer ∧ X.env.frame = some X.env.locals)
  exf : ∀ b ∈ X.ex, b ≠ X.env.locals ∧ ∀ x c, X.env.cells.lookup x = some c → c ≠ b
  bs : ∀ b o, X.base.get? b = some o → X.s₀.heap.get? b = some o ∧ X.H₀ b = none
  bsz : X.base.objs.size ≤ X.s₀.heap.objs.size
  noex : ∀ b o, X.base.get? b = some o → b ∉ X.ex
  exfs : ∀ b ∈ X.ex, b ∉ X.fs
  funs : X.s₀.heap.FunFrames X.base X.outer
  frf : ∀ b ∈ X.fs, X.H₀ b = none

structure Inv (X : Cx) (pins : List (Addr × Obj)) (σ : List (Option V)) (H : Hp) (s : Shared) : Prop where
  ok : X.Ok
  os : s.os = X.s₀.os
  bare : AllBare s.gens
  base : Un X.fs X.ex X.H₀ H X.s₀.heap s.heap
  loc : ∃ m, s.heap.Ns X.env.locals m ∧ ∀ (i : Nat) (x : Str) (v : V), X.N[i]? = some x → σ[i]? = some (some v) → Vis X.env.scope x → ∃ u, RelV v u ∧ Look X.env s.heap m x u
  cell : ∀ x c, X.env.cells.lookup x = some c → ∃ v, s.heap.IsCell c v
  free : H X.env.locals = none
  freeC : ∀ x c, X.env.cells.lookup x = some c → H c = none
  pin : ∀ p ∈ X.pn ++ pins, s.heap.get? p.1 = some p.2 ∧ H p.1 = none ∧ p.1 ≠ X.env.locals ∧ p.1 ∉ X.fs ∧ ∀ v, p.2.data ≠ .cell v
  hok : HOk X.prog X.w H s.heap
  len : σ.length = X.N.length

section
variable {X : Cx} {pins : List (Addr × Obj)} {σ : List (Option V)} {H H' : Hp} {s : Shared} {h' : Heap}

theorem Cx.Ok.nofr (ok : X.Ok) {b : Addr} {o : Obj} (e : X.base.get? b = some o) : b ∉ X.fs := fun hb => by
  have := (ok.funs.mem hb).1
  rw [e] at this; cases this
theorem Inv.bs (I : Inv X pins σ H s) : ∀ b o, X.base.get? b = some o → s.heap.get? b = some o ∧ H b = none := fun b o e =>
  ⟨I.base.keep b o (I.ok.bs b o e).1 (I.ok.bs b o e).2 (I.ok.nofr e) (I.ok.noex b o e), I.base.free b o (I.ok.bs b o e).1 (I.ok.bs b o e).2 (I.ok.noex b o e)⟩
theorem Inv.bk (I : Inv X pins σ H s) : ∀ b o, X.base.get? b = some o → s.heap.get? b = some o := fun b o e => (I.bs b o e).1
theorem Inv.mod (I : Inv X pins σ H s) : Mod X.K X.mg X.base := I.ok.mod
theorem Inv.kIn (I : Inv X pins σ H s) : X.K.In s.heap := I.ok.mod.kin.keeps I.bk
theorem Inv.lt (I : Inv X pins σ H s) : X.env.locals < s.heap.objs.size := let ⟨_, hn, _⟩ := I.loc; hn.lt
theorem Inv.sz (I : Inv X pins σ H s) : X.s₀.heap.objs.size ≤ s.heap.objs.size := Nat.le_trans I.ok.above (Nat.le_of_lt I.lt)
theorem Inv.nofs (I : Inv X pins σ H s) {a : Addr} (h : s.heap.objs.size ≤ a) : a ∉ X.fs := fun hb => by
  obtain ⟨_, o, ho, _⟩ := I.ok.funs.mem hb
  exact absurd (Nat.lt_of_lt_of_le (Heap.lt_size ho) (Nat.le_trans I.sz h)) (Nat.lt_irrefl _)
theorem Inv.cne (I : Inv X pins σ H s) : ∀ x c, X.env.cells.lookup x = some c → c ≠ X.env.locals := fun x c e z => by
  obtain ⟨v, o, ho, hd⟩ := I.cell x c e
  obtain ⟨m, ⟨o', es, ep, ho', hd', _⟩, _⟩ := I.loc
  rw [z, ho'] at ho; cases ho; rw [hd'] at hd; cases hd
theorem Inv.funs (I : Inv X pins σ H s) : s.heap.FunFrames X.base X.outer := by
  have all : ∀ (l : List Env), (∀ b ∈ frs l, b ∈ X.fs) → X.s₀.heap.FunFrames X.base l → s.heap.FunFrames X.base l := by
    intro l
    induction l with
    | nil => intro _ _; trivial
    | cons env r ih =>
      intro hs hl
      obtain ⟨hk, ⟨L, o, hf, hn, ho, hd⟩, hr⟩ := hl
      have hL : L ∈ X.fs := hs L (by unfold frs; rw [List.filterMap_cons, hf]; exact List.mem_cons_self)
      obtain ⟨sl, e⟩ := I.base.slot L o ho (I.ok.frf L hL) hL fun z => I.ok.exfs L z hL
      exact ⟨hk, ⟨L, _, hf, hn, e, hd⟩, ih (fun b hb => hs b (by unfold frs; rw [List.filterMap_cons, hf]; exact List.mem_cons_of_mem _ hb)) hr⟩
  exact all X.outer (fun _ hb => hb) I.ok.funs

theorem Inv.stack (I : Inv X pins σ H s) : s.heap.FunFrames X.base X.stack := by
  rcases I.ok.stk with e | ⟨e, hf⟩
  · rw [e]; exact I.funs
  · rw [e]
    obtain ⟨m, hn, _⟩ := I.loc
    refine .cons (by rw [I.ok.kind]; decide) hf hn ?_ I.funs
    exact Heap.get?_none_of_le (Nat.le_trans I.ok.bsz I.ok.above)
theorem Inv.stkSub (I : Inv X pins σ H s) : ∀ b ∈ frs X.stack, b ∈ X.env.locals :: X.fs := fun b hb => by
  rcases I.ok.stk with e | ⟨e, hf⟩
  · rw [e] at hb; exact List.mem_cons_of_mem _ hb
  · rw [e] at hb
    unfold frs at hb
    rw [List.filterMap_cons, hf] at hb
    exact hb
theorem Inv.stkFree (I : Inv X pins σ H s) : ∀ b ∈ frs X.stack, H b = none := fun b hb => by
  rcases List.mem_cons.mp (I.stkSub b hb) with e | hb
  · rw [e]; exact I.free
  · obtain ⟨_, o, ho, _⟩ := I.ok.funs.mem hb
    exact I.base.free b o ho (I.ok.frf b hb) fun z => I.ok.exfs b z hb

theorem Inv.step {g' : Array GenState} {t' : Nat} {d' : Drawn} {ch : List Addr} (I : Inv X pins σ H s)
    (hch : ∀ b ∈ ch, (b ∈ X.ex ∨ X.s₀.heap.objs.size ≤ b) ∧ b ≠ X.env.locals ∧ (∀ x c, X.env.cells.lookup x = some c → c ≠ b) ∧ ∀ p ∈ X.pn ++ pins, p.1 ≠ b)
    (keep : ∀ b o, b ≠ X.env.locals → b ∉ X.fs → b ∉ ch → s.heap.get? b = some o → H b = none → h'.get? b = some o)
    (slot : ∀ b o, b ≠ X.env.locals → b ∈ X.fs → b ∉ ch → s.heap.get? b = some o → H b = none → ∃ sl, h'.get? b = some { o with slots := sl }) (free : ∀ b o, b ∉ ch → s.heap.get? b = some o → H b = none → H' b = none)
    (there : ∀ b o, b ∉ ch → s.heap.get? b = some o → ∃ o', h'.get? b = some o')
    (tups : ∀ b xs, H b = some (.tup xs) → H' b = some (.tup xs)) (frzs : ∀ b o u, H b = some (.frz o u) → H' b = some (.frz o u)) (tbls : ∀ b ps, H b = some (.tbl ps) → ∃ more, H' b = some (.tbl (ps ++ more)))
    (ns : ∀ m, s.heap.Ns X.env.locals m → h'.Ns X.env.locals m) (hok : HOk X.prog X.w H' h') (hg : AllBare g') :
    Inv X pins σ H' { s with heap := h', gens := g', drawn := d', toks := t' } := by
  have neL : ∀ b o, X.s₀.heap.get? b = some o → b ≠ X.env.locals := fun b o e => Nat.ne_of_lt (Nat.lt_of_lt_of_le (Heap.lt_size e) I.ok.above)
  have neC : ∀ b o, X.s₀.heap.get? b = some o → b ∉ X.ex → b ∉ ch := fun b o e hx hb => by
    rcases (hch b hb).1 with z | z
    · exact hx z
    · exact absurd (Nat.lt_of_lt_of_le (Heap.lt_size e) z) (Nat.lt_irrefl _)
  have cellK : ∀ x c, X.env.cells.lookup x = some c → ∀ v, s.heap.IsCell c v → h'.IsCell c v := fun x c e v ⟨o, ho, hd⟩ => by
    have nch : c ∉ ch := fun z => (hch c z).2.2.1 x c e rfl
    by_cases hc : c ∈ X.fs
    · obtain ⟨sl, q⟩ := slot c o (I.cne x c e) hc nch ho (I.freeC x c e)
      exact ⟨_, q, hd⟩
    · exact ⟨o, keep c o (I.cne x c e) hc nch ho (I.freeC x c e), hd⟩
  refine ⟨I.ok, I.os, hg, ⟨fun b o e n hb hx => ?_, fun b o e n hb hx => ?_, fun b o e n hx => ?_, fun b o e hx => ?_, fun b xs e => tups b xs (I.base.tups b xs e), fun b o xs e => frzs b o xs (I.base.frzs b o xs e), fun b ps e => ?_⟩, ?_, fun x c e => ?_, ?_, fun x c e => ?_, fun p hp => ?_, hok, I.len⟩
  · exact keep b o (neL b o e) hb (neC b o e hx) (I.base.keep b o e n hb hx) (I.base.free b o e n hx)
  · obtain ⟨sl, e1⟩ := I.base.slot b o e n hb hx
    obtain ⟨sl', e2⟩ := slot b _ (neL b o e) hb (neC b o e hx) e1 (I.base.free b o e n hx)
    exact ⟨sl', e2⟩
  · obtain ⟨o', e1⟩ := I.base.there b o e hx
    exact free b o' (neC b o e hx) e1 (I.base.free b o e n hx)
  · obtain ⟨o', e1⟩ := I.base.there b o e hx
    exact there b o' (neC b o e hx) e1
  · obtain ⟨m1, e1⟩ := I.base.tbls b ps e
    obtain ⟨m2, e2⟩ := tbls b _ e1
    exact ⟨m1 ++ m2, by rw [e2, Array.append_assoc]⟩
  · obtain ⟨m, hn, hl⟩ := I.loc
    refine ⟨m, ns m hn, fun i x v e1 e2 e3 => ?_⟩
    obtain ⟨u, r, l⟩ := hl i x v e1 e2 e3
    refine ⟨u, r, ?_⟩
    rcases l with l | ⟨k, c, e, z⟩
    · exact .inl l
    · exact .inr ⟨k, c, e, cellK x c e _ z⟩
  · obtain ⟨v, z⟩ := I.cell x c e
    exact ⟨v, cellK x c e v z⟩
  · obtain ⟨m, ⟨o, _, _, ho, _⟩, _⟩ := I.loc
    exact free _ o (fun z => (hch _ z).2.1 rfl) ho I.free
  · obtain ⟨v, o, ho, hd⟩ := I.cell x c e
    exact free c o (fun z => (hch c z).2.2.1 x c e rfl) ho (I.freeC x c e)
  · obtain ⟨e, n, ne, nf, d⟩ := I.pin p hp
    have nch : p.1 ∉ ch := fun z => (hch p.1 z).2.2.2 p hp rfl
    exact ⟨keep p.1 p.2 ne nf nch e n, free p.1 p.2 nch e n, ne, nf, d⟩
theorem Inv.un {t' : Nat} (I : Inv X pins σ H s) (u : Un X.fs [] H H' s.heap h') (hok : HOk X.prog X.w H' h') : Inv X pins σ H' { s with heap := h', toks := t' } := by
  obtain ⟨m, ⟨o, es, ep, ho, r⟩, _⟩ := id I.loc
  obtain ⟨sl, hL⟩ := u.any ho I.free (by simp)
  exact I.step (g' := s.gens) (d' := s.drawn) (ch := []) (fun _ z => nomatch z) (fun b o _ hb _ e n => u.keep b o e n hb (by simp)) (fun b o _ hb _ e n => u.slot b o e n hb (by simp)) (fun b o _ e n => u.free b o e n (by simp)) (fun b o _ e => u.there b o e (by simp)) u.tups u.frzs u.tbls (fun m' hm => by
    obtain ⟨o', es', ep', ho', r'⟩ := hm
    rw [ho] at ho'; cases ho'
    exact ⟨_, es', ep', hL, r'⟩) hok I.bare
theorem Inv.call {g' : Array GenState} {t' : Nat} {d' : Drawn} {ch : List Addr} (I : Inv X pins σ H s) (u : Un (frs X.stack) ch H H' s.heap h') (hok : HOk X.prog X.w H' h') (hg : AllBare g')
    (hch : ∀ b ∈ ch, (b ∈ X.ex ∨ X.s₀.heap.objs.size ≤ b) ∧ b ≠ X.env.locals ∧ (∀ x c, X.env.cells.lookup x = some c → c ≠ b) ∧ ∀ p ∈ X.pn ++ pins, p.1 ≠ b) :
    Inv X pins σ H' { s with heap := h', gens := g', drawn := d', toks := t' } := by
  obtain ⟨m, ⟨o, es, ep, ho, r⟩, _⟩ := id I.loc
  obtain ⟨sl, hL⟩ := u.any ho I.free fun z => (hch _ z).2.1 rfl
  exact I.step (ch := ch) hch (fun b o hL hb hc e n => u.keep b o e n (fun z => (List.mem_cons.mp (I.stkSub b z)).elim hL hb) hc) (fun b o _ _ hc e n => u.any e n hc) (fun b o hc e n => u.free b o e n hc) (fun b o hc e => u.there b o e hc) u.tups u.frzs u.tbls (fun m' hm => by
    obtain ⟨o', es', ep', ho', r'⟩ := hm
    rw [ho] at ho'; cases ho'
    exact ⟨_, es', ep', hL, r'⟩) hok hg
theorem Inv.turned {t' : Nat} {it : Addr} (I : Inv X pins σ H s) (k : ∀ b o, b ≠ it → s.heap.get? b = some o → h'.get? b = some o) (hn : H it = none) (hL : it ≠ X.env.locals)
    (h1 : it ∈ X.ex ∨ X.s₀.heap.objs.size ≤ it) (h2 : ∀ x c, X.env.cells.lookup x = some c → c ≠ it) (h3 : ∀ p ∈ X.pn ++ pins, p.1 ≠ it) : Inv X pins σ H { s with heap := h', toks := t' } := by
  have nit : ∀ b u, H b = some u → b ≠ it := fun b u e z => by rw [z, hn] at e; cases e
  refine I.step (g' := s.gens) (d' := s.drawn) (ch := [it]) (fun b hb => ?_) (fun b o _ _ hc e _ => k b o (fun z => hc (by simp [z])) e) (fun b o _ _ hc e _ => ⟨o.slots, k b o (fun z => hc (by simp [z])) e⟩) (fun _ _ _ _ n => n)
    (fun b o hc e => ⟨o, k b o (fun z => hc (by simp [z])) e⟩) (fun _ _ e => e) (fun _ _ _ e => e) (fun b ps e => ⟨#[], by rw [e]; simp⟩) (fun m hm => ?_) (fun b u e => ?_) I.bare
  · have e : b = it := by simpa using hb
    subst e
    exact ⟨h1, hL, h2, h3⟩
  · obtain ⟨o, es, ep, ho, r⟩ := hm
    exact ⟨o, es, ep, k _ o (Ne.symm hL) ho, r⟩
  · refine (I.hok b u e).stay (fun c v hc q => k c v ?_ q) (fun _ q => q) fun _ _ q => q
    rcases hc with z | z
    · rw [z]; exact nit b u e
    · exact nit c _ z
theorem Inv.tok (I : Inv X pins σ H s) (t : Nat) : Inv X pins σ H { s with toks := t } := I.un (h' := s.heap) (t' := t) Un.refl I.hok
theorem Inv.kept {t' : Nat} (I : Inv X pins σ H s) (k : ∀ b u, s.heap.get? b = some u → h'.get? b = some u) : Inv X pins σ H { s with heap := h', toks := t' } := I.un (Un.kept k) (I.hok.kept k)
theorem Inv.laid {a : Addr} {o : HO} {t' : Nat} (I : Inv X pins σ H s) (k : ∀ b u, s.heap.get? b = some u → h'.get? b = some u) (hp : s.heap.objs.size ≤ a) (new : ObjOk X.prog X.w (upd H a o) h' a o) :
    Inv X pins σ (upd H a o) { s with heap := h', toks := t' } := I.un (Un.laid k hp (I.hok.fresh hp)) (I.hok.laid k hp new)
theorem Inv.write {x e : Addr} {o : HO} {t' : Nat} (I : Inv X pins σ H s) (mu : Mut (H x)) (he : e = x ∨ H e = some (.own x)) (k : ∀ b u, b ≠ e → s.heap.get? b = some u → h'.get? b = some u) (heo : ∃ u, h'.get? e = some u)
    (new : ObjOk X.prog X.w (upd H x o) h' x o) : Inv X pins σ (upd H x o) { s with heap := h', toks := t' } := I.un (Un.write mu he k heo) (I.hok.write mu he k heo new)
theorem Inv.pins_of {pins' : List (Addr × Obj)} (I : Inv X pins σ H s) (h : ∀ p ∈ pins', s.heap.get? p.1 = some p.2 ∧ H p.1 = none ∧ p.1 ≠ X.env.locals ∧ p.1 ∉ X.fs ∧ ∀ v, p.2.data ≠ .cell v) : Inv X pins' σ H s :=
  ⟨I.ok, I.os, I.bare, I.base, I.loc, I.cell, I.free, I.freeC, fun p hp => (List.mem_append.mp hp).elim (fun z => I.pin p (List.mem_append_left _ z)) (h p), I.hok, I.len⟩

theorem nodup_ix {N : List Str} (hN : N.Nodup) {i j : Nat} {x : Str} (a : N[i]? = some x) (b : N[j]? = some x) : i = j := by
  obtain ⟨h1, e1⟩ := List.getElem?_eq_some_iff.mp a
  obtain ⟨h2, e2⟩ := List.getElem?_eq_some_iff.mp b
  exact (List.getElem_inj hN).mp (e1.trans e2.symm)

theorem store_ok2 {M : Model} {A : Around} {E : Value → Shared → Prop} {i : Nat} {x : Str} {v : V} {u : Value} {Q : Unit → Shared → Prop} (I : Inv X pins σ H s) (hN : X.N.Nodup) (hi : X.N[i]? = some x) (hx : Loc X.env.scope x) (r : RelV v u)
    (h : ∀ s', Inv X pins (σ.set i (some v)) H s' → (∃ a, Heap.SameBut a s.heap s'.heap ∧ (a = X.env.locals ∨ X.env.cells.lookup x = some a)) → Q () s') (hf : X.fn x = true ∨ X.env.scope.names.lookup x = some .local := by first | exact .inl rfl | exact .inr rfl | assumption) : wpAny M A (storeName X.env x u) Q E s := by
  obtain ⟨m, hn, hl⟩ := id I.loc
  have hcls : (X.env.scope.kind == .class || (X.env.scope.kind == .module && X.env.locals != X.env.globals)) = false := by rw [I.ok.kind]; rfl
  have hiσ : i < σ.length := by rw [I.len]; exact (List.getElem?_eq_some_iff.mp hi).1
  have cne := I.cne
  have tracked : ∀ {a : Addr} {h' : Heap}, (∃ o, s.heap.get? a = some o ∧ H a = none) → Heap.SameBut a s.heap h' → HOk X.prog X.w H h' := fun {a h'} ha hs b ob e => by
    obtain ⟨_, _, hfree⟩ := ha
    refine (I.hok b ob e).stay (fun c w' hc q => (hs.2 c ?_).trans q) (fun _ q => q) fun _ _ q => q
    rintro rfl
    rcases hc with rfl | hc
    · rw [hfree] at e; cases e
    · rw [hfree] at hc; cases hc
  rcases hx with hk | hk
  · refine wpAny_storeName_local hk hn (fun h' hn' hs => ?_) hcls
    obtain ⟨oL, _, _, hoL, _⟩ := id hn
    refine h _ ⟨I.ok, I.os, I.bare, ⟨fun b o e n hb hx => ?_, fun b o e n hb hx => ?_, I.base.free, fun b o e hx => ?_, I.base.tups, I.base.frzs, I.base.tbls⟩, ⟨_, hn', fun j y v' e1 e2 e3 => ?_⟩, fun y c e => ?_, I.free, I.freeC, fun p hp => ?_, tracked ⟨oL, hoL, I.free⟩ hs, by simpa using I.len⟩ ⟨_, hs, .inl rfl⟩
    · exact (hs.2 b (Nat.ne_of_lt (Nat.lt_of_lt_of_le (Heap.lt_size e) I.ok.above))).trans (I.base.keep b o e n hb hx)
    · obtain ⟨sl, e1⟩ := I.base.slot b o e n hb hx
      exact ⟨sl, (hs.2 b (Nat.ne_of_lt (Nat.lt_of_lt_of_le (Heap.lt_size e) I.ok.above))).trans e1⟩
    · obtain ⟨o', e1⟩ := I.base.there b o e hx
      exact ⟨o', (hs.2 b (Nat.ne_of_lt (Nat.lt_of_lt_of_le (Heap.lt_size e) I.ok.above))).trans e1⟩
    · by_cases hj : j = i
      · subst hj
        rw [hi] at e1; cases e1
        rw [List.getElem?_set_self hiσ] at e2
        cases e2
        exact ⟨u, r, .inl ⟨hk, by simp⟩⟩
      · rw [List.getElem?_set_ne (Ne.symm hj)] at e2
        obtain ⟨u', r', q⟩ := hl j y v' e1 e2 e3
        refine ⟨u', r', ?_⟩
        rcases q with ⟨k, e⟩ | ⟨k, c, e, z⟩
        · refine .inl ⟨k, ?_⟩
          have : y ≠ x := fun e => hj (nodup_ix hN e1 (e ▸ hi))
          simp [this, e]
        · exact .inr ⟨k, c, e, z.sameBut hs (cne y c e)⟩
    · obtain ⟨w', z⟩ := I.cell y c e
      exact ⟨w', z.sameBut hs (cne y c e)⟩
    · obtain ⟨e, n, ne, nf, d⟩ := I.pin p hp
      exact ⟨(hs.2 p.1 ne).trans e, n, ne, nf, d⟩
  · have hfn : X.fn x = true := by
      rcases hf with z | z
      · exact z
      · rw [z] at hk; cases hk
    obtain ⟨c, hc⟩ := I.ok.has x (.inl hk)
    obtain ⟨w', z⟩ := I.cell x c hc
    refine wpAny_storeName_cell I.ok.kind hk hc z (fun h' hc' hs => ?_)
    obtain ⟨oc, hoc, hocd⟩ := id z
    refine h { s with heap := h' } ⟨I.ok, I.os, I.bare, ⟨fun b o e n hb hx => ?_, fun b o e n hb hx => ?_, I.base.free, fun b o e hx => ?_, I.base.tups, I.base.frzs, I.base.tbls⟩, ⟨m, hn.sameBut hs (Ne.symm (cne x c hc)), fun j y v' e1 e2 e3 => ?_⟩, fun y c' e => ?_, I.free, I.freeC, fun p hp => ?_, tracked ⟨oc, hoc, I.freeC x c hc⟩ hs, by simpa using I.len⟩ ⟨c, hs, .inr hc⟩
    · exact (hs.2 b (Nat.ne_of_lt (Nat.lt_of_lt_of_le (Heap.lt_size e) (I.ok.cab x c hfn hc)))).trans (I.base.keep b o e n hb hx)
    · obtain ⟨sl, e1⟩ := I.base.slot b o e n hb hx
      exact ⟨sl, (hs.2 b (Nat.ne_of_lt (Nat.lt_of_lt_of_le (Heap.lt_size e) (I.ok.cab x c hfn hc)))).trans e1⟩
    · obtain ⟨o', e1⟩ := I.base.there b o e hx
      exact ⟨o', (hs.2 b (Nat.ne_of_lt (Nat.lt_of_lt_of_le (Heap.lt_size e) (I.ok.cab x c hfn hc)))).trans e1⟩
    · by_cases hj : j = i
      · subst hj
        rw [hi] at e1; cases e1
        rw [List.getElem?_set_self hiσ] at e2
        cases e2
        exact ⟨u, r, .inr ⟨.inl hk, c, hc, hc'⟩⟩
      · rw [List.getElem?_set_ne (Ne.symm hj)] at e2
        obtain ⟨u', r', q⟩ := hl j y v' e1 e2 e3
        refine ⟨u', r', ?_⟩
        rcases q with q | ⟨k, c', e, z'⟩
        · exact .inl q
        · refine .inr ⟨k, c', e, z'.sameBut hs ?_⟩
          rintro rfl
          exact hj (nodup_ix hN e1 (I.ok.inj _ _ _ e hc ▸ hi))
    · by_cases hcc : c' = c
      · subst hcc; exact ⟨_, hc'⟩
      · obtain ⟨w2, z2⟩ := I.cell y c' e
        exact ⟨w2, z2.sameBut hs hcc⟩
    · obtain ⟨e, n, ne, nf, d⟩ := I.pin p hp
      refine ⟨(hs.2 p.1 ?_).trans e, n, ne, nf, d⟩
      intro q
      rw [q, hoc] at e
      have q' : oc = p.2 := Option.some.inj e
      exact d w' (by rw [← q']; exact hocd)
theorem store_ok {M : Model} {A : Around} {E : Value → Shared → Prop} {i : Nat} {x : Str} {v : V} {u : Value} {Q : Unit → Shared → Prop} (I : Inv X pins σ H s) (hN : X.N.Nodup) (hi : X.N[i]? = some x) (hx : Loc X.env.scope x) (r : RelV v u)
    (h : ∀ s', Inv X pins (σ.set i (some v)) H s' → Q () s') (hf : X.fn x = true ∨ X.env.scope.names.lookup x = some .local := by first | exact .inl rfl | exact .inr rfl | assumption) : wpAny M A (storeName X.env x u) Q E s :=
  store_ok2 I hN hi hx r (fun s' I' _ => h s' I') hf
theorem Inv.call' {s' : Shared} {ch : List Addr} (I : Inv X pins σ H s) (ho : s'.os = s.os) (u : Un (frs X.stack) ch H H' s.heap s'.heap) (hok : HOk X.prog X.w H' s'.heap) (hg : AllBare s'.gens)
    (hch : ∀ b ∈ ch, (b ∈ X.ex ∨ X.s₀.heap.objs.size ≤ b) ∧ b ≠ X.env.locals ∧ (∀ x c, X.env.cells.lookup x = some c → c ≠ b) ∧ ∀ p ∈ X.pn ++ pins, p.1 ≠ b) : Inv X pins σ H' s' := by
  obtain ⟨h', g', d', t', o'⟩ := s'
  have e : o' = s.os := ho
  subst e
  exact I.call (g' := g') (t' := t') (d' := d') u hok hg hch
end

/-! ### the judgements -/
abbrev XK := Value → Option Addr → Hp → Prop
abbrev St := List (Option V)
abbrev VK := V → Hp → Prop
abbrev TE := St → Hp → VK → Prop
abbrev TT := St → Hp → (Bool → Hp → Prop) → Prop
abbrev TA := St → Hp → (List V → Hp → Prop) → Prop
structure Ends where
  nx : St → Hp → Prop
  rt : VK
  bk : St → Hp → Prop := fun _ _ => False
  ct : St → Hp → Prop := fun _ _ => False
abbrev TS := Ends → St → Hp → Prop

def EP (X : Cx) (pins : List (Addr × Obj)) (σ : St) (Q : VK) (u : Value) (s' : Shared) : Prop := ∃ v H', Inv X pins σ H' s' ∧ RelV v u ∧ Q v H'
def TP (X : Cx) (pins : List (Addr × Obj)) (σ : St) (Q : Bool → Hp → Prop) (b : Bool) (s' : Shared) : Prop := ∃ H', Inv X pins σ H' s' ∧ Q b H'
def AP (X : Cx) (pins : List (Addr × Obj)) (σ : St) (Q : List V → Hp → Prop) (us : List Value) (s' : Shared) : Prop := ∃ vs H', Inv X pins σ H' s' ∧ Vals vs us ∧ Q vs H'
def SP (X : Cx) (pins : List (Addr × Obj)) (D : Ends) (f : Flow) (s' : Shared) : Prop :=
  match f with
  | .next => ∃ σ' H', Inv X pins σ' H' s' ∧ D.nx σ' H'
  | .brk => ∃ σ' H', Inv X pins σ' H' s' ∧ D.bk σ' H'
  | .cont => ∃ σ' H', Inv X pins σ' H' s' ∧ D.ct σ' H'
  | .ret u => ∃ v σ' H', Inv X pins σ' H' s' ∧ RelV v u ∧ D.rt v H'

def PE (X : Cx) (e : Expr) (t : TE) : Prop :=
  ∀ ⦃pins : List (Addr × Obj)⦄ (s : Shared) (σ : St) (H : Hp) (Q : VK), Inv X pins σ H s → t σ H Q → wpAny (model X.prog X.w) X.A (eval e X.env) (EP X pins σ Q) X.xe s
def PT (X : Cx) (e : Expr) (t : TT) : Prop :=
  ∀ ⦃pins : List (Addr × Obj)⦄ (s : Shared) (σ : St) (H : Hp) (Q : Bool → Hp → Prop), Inv X pins σ H s → t σ H Q → wpAny (model X.prog X.w) X.A (isTrue e X.env (eval e X.env)) (TP X pins σ Q) X.xe s
def PW (X : Cx) (e : Expr) (t : TT) : Prop :=
  ∀ (whole : Sem Value) (pins : List (Addr × Obj)) (s : Shared) (σ : St) (H : Hp) (Q : Bool → Hp → Prop), Inv X pins σ H s → t σ H Q → wpAny (model X.prog X.w) X.A (isTrue e X.env whole) (TP X pins σ Q) X.xe s
theorem PW.pt {X : Cx} {e : Expr} {t : TT} (h : PW X e t) : PT X e t := h _
def PA (X : Cx) (es : List Expr) (t : TA) : Prop :=
  ∀ ⦃pins : List (Addr × Obj)⦄ (pos : Pos) (s : Shared) (σ : St) (H : Hp) (Q : List V → Hp → Prop), Inv X pins σ H s → t σ H Q → wpAny (model X.prog X.w) X.A (spliced (backTo pos (starEach es X.env))) (AP X pins σ Q) X.xe s
def PS (X : Cx) (st : Stmt) (t : TS) : Prop :=
  ∀ ⦃pins : List (Addr × Obj)⦄ (s : Shared) (σ : St) (H : Hp) (D : Ends), Inv X pins σ H s → t D σ H → wpAny (model X.prog X.w) X.A (exec st X.env) (SP X pins D) X.xe s
def PSs (X : Cx) (st : List Stmt) (t : TS) : Prop :=
  ∀ ⦃pins : List (Addr × Obj)⦄ (s : Shared) (σ : St) (H : Hp) (D : Ends), Inv X pins σ H s → t D σ H → wpAny (model X.prog X.w) X.A (execs st X.env) (SP X pins D) X.xe s
theorem thn {α : Type} {t : Sem α} {Q Q' : α → Shared → Prop} {M : Model} {A : Around} {E : Value → Shared → Prop} {s : Shared} (h : wpAny M A t Q E s) (hQ : ∀ a s, Q a s → Q' a s) : wpAny M A t Q' E s := wpAny_mono h hQ fun _ _ x => x
end L2

namespace L2
open PySem PySem.Spec PyProof.Rows
section
variable {X : Cx}

theorem bin {a b : Expr} {ta tb : TE} (ha : PE X a ta) (hb : PE X b tb) {pins : List (Addr × Obj)} {s : Shared} {σ : St} {H : Hp} {R : V → V → Hp → Prop} (I : Inv X pins σ H s) (h : ta σ H fun x H1 => tb σ H1 fun y H2 => R x y H2)
    {α : Type} {Q : α → Shared → Prop} {f : Value → Value → Sem α}
    (hf : ∀ v u s2 x y H2, Inv X pins σ H2 s2 → RelV x v → RelV y u → R x y H2 → wpAny (model X.prog X.w) X.A (f v u) Q X.xe s2) :
    wpAny (model X.prog X.w) X.A (eval a X.env) (fun v s₁ => wpAny (model X.prog X.w) X.A (eval b X.env) (fun u s₂ => wpAny (model X.prog X.w) X.A (f v u) Q X.xe s₂) X.xe s₁) X.xe s := by
  refine thn (ha s σ H _ I h) fun v s1 ⟨x, H1, I1, r1, q1⟩ => ?_
  refine thn (hb s1 σ H1 _ I1 q1) fun u s2 ⟨y, H2, I2, r2, q2⟩ => ?_
  exact hf v u s2 x y H2 I2 r1 r2 q2

/-! ### names and constants -/
def tVar (i : Nat) : TE := fun σ H Q => ∃ v, σ[i]? = some (some v) ∧ Q v H
def tC (v : V) : TE := fun _ H Q => Q v H
theorem pe_var {i : Nat} {x : Str} {pos : Pos} (hN : X.N[i]? = some x) (hv : Vis X.env.scope x) (hd : (x == ("__debug__" : Str)) = false := by decide) (hcd : (x == ("__classdict__" : Str)) = false := by decide) : PE X (.Name x pos) (tVar i) := by
  intro pins s σ H Q I h
  obtain ⟨v, e, h⟩ := h
  obtain ⟨m, hn, hl⟩ := I.loc
  obtain ⟨u, r, l⟩ := hl i x v hN e hv
  have fin : EP X pins σ Q u s := ⟨v, H, I, r, h⟩
  rcases l with ⟨hk, hm⟩ | ⟨hk, c, hc, hcell⟩
  · exact wpAny_Name (wpAny_loadName_local I.ok.kind hk hn hm fin) hd
  · rcases hk with hk | hk
    · exact wpAny_Name (wpAny_loadName_cell I.ok.kind hk hc hcell fin) hd
    · exact wpAny_Name (wpAny_loadName_free I.ok.kind hk hc hcell fin hcd) hd
theorem pe_int {i j pos} : PE X (.Constant (.int i) j pos) (tC (.int i)) := fun _ _ _ H _ I h => wpAny_Constant_int ⟨.int i, H, I.tok _, ⟨_, rfl⟩, h⟩
theorem pe_bl {b j pos} : PE X (.Constant (.bool b) j pos) (tC (.bl b)) := fun _ _ _ H _ I h => Constant_bool ⟨.bl b, H, I, rfl, h⟩
theorem pe_non {j pos} : PE X (.Constant .none j pos) (tC .non) := fun _ _ _ H _ I h => Constant_none ⟨.non, H, I, rfl, h⟩
theorem pe_str {x j pos} : PE X (.Constant (.str x) j pos) (tC (.str x)) := fun _ _ _ H _ I h => Calls.Constant_str ⟨.str x, H, I.tok _, ⟨_, rfl⟩, h⟩

def Gl (X : Cx) (x : Str) : Prop := X.env.kindOf x = some .globalImplicit
theorem ld_glob {E : Value → Shared → Prop} {pins : List (Addr × Obj)} {s : Shared} {σ : St} {H : Hp} {x : Str} {u : Value} {pos : Pos} {Q : Value → Shared → Prop} (I : Inv X pins σ H s) (hg : Gl X x) (hm : X.mg x = some u) (h : Q u s)
    (hd : (x == ("__debug__" : Str)) = false := by decide) : wpAny (model X.prog X.w) X.A (eval (.Name x pos) X.env) Q E s :=
  Calls.Name_function_global I.ok.kind hg (Calls.loadGlobal_global (by rw [I.ok.glob]; exact I.mod.glob.keeps I.bk) hm h) hd
theorem ld_blt {E : Value → Shared → Prop} {pins : List (Addr × Obj)} {s : Shared} {σ : St} {H : Hp} {x : Str} {u : Value} {pos : Pos} {Q : Value → Shared → Prop} (I : Inv X pins σ H s) (hg : Gl X x) (hm : X.mg x = none) (hv : bootBuiltins x = some u) (h : Q u s)
    (hn : x ≠ "__name__" := by decide) (hd : (x == ("__debug__" : Str)) = false := by decide) : wpAny (model X.prog X.w) X.A (eval (.Name x pos) X.env) Q E s := by
  obtain ⟨mb, h1, h2⟩ := I.mod.blt
  exact Calls.Name_function_global I.ok.kind hg (Calls.loadGlobal_builtin (by rw [I.ok.glob]; exact I.mod.glob.keeps I.bk) hm (by rw [I.ok.blt]; exact h1.keeps I.bk) ((h2 x hn).trans hv) h) hd
theorem pe_glob {x : Str} {v : V} {u : Value} {pos : Pos} (hg : Gl X x) (hm : X.mg x = some u) (r : RelV v u) (hd : (x == ("__debug__" : Str)) = false := by decide) : PE X (.Name x pos) (tC v) :=
  fun _ _ _ H _ I h => ld_glob I hg hm ⟨v, H, I, r, h⟩ hd
theorem pe_bltn {x : Str} {v : V} {u : Value} {pos : Pos} (hg : Gl X x) (hm : X.mg x = none) (hv : bootBuiltins x = some u) (r : RelV v u) (hn : x ≠ "__name__" := by decide) (hd : (x == ("__debug__" : Str)) = false := by decide) : PE X (.Name x pos) (tC v) :=
  fun _ _ _ H _ I h => ld_blt I hg hm hv ⟨v, H, I, r, h⟩ hn hd

/-! ### arithmetic -/
variable {a b : Expr} {ta tb : TE} {pos : Pos}
/-! ### comparisons -/
def PC (X : Cx) (op : CmpOp) (a b : Expr) (t : TE) : Prop :=
  ∀ (pins : List (Addr × Obj)) (s : Shared) (σ : St) (H : Hp) (Q : VK), Inv X pins σ H s → t σ H Q →
    wpAny (model X.prog X.w) X.A (eval a X.env) (fun v s₁ => wpAny (model X.prog X.w) X.A (eval b X.env) (fun u s₂ => wpAny (model X.prog X.w) X.A (compareOp op v u) (EP X pins σ Q) X.xe s₂) X.xe s₁) X.xe s
def tB (t : TE) : TT := fun σ H Q => t σ H fun x H1 => ∃ c, x = .bl c ∧ Q c H1
theorem pt_cmp {op : CmpOp} {t : TE} (h : PC X op a b t) (h1 : behindInMarks op b = false := by first | exact nobehind _ (by decide) (by decide) | rfl) : PT X (.Compare a [op] [b] pos) (tB t) := by
  intro pins s σ H Q I hw
  refine wpAny_isTrue_Compare1 (thn (h pins s σ H _ I hw) fun v s1 h1 => thn h1 fun u s2 h2 => thn h2 fun c s3 ⟨x, H1, I1, r1, q1⟩ => ?_) h1
  obtain ⟨d, rfl, q⟩ := q1
  cases r1
  exact wpAny_truthy_bool ⟨H1, I1, q⟩
theorem pt_val {e : Expr} {t : TE} (h : PE X e t) (he : ∀ whole, isTrue e X.env whole = (do let v ← whole; standAt e.pos; holding [v] (truthy v)) := by intro _; rfl) : PT X e (tB t) := by
  intro pins s σ H Q I hw
  refine isTrue_plain (thn (h s σ H _ I hw) fun v s1 ⟨x, H1, I1, r1, q1⟩ => ?_) (he _)
  obtain ⟨d, rfl, q⟩ := q1
  cases r1
  exact wpAny_truthy_bool ⟨H1, I1, q⟩

/-! ### and, or, not -/
variable {tA tB' : TT} {rest : List Expr}
def tAnd (t u : TT) : TT := fun σ H Q => t σ H fun c H1 => if c = true then u σ H1 Q else Q false H1
def tOr (t u : TT) : TT := fun σ H Q => t σ H fun c H1 => if c = true then Q true H1 else u σ H1 Q
def tNot (t : TT) : TT := fun σ H Q => t σ H fun c H1 => Q (!c) H1
theorem pw_and1 (ha : PT X a tA) : PW X (.BoolOp .And [a] pos) tA := by
  intro wh pins s σ H Q I h
  refine isTrue_and (thn (ha s σ H Q I h) fun c s1 e => ?_)
  cases c with
  | true => exact isTrue_and_nil e
  | false => exact e
theorem pw_or1 (ha : PT X a tA) : PW X (.BoolOp .Or [a] pos) tA := by
  intro wh pins s σ H Q I h
  refine isTrue_or (thn (ha s σ H Q I h) fun c s1 e => ?_)
  cases c with
  | false => exact isTrue_or_nil e
  | true => exact e
theorem pw_and (ha : PT X a tA) (hb : PW X (.BoolOp .And (b :: rest) pos) tB') : PW X (.BoolOp .And (a :: b :: rest) pos) (tAnd tA tB') := by
  intro wh pins s σ H Q I h
  refine isTrue_and (thn (ha s σ H _ I h) fun c s1 ⟨H1, I1, q1⟩ => ?_)
  cases c with
  | true => exact hb wh pins s1 σ H1 Q I1 q1
  | false => exact ⟨H1, I1, q1⟩
theorem pw_or (ha : PT X a tA) (hb : PW X (.BoolOp .Or (b :: rest) pos) tB') : PW X (.BoolOp .Or (a :: b :: rest) pos) (tOr tA tB') := by
  intro wh pins s σ H Q I h
  refine isTrue_or (thn (ha s σ H _ I h) fun c s1 ⟨H1, I1, q1⟩ => ?_)
  cases c with
  | true => exact ⟨H1, I1, q1⟩
  | false => exact hb wh pins s1 σ H1 Q I1 q1
theorem pt_not (ha : PT X a tA) : PT X (.UnaryOp .Not a pos) (tNot tA) := by
  intro pins s σ H Q I h
  exact isTrue_not (ha s σ H (fun c H1 => Q (!c) H1) I h)
def tAndV (ta tb : TE) : TE := fun σ H Q => ta σ H fun x H1 => ∃ c, x = .bl c ∧ if c = true then tb σ H1 Q else Q (.bl false) H1
def tOrV (ta tb : TE) : TE := fun σ H Q => ta σ H fun x H1 => ∃ c, x = .bl c ∧ if c = true then Q (.bl true) H1 else tb σ H1 Q
def tNotV (ta : TE) : TE := fun σ H Q => ta σ H fun x H1 => ∃ c, x = .bl c ∧ Q (.bl (!c)) H1
theorem pe_one {op} {t : TE} (h : PE X a t) : PE X (.BoolOp op [a] pos) t := fun pins s σ H Q I hw => BoolOp_one (h s σ H Q I hw)
theorem pe_and (ha : PE X a ta) (hb : PE X (.BoolOp .And (b :: rest) pos) tb) : PE X (.BoolOp .And (a :: b :: rest) pos) (tAndV ta tb) := by
  intro pins s σ H Q I h
  refine BoolOp_and (thn (ha s σ H _ I h) fun v s1 ⟨x, H1, I1, r1, q1⟩ => ?_)
  obtain ⟨c, rfl, q1⟩ := q1
  cases r1
  refine wpAny_truthy_bool ?_
  cases c with
  | true => exact hb s1 σ H1 Q I1 q1
  | false => exact ⟨.bl false, H1, I1, rfl, q1⟩
def tIf (t : TT) (ta tb : TE) : TE := fun σ H Q => t σ H fun c H1 => if c = true then ta σ H1 Q else tb σ H1 Q
end
end L2

namespace L2
open PySem PySem.Spec PyProof.Rows

/-! ### a list, a tuple that is read: tracked, frozen, or an object of the module -/
def SqL (K : PySem.W.Frag) (H : Hp) (a : Addr) (xs : List V) : Prop :=
  Rd H a (.lst xs) ∨
    ∃ (o : Obj) (its : Array Value) (n : Nat), K.lookup a = some o ∧ o.cls = .type "list" ∧ o.dict = none ∧ o.data = .seq its n ∧ its.size ≤ sizeLine ∧ Vals xs its.toList
def SqT (K : PySem.W.Frag) (H : Hp) (a : Addr) (xs : List V) : Prop :=
  Rd H a (.tup xs) ∨
    ∃ (o : Obj) (its : Array Value) (n : Nat), K.lookup a = some o ∧ o.cls = .type "tuple" ∧ o.data = .seq its n ∧ its.size ≤ sizeLine ∧ Vals xs its.toList
def absV : Value → Option V
  | .none => some .non
  | .bool b => some (.bl b)
  | .int i _ => some (.int i)
  | .str x _ => some (.str x)
  | .bytes b _ => some (.byt b)
  | .float b _ => some (.flt b)
  | .ref a => some (.ref a)
  | .type n => some (.ty n)
  | _ => none
theorem RelV.abs {x : V} {u : Value} (r : RelV x u) : absV u = some x := by
  cases x with
  | non => cases r; rfl
  | bl _ => cases r; rfl
  | int _ => obtain ⟨t, rfl⟩ := r; rfl
  | str _ => obtain ⟨t, rfl⟩ := r; rfl
  | byt _ => obtain ⟨t, rfl⟩ := r; rfl
  | flt _ => obtain ⟨t, rfl⟩ := r; rfl
  | ref _ => cases r; rfl
  | ty _ => cases r; rfl
theorem RelV.inj {x y : V} {u : Value} (r : RelV x u) (q : RelV y u) : x = y := Option.some.inj (r.abs.symm.trans q.abs)
theorem Vals.inj : ∀ {xs ys : List V} {us : List Value}, Vals xs us → Vals ys us → xs = ys
  | _, _, _, .nil, .nil => rfl
  | _, _, _, .cons r t, .cons r' t' => by rw [r.inj r', Vals.inj t t']
section
variable {X : Cx} {pins : List (Addr × Obj)} {σ : St} {H : Hp} {s : Shared} {a : Addr} {xs ys : List V}
theorem SqL.of {K : PySem.W.Frag} (h : H a = some (.lst xs)) : SqL K H a xs := .inl (.inl h)
theorem SqT.of {K : PySem.W.Frag} (h : H a = some (.tup xs)) : SqT K H a xs := .inl (.inl h)
theorem Inv.list (I : Inv X pins σ H s) (h : SqL X.K H a xs) : ∃ its : List Value, Vals xs its ∧ PlainL s.heap a its.toArray ∧ xs.length ≤ sizeLine := by
  rcases h with h | ⟨o, its, n, hk, hc, hd, hs, hz, r⟩
  · obtain ⟨z, its, n, r, e⟩ := h.ok I.hok
    exact ⟨its, r, ⟨_, n, e, rfl, rfl, rfl⟩, z⟩
  · refine ⟨its.toList, r, ⟨o, n, I.kIn a o hk, hc, hd, by simpa using hs⟩, ?_⟩
    have e := r.length
    simp only [Array.length_toList] at e
    omega
theorem Inv.tuple (I : Inv X pins σ H s) (h : SqT X.K H a xs) : ∃ its : List Value, Vals xs its ∧ IsTup s.heap a its.toArray ∧ xs.length ≤ sizeLine := by
  rcases h with h | ⟨o, its, n, hk, hc, hs, hz, r⟩
  · obtain ⟨z, its, r, p⟩ := h.ok I.hok
    exact ⟨its, r, p, z⟩
  · refine ⟨its.toList, r, ⟨o, I.kIn a o hk, hc, n, by simpa using hs⟩, ?_⟩
    have e := r.length
    simp only [Array.length_toList] at e
    omega
theorem Inv.list_inj (I : Inv X pins σ H s) (h : SqL X.K H a xs) (h' : SqL X.K H a ys) : xs = ys := by
  obtain ⟨its, r, ⟨o, n, e, _, _, d⟩, _⟩ := I.list h
  obtain ⟨its', r', ⟨o', n', e', _, _, d'⟩, _⟩ := I.list h'
  rw [e] at e'; cases e'
  rw [d] at d'
  injection d' with d1 _
  have : its = its' := by simpa using congrArg Array.toList d1
  subst this
  exact r.inj r'
theorem Inv.tuple_inj (I : Inv X pins σ H s) (h : SqT X.K H a xs) (h' : SqT X.K H a ys) : xs = ys := by
  obtain ⟨its, r, ⟨o, e, _, n, d⟩, _⟩ := I.tuple h
  obtain ⟨its', r', ⟨o', e', _, n', d'⟩, _⟩ := I.tuple h'
  rw [e] at e'; cases e'
  rw [d] at d'
  injection d' with d1 _
  have : its = its' := by simpa using congrArg Array.toList d1
  subst this
  exact r.inj r'
end

/-! ### another wish about exceptions -/
abbrev Cx.wish (X : Cx) (E : Value → Shared → Prop) : Cx := { X with xe := E }
abbrev Cx.nox (X : Cx) : Cx := X.wish fun _ _ => False
theorem Cx.Ok.wish {X : Cx} (ok : X.Ok) (E : Value → Shared → Prop) : (X.wish E).Ok :=
  ⟨ok.mod, ok.kind, ok.glob, ok.blt, ok.above, ok.inj, ok.has, ok.cab, ok.hd, ok.frames, ok.stk, ok.exf, ok.bs, ok.bsz, ok.noex, ok.exfs, ok.funs, ok.frf⟩
theorem Cx.Ok.unwish {X : Cx} {E : Value → Shared → Prop} (ok : (X.wish E).Ok) : X.Ok :=
  ⟨ok.mod, ok.kind, ok.glob, ok.blt, ok.above, ok.inj, ok.has, ok.cab, ok.hd, ok.frames, ok.stk, ok.exf, ok.bs, ok.bsz, ok.noex, ok.exfs, ok.funs, ok.frf⟩
section
variable {X : Cx} {pins : List (Addr × Obj)} {σ : St} {H : Hp} {s : Shared} {E : Value → Shared → Prop}
theorem Inv.wish (I : Inv X pins σ H s) (E : Value → Shared → Prop) : Inv (X.wish E) pins σ H s := ⟨I.ok.wish E, I.os, I.bare, I.base, I.loc, I.cell, I.free, I.freeC, I.pin, I.hok, I.len⟩
theorem Inv.unwish (I : Inv (X.wish E) pins σ H s) : Inv X pins σ H s := ⟨I.ok.unwish, I.os, I.bare, I.base, I.loc, I.cell, I.free, I.freeC, I.pin, I.hok, I.len⟩
theorem SP.unwish {D : Ends} {f : Flow} {s' : Shared} (h : SP (X.wish E) pins D f s') : SP X pins D f s' := by
  cases f with
  | next => obtain ⟨σ', H', I, q⟩ := h; exact ⟨σ', H', I.unwish, q⟩
  | brk => obtain ⟨σ', H', I, q⟩ := h; exact ⟨σ', H', I.unwish, q⟩
  | cont => obtain ⟨σ', H', I, q⟩ := h; exact ⟨σ', H', I.unwish, q⟩
  | ret u => obtain ⟨v, σ', H', I, r, q⟩ := h; exact ⟨v, σ', H', I.unwish, r, q⟩
theorem PSs.nox {st : List Stmt} {t : TS} (h : PSs X.nox st t) : PSs X st t := fun pins s σ H D I hw =>
  wpAny_mono (h s σ H D (I.wish _) hw) (fun _ _ q => q.unwish) fun _ _ z => False.elim z
end

/-! ### blocks and small statements -/
section
variable {X : Cx} {st : Stmt} {rest : List Stmt} {t u : TS} {e : Expr} {te : TE} {pos : Pos}
def tNext : TS := fun D σ H => D.nx σ H
def tSeq (t u : TS) : TS := fun D σ H => t { D with nx := u D } σ H
theorem pss_nil : PSs X [] tNext := fun _ _ σ H _ I h => wpAny_execs_nil ⟨σ, H, I, h⟩
theorem pss_cons (h1 : PS X st t) (h2 : PSs X rest u) : PSs X (st :: rest) (tSeq t u) := by
  intro pins s σ H D I h
  refine wpAny_execs_cons (thn (h1 s σ H { D with nx := u D } I h) fun f s1 q => ?_)
  cases f with
  | next =>
    obtain ⟨σ', H', I', q⟩ := q
    exact h2 s1 σ' H' D I' q
  | ret v => exact q
  | brk => exact q
  | cont => exact q
theorem pss_one (h1 : PS X st t) : PSs X [st] t := by
  intro pins s σ H D I h
  refine wpAny_execs_cons (thn (h1 s σ H D I h) fun f s1 q => ?_)
  cases f with
  | next => exact wpAny_execs_nil q
  | ret v => exact q
  | brk => exact q
  | cont => exact q
theorem Inv.quiet {pins : List (Addr × Obj)} {σ : St} {H : Hp} {s : Shared} (I : Inv X pins σ H s) : interactive X.env = false := by simp [interactive, I.ok.kind]
def tDrop (te : TE) : TS := fun D σ H => te σ H fun _ H1 => D.nx σ H1
theorem ps_expr (he : PE X e te) (hs : swapsWith e none pos.line X.env = pure false := by rfl) : PS X (.Expr e pos) (tDrop te) := by
  intro pins s σ H D I h
  exact wpAny_Expr_any (thn (he s σ H _ I h) fun v s1 ⟨x, H1, I1, r1, q1⟩ => ⟨σ, H1, I1, q1⟩) I.quiet hs
def tRet (te : TE) : TS := fun D σ H => te σ H D.rt
theorem ps_ret (he : PE X e te) : PS X (.Return (some e) pos) (tRet te) := by
  intro pins s σ H D I h
  exact wpAny_Return_some (thn (he s σ H _ I h) fun v s1 ⟨x, H1, I1, r1, q1⟩ => ⟨x, σ, H1, I1, r1, q1⟩)
def tIfS (c : TT) (t u : TS) : TS := fun D σ H => c σ H fun b H1 => if b = true then t D σ H1 else u D σ H1
theorem ps_if {c : Expr} {a b : List Stmt} {tc : TT} (hc : PT X c tc) (ha : PSs X a t) (hb : PSs X b u) : PS X (.If c a b pos) (tIfS tc t u) := by
  intro pins s σ H D I h
  refine wpAny_If (thn (hc s σ H _ I h) fun d s1 ⟨H1, I1, q1⟩ => ?_)
  cases d with
  | true => exact ha s1 σ H1 D I1 q1
  | false => exact hb s1 σ H1 D I1 q1
def tNever : TS := fun _ _ _ => False
theorem pss_never {sts : List Stmt} : PSs X sts tNever := fun _ _ _ _ _ _ h => h.elim
end

/-! ### targets -/
abbrev TG := V → St → Hp → (St → Hp → Prop) → Prop
abbrev TGs := List V → St → Hp → (St → Hp → Prop) → Prop
def PG (X : Cx) (target : Expr) (t : TG) : Prop :=
  ∀ ⦃pins : List (Addr × Obj)⦄ (s : Shared) (σ : St) (H : Hp) (v : V) (u : Value) (Q : St → Hp → Prop), Inv X pins σ H s → RelV v u → t v σ H Q →
    wpAny (model X.prog X.w) X.A (assign target X.env u) (fun _ s' => ∃ σ' H', Inv X pins σ' H' s' ∧ Q σ' H') X.xe s
def PGs (X : Cx) (ts : List Expr) (t : TGs) : Prop :=
  ∀ ⦃pins : List (Addr × Obj)⦄ (s : Shared) (σ : St) (H : Hp) (vs : List V) (us : List Value) (Q : St → Hp → Prop), Inv X pins σ H s → Vals vs us → t vs σ H Q →
    wpAny (model X.prog X.w) X.A (assignInOrder ((assignEach ts X.env).map (·.2)) us) (fun _ s' => ∃ σ' H', Inv X pins σ' H' s' ∧ Q σ' H') X.xe s
abbrev TSet := V → V → V → Hp → (Hp → Prop) → Prop
def PSet (X : Cx) (t : TSet) : Prop :=
  ∀ (pins : List (Addr × Obj)) (s : Shared) (σ : St) (H : Hp) (o i v : V) (ov iv u : Value) (Q : Hp → Prop), Inv X pins σ H s → RelV o ov → RelV i iv → RelV v u → t o i v H Q →
    wpAny (model X.prog X.w) X.A (setItem ov iv u) (fun _ s' => ∃ H', Inv X pins σ H' s' ∧ Q H') X.xe s
abbrev TIp := V → V → Hp → VK → Prop
section
variable {X : Cx} {pos : Pos}
def gName (i : Nat) : TG := fun v σ H Q => Q (σ.set i (some v)) H
theorem pg_name {i : Nat} {x : Str} (hN : X.N.Nodup) (hi : X.N[i]? = some x) (hx : Loc X.env.scope x) (hf : X.fn x = true ∨ X.env.scope.names.lookup x = some .local := by first | exact .inl rfl | exact .inr rfl | assumption) : PG X (.Name x pos) (gName i) := by
  intro pins s σ H v u Q I r h
  exact wpAny_assign_Name (store_ok I hN hi hx r (fun s' I' => ⟨_, H, I', h⟩) hf)
def gNil : TGs := fun vs σ H Q => vs = [] ∧ Q σ H
def gCons (t : TG) (u : TGs) : TGs := fun vs σ H Q => ∃ v r, vs = v :: r ∧ t v σ H fun σ' H' => u r σ' H' Q
theorem pgs_nil : PGs X [] gNil := by
  intro pins s σ H vs us Q I r h
  obtain ⟨e, h⟩ := h
  subst e
  cases r
  exact assignInOrder_nil ⟨σ, H, I, h⟩
theorem pgs_cons {e : Expr} {es : List Expr} {t : TG} {u : TGs} (h1 : PG X e t) (h2 : PGs X es u)
    (hs : (assignEach (e :: es) X.env).map (·.2) = assign e X.env :: (assignEach es X.env).map (·.2) := by rfl) : PGs X (e :: es) (gCons t u) := by
  intro pins s σ H vs us Q I r h
  obtain ⟨v, vr, e1, h⟩ := h
  subst e1
  cases r with
  | cons r rr =>
    rw [hs]
    refine assignInOrder_cons (thn (h1 s σ H _ _ _ I r h) fun _ s1 ⟨σ1, H1, I1, q1⟩ => ?_)
    exact h2 s1 σ1 H1 _ _ Q I1 rr q1
def gTup (K : PySem.W.Frag) (n : Nat) (t : TGs) : TG := fun v σ H Q => ∃ a xs, v = .ref a ∧ SqT K H a xs ∧ xs.length = n ∧ t xs σ H Q
theorem pg_tup {es : List Expr} {k : Nat} {t : TGs} {n : Nat} (hc : X.calm = true) (h : PGs X es t)
    (hn : (assignEach es X.env).length = n := by rfl) (hst : (assignEach es X.env).findIdx? (·.1) = none := by rfl) : PG X (.Tuple es k pos) (gTup X.K n t) := by
  intro pins s σ H v u Q I r hw
  obtain ⟨a, xs, e1, hq, hl, hw⟩ := hw
  subst e1
  cases r
  obtain ⟨its, rv, ht, hz⟩ := I.tuple hq
  refine assign_Tuple_tuple (I.ok.hd hc) ht (by simp [hn, ← hl, rv.length]) hst fun h' hx => ?_
  have I1 : Inv X pins σ H { s with heap := h' } := I.kept (t' := s.toks) fun b o e => hx b o (Nat.ne_of_lt (Heap.lt_size e)) e
  exact h _ σ H xs _ Q I1 (by simpa using rv) hw
def gSub (to ti : TE) (t : TSet) : TG := fun v σ H Q => to σ H fun o H1 => ti σ H1 fun i H2 => t o i v H2 fun H3 => Q σ H3
theorem pg_sub {o i : Expr} {to ti : TE} {t : TSet} (ho : PE X o to) (hi : PE X i ti) (hs : PSet X t)
    (ha : ∀ v, assign (.Subscript o i pos) X.env v = (do
      let ov ← holding [v] (eval o X.env)
      let iv ← holding [v, ov] (eval i X.env)
      standAt pos
      holding [v, ov, iv] (setItem ov iv v)
      release [v, ov, iv] []) := by intro _; rfl) : PG X (.Subscript o i pos) (gSub to ti t) := by
  intro pins s σ H v u Q I r h
  rw [ha]
  refine wpAny_bind (wpAny_holding (thn (ho s σ H _ I h) fun ov s1 ⟨x, H1, I1, r1, q1⟩ => ?_))
  refine wpAny_bind (wpAny_holding (thn (hi s1 σ H1 _ I1 q1) fun iv s2 ⟨y, H2, I2, r2, q2⟩ => ?_))
  refine wpAny_bind (wpAny_standAt (wpAny_bind (wpAny_holding (thn (hs pins s2 σ H2 x y v ov iv u _ I2 r1 r2 r q2) fun _ s3 ⟨H3, I3, q3⟩ => ?_))))
  exact wpAny_release ⟨σ, H3, I3, q3⟩
def tAsg (te : TE) (g : TG) : TS := fun D σ H => te σ H fun x H1 => g x σ H1 D.nx
theorem ps_asg {tg e : Expr} {te : TE} {g : TG} (he : PE X e te) (hg : PG X tg g) (hs : swapsWithSole [tg] e pos.line X.env = pure false := by rfl) (hw : swappedStores [tg] e X.env = pure none := by rfl)
    (h1 : (assignEach [tg] X.env).map (·.2) = [assign tg X.env] := by rfl) : PS X (.Assign [tg] e pos) (tAsg te g) := by
  intro pins s σ H D I h
  refine wpAny_Assign_stores (thn (he s σ H _ I h) fun v s1 ⟨x, H1, I1, r1, q1⟩ => ?_) hs hw
  rw [h1]
  exact thn (hg s1 σ H1 x v _ I1 r1 q1) fun _ s2 q => q
theorem ps_set {i : Nat} {x : Str} {e : Expr} {te : TE} {pos' : Pos} (hN : X.N.Nodup) (hi : X.N[i]? = some x) (hx : Loc X.env.scope x) (he : PE X e te) (hs : swapsWith e (some (.Name x pos')) pos.line X.env = pure false := by rfl) (hf : X.fn x = true ∨ X.env.scope.names.lookup x = some .local := by first | exact .inl rfl | exact .inr rfl | assumption) :
    PS X (.Assign [.Name x pos'] e pos) (tAsg te (gName i)) := by
  intro pins s σ H D I h
  refine wpAny_Assign_Name (thn (he s σ H _ I h) fun v s1 ⟨y, H1, I1, r1, q1⟩ => ?_) hs
  exact store_ok I1 hN hi hx r1 (fun s2 I2 => ⟨_, H1, I2, q1⟩) hf
def tAug (i : Nat) (te : TE) (ti : TIp) : TS := fun D σ H => ∃ x, σ[i]? = some (some x) ∧ te σ H fun y H1 => ti x y H1 fun z H2 => D.nx (σ.set i (some z)) H2
def ipI (f : Int → Int → Int) : TIp := fun x y H Q => ∃ i j, x = .int i ∧ y = .int j ∧ Q (.int (f i j)) H
end

/-! ### while -/
section
variable {X : Cx} {pos : Pos}
def tWhile (c : TT) (tb : TS) : TS := fun D σ H => ∃ W : Nat → St → Hp → Prop, (∃ m, W m σ H) ∧ ∀ m σ H, W m σ H →
  c σ H fun b H1 => if b = true then ∃ N : St → Hp → Prop, (∀ σ' H', N σ' H' → ∃ m', m' < m ∧ W m' σ' H') ∧ tb { D with nx := N, ct := N, bk := D.nx } σ H1 else D.nx σ H1
theorem ps_while {c : Expr} {body : List Stmt} {tc : TT} {tb : TS} (hp : PassesOwn (model X.prog X.w) X.A X.env X.xe) (hc : PT X c tc) (hb : PSs X body tb) : PS X (.While c body [] pos) (tWhile tc tb) := by
  intro pins s σ H D I h
  obtain ⟨W, ⟨m0, w0⟩, turn⟩ := h
  refine wpAny_While (codeAny_whileLoop (fun n s' => ∃ σ' H', Inv X pins σ' H' s' ∧ W n σ' H') ?_ m0 ⟨σ, H, I, w0⟩)
  rintro n s1 ⟨σ1, H1, I1, w1⟩
  refine wpAny_passesOwn hp (thn (hc s1 σ1 H1 _ I1 (turn n σ1 H1 w1)) fun b s2 ⟨H2, I2, q2⟩ => ?_)
  cases b with
  | true =>
    obtain ⟨N, hN, q2⟩ := q2
    rw [if_pos rfl]
    refine wpAny_passesOwn hp (thn (hb s2 σ1 H2 _ I2 q2) fun f s3 q3 => ?_)
    cases f with
    | next =>
      obtain ⟨σ3, H3, I3, n3⟩ := q3
      obtain ⟨m', hm, w3⟩ := hN σ3 H3 n3
      exact ⟨m', hm, σ3, H3, I3, w3⟩
    | cont =>
      obtain ⟨σ3, H3, I3, n3⟩ := q3
      obtain ⟨m', hm, w3⟩ := hN σ3 H3 n3
      exact ⟨m', hm, σ3, H3, I3, w3⟩
    | brk => exact q3
    | ret v => exact q3
  | false =>
    rw [if_neg Bool.false_ne_true]
    exact wpAny_execs_nil ⟨σ1, H2, I2, q2⟩
end

/-! ### what a loop or a comprehension walks -/
structure It where
  go : Nat → Hp → Prop
  yld : Nat → Hp → V → Hp → Prop
  stop : Nat → Hp → Prop
def FpOk (X : Cx) (pins : List (Addr × Obj)) (H : Hp) (b : Addr) : Prop :=
  H b = none ∧ b ≠ X.env.locals ∧ b ∉ X.fs ∧ (b ∈ X.ex ∨ X.s₀.heap.objs.size ≤ b) ∧ (∀ x c, X.env.cells.lookup x = some c → c ≠ b) ∧ ∀ p ∈ X.pn ++ pins, p.1 ≠ b
theorem Inv.fpOk {X : Cx} {pins : List (Addr × Obj)} {σ : St} {H H' : Hp} {s : Shared} {b : Addr} (I : Inv X pins σ H s) (hb : s.heap.objs.size ≤ b) (hn : H' b = none) : FpOk X pins H' b := by
  refine ⟨hn, Nat.ne_of_gt (Nat.lt_of_lt_of_le I.lt hb), I.nofs hb, .inr (Nat.le_trans I.sz hb), fun x c e z => ?_, fun p hp z => ?_⟩
  · obtain ⟨v, q⟩ := I.cell x c e
    exact absurd (Nat.lt_of_lt_of_le q.lt (by rw [z]; exact hb)) (Nat.lt_irrefl _)
  · exact absurd (Nat.lt_of_lt_of_le (Heap.lt_size (I.pin p hp).1) (by rw [z]; exact hb)) (Nat.lt_irrefl _)
structure Turn (P : Program) (w : World) (K : PySem.W.Frag) (tg : Expr) (J : It) (fp : List Addr) (it : Addr) (tn : Nat → Heap → Prop) : Prop where
  mem : it ∈ fp
  obj : ∀ i h, tn i h → ∀ b ∈ fp, ∃ o, h.get? b = some o ∧ ∀ v, o.data ≠ .cell v
  keep : ∀ i h h', tn i h → (∀ b ∈ fp, ∀ o, h.get? b = some o → h'.get? b = some o) → tn i h'
  item : ∀ (X : Cx), X.prog = P → X.w = w → X.K = K → X.calm = true → ∀ (i : Nat) (pins : List (Addr × Obj)) (s : Shared) (σ : St) (H : Hp) (E : Value → Shared → Prop), Inv X pins σ H s → (∀ b ∈ fp, FpOk X pins H b) → tn i s.heap → J.go i H →
    wpAny (model P w) X.A (pyNext (.ref it)) (fun r s1 => ∃ u, r = some u ∧
      wpAny (model P w) X.A (letOwnedTupleGo tg (.ref it) u) (fun _ s2 => ∃ x H', Inv X pins σ H' s2 ∧ RelV x u ∧ J.yld i H x H' ∧ tn (i + 1) s2.heap ∧ ∀ b ∈ fp, H' b = none) E s1) E s
  done : ∀ (X : Cx), X.prog = P → X.w = w → X.K = K → X.calm = true → ∀ (i : Nat) (pins : List (Addr × Obj)) (s : Shared) (σ : St) (H : Hp) (E : Value → Shared → Prop), Inv X pins σ H s → (∀ b ∈ fp, FpOk X pins H b) → tn i s.heap → J.stop i H →
    wpAny (model P w) X.A (pyNext (.ref it)) (fun r s1 => r = none ∧ Inv X pins σ H s1) E s
  self : ∀ (A : Around) (i : Nat) (s : Shared) (Q : Value → Shared → Prop) (E : Value → Shared → Prop), tn i s.heap → Q (.ref it) s → wpAny (model P w) A (pyIter (.ref it)) Q E s
abbrev TI := St → Hp → (It → Hp → Prop) → Prop
def PIE (X : Cx) (pins : List (Addr × Obj)) (σ : St) (tg : Expr) (R : It → Hp → Prop) (itv : Value) (s2 : Shared) : Prop :=
  ∃ (it : Addr) (fp : List Addr) (tn : Nat → Heap → Prop) (J : It) (H' : Hp), itv = .ref it ∧ Inv X pins σ H' s2 ∧ Turn X.prog X.w X.K tg J fp it tn ∧ tn 0 s2.heap ∧ (∀ b ∈ fp, FpOk X pins H' b) ∧ R J H'
def PI (X : Cx) (tg iter : Expr) (wi : TI) : Prop :=
  ∀ ⦃pins : List (Addr × Obj)⦄ (s : Shared) (σ : St) (H : Hp) (R : It → Hp → Prop), Inv X pins σ H s → wi σ H R →
    wpAny (model X.prog X.w) X.A (eval iter X.env) (fun v s1 => wpAny (model X.prog X.w) X.A (pyIter v) (PIE X pins σ tg R) X.xe s1) X.xe s

theorem go_of {M : Model} {A : Around} {E : Value → Shared → Prop} {s : Shared} {tg : Expr} {it : Addr} {u : Value} {o : Obj} {n : String} {vs : Array Value} {Q : Unit → Shared → Prop} (ho : s.heap.get? it = some o) (hc : o.cls = .type n) (hd : o.data = .fields vs)
    (hn : ["enumerate", "zip", "dict_itemiterator", "dict_reverseitemiterator", "odict_iterator", "itertools.zip_longest", "itertools.pairwise"].contains n = false) (hQ : Q () s) : wpAny M A (letOwnedTupleGo tg (.ref it) u) Q E s := by
  unfold letOwnedTupleGo
  cases tg <;> first
    | exact wpAny_pure hQ
    | (cases u <;> first
        | exact wpAny_pure hQ
        | (refine wpAny_bind (wpAny_load ho ?_)
           rw [hc, hd]
           show wpAny M A (if (["enumerate", "zip", "dict_itemiterator", "dict_reverseitemiterator", "odict_iterator", "itertools.zip_longest", "itertools.pairwise"].contains n && vs[0]? == some (rawInt _)) = true then _ else _) Q E s
           rw [if_neg (by intro h; rw [hn, Bool.false_and] at h; cases h)]
           exact wpAny_pure hQ))

def Itl (K : PySem.W.Frag) (a : Addr) : It :=
  ⟨fun i H => ∃ xs x, SqL K H a xs ∧ xs[i]? = some x, fun i H x H' => H' = H ∧ ∀ xs, SqL K H a xs → xs[i]? = some x, fun i H => ∃ xs, SqL K H a xs ∧ xs.length ≤ i⟩
def Itt (K : PySem.W.Frag) (a : Addr) : It :=
  ⟨fun i H => ∃ xs x, SqT K H a xs ∧ xs[i]? = some x, fun i H x H' => H' = H ∧ ∀ xs, SqT K H a xs → xs[i]? = some x, fun i H => ∃ xs, SqT K H a xs ∧ xs.length ≤ i⟩
def Itr (lo : Int) (n : Nat) : It := ⟨fun i _ => i < n, fun i H x H' => H' = H ∧ x = .int (lo + i), fun i _ => n ≤ i⟩
theorem turn_list {P : Program} {w : World} {K : PySem.W.Frag} {tg : Expr} (a it : Addr) : Turn P w K tg (Itl K a) [it] it (fun i h => h.IsListIter it a i) where
  mem := by simp
  obj := fun i h st b hb => by
    have e : b = it := by simpa using hb
    subst e
    obtain ⟨o, e, c, d⟩ := st
    exact ⟨o, e, fun v z => by rw [d] at z; cases z⟩
  keep := fun i h h' st k => st.at fun o e => k it (by simp) o e
  item := by
    intro X hP hw hK hc i pins s σ H E I hf st hg
    subst hP hw hK
    obtain ⟨xs, x, hq, hx⟩ := hg
    obtain ⟨its, rv, p, hz⟩ := I.list hq
    obtain ⟨u, hu, ru⟩ := rv.get hx
    obtain ⟨f0, f1, f2, f3, f4, f5⟩ := hf it (by simp)
    refine wpAny_pyNext_list_item st p.isList (x := u) (by simpa using hu) fun h' st' sb => ?_
    have I1 : Inv X pins σ H { s with heap := h' } := I.turned (t' := s.toks) (fun b o hb e => (sb.2 b hb).trans e) f0 f1 f3 f4 f5
    obtain ⟨o, e, c, d⟩ := id st'
    exact ⟨u, rfl, go_of (s := { s with heap := h' }) e c d (by decide) ⟨x, H, I1, ru, ⟨rfl, fun ys hy => by rw [I.list_inj hy hq]; exact hx⟩, st', fun b hb => (hf b hb).1⟩⟩
  done := by
    intro X hP hw hK hc i pins s σ H E I hf st hg
    subst hP hw hK
    obtain ⟨xs, hq, hx⟩ := hg
    obtain ⟨its, rv, p, hz⟩ := I.list hq
    obtain ⟨f0, f1, f2, f3, f4, f5⟩ := hf it (by simp)
    have hl := rv.length
    exact wpAny_pyNext_list_end (I.ok.hd hc) st p.isList (by simp; omega) fun h' eb => ⟨rfl, I.turned (t' := s.toks) (fun b o hb e => eb b o hb e) f0 f1 f3 f4 f5⟩
  self := fun _ _ _ _ _ st h => wpAny_pyIter_listiter st h
theorem turn_tuple {P : Program} {w : World} {K : PySem.W.Frag} {tg : Expr} (a it : Addr) : Turn P w K tg (Itt K a) [it] it (fun i h => h.IsTupleIter it a i) where
  mem := by simp
  obj := fun i h st b hb => by
    have e : b = it := by simpa using hb
    subst e
    obtain ⟨o, e, c, d⟩ := st
    exact ⟨o, e, fun v z => by rw [d] at z; cases z⟩
  keep := fun i h h' st k => st.at fun o e => k it (by simp) o e
  item := by
    intro X hP hw hK hc i pins s σ H E I hf st hg
    subst hP hw hK
    obtain ⟨xs, x, hq, hx⟩ := hg
    obtain ⟨its, rv, p, hz⟩ := I.tuple hq
    obtain ⟨u, hu, ru⟩ := rv.get hx
    obtain ⟨f0, f1, f2, f3, f4, f5⟩ := hf it (by simp)
    refine wpAny_pyNext_tuple_item st (show s.heap.IsTuple a its.toArray from p) (x := u) (by simpa using hu) fun h' st' sb => ?_
    have I1 : Inv X pins σ H { s with heap := h' } := I.turned (t' := s.toks) (fun b o hb e => (sb.2 b hb).trans e) f0 f1 f3 f4 f5
    obtain ⟨o, e, c, d⟩ := id st'
    exact ⟨u, rfl, go_of (s := { s with heap := h' }) e c d (by decide) ⟨x, H, I1, ru, ⟨rfl, fun ys hy => by rw [I.tuple_inj hy hq]; exact hx⟩, st', fun b hb => (hf b hb).1⟩⟩
  done := by
    intro X hP hw hK hc i pins s σ H E I hf st hg
    subst hP hw hK
    obtain ⟨xs, hq, hx⟩ := hg
    obtain ⟨its, rv, p, hz⟩ := I.tuple hq
    obtain ⟨f0, f1, f2, f3, f4, f5⟩ := hf it (by simp)
    have hl := rv.length
    exact wpAny_pyNext_tuple_end (I.ok.hd hc) st (show s.heap.IsTuple a its.toArray from p) (by simp; omega) fun h' eb => ⟨rfl, I.turned (t' := s.toks) (fun b o hb e => eb b o hb e) f0 f1 f3 f4 f5⟩
  self := fun _ _ _ _ _ st h => wpAny_pyIter_tupleiter st h
theorem turn_range {P : Program} {w : World} {K : PySem.W.Frag} {tg : Expr} (it : Addr) (lo : Int) (n : Nat) : Turn P w K tg (Itr lo n) [it] it (fun i h => IsRangeIter h it (lo + (i : Nat) * 1) ((n : Int) - (i : Nat)) 1) where
  mem := by simp
  obj := fun i h st b hb => by
    have e : b = it := by simpa using hb
    subst e
    exact ⟨_, st, fun v z => by
      have z' : Data.fields _ = Data.cell v := z
      cases z'⟩
  keep := fun i h h' st k => k it (by simp) _ st
  item := by
    intro X hP hw hK hc i pins s σ H E I hf st hg
    subst hP hw hK
    obtain ⟨f0, f1, f2, f3, f4, f5⟩ := hf it (by simp)
    have W := Walks.range (prog := X.prog) (w := X.w) (I.ok.hd hc) it lo 1 n
    refine W.item i s _ _ hg st fun v h' tk hv st' kk => ?_
    obtain ⟨t, rfl⟩ := hv
    have I1 : Inv X pins σ H { s with heap := h', toks := tk } := I.turned (fun b o hb e => kk b o (by simpa using hb) e) f0 f1 f3 f4 f5
    refine ⟨_, rfl, go_of (s := { s with heap := h', toks := tk }) (n := "range_iterator") st' rfl rfl (by decide) ⟨.int (lo + i), H, I1, ⟨t, ?_⟩, ⟨rfl, rfl⟩, st', fun b hb => (hf b hb).1⟩⟩
    rw [Int.mul_one]
  done := by
    intro X hP hw hK hc i pins s σ H E I hf st hg
    subst hP hw hK
    obtain ⟨f0, f1, f2, f3, f4, f5⟩ := hf it (by simp)
    exact wpAny_pyNext_range_end (I.ok.hd hc) st (by have : n ≤ i := hg; omega) fun h' eb => ⟨rfl, I.turned (t' := s.toks) (fun b o hb e => eb b o hb e) f0 f1 f3 f4 f5⟩
  self := fun _ _ _ _ _ st h => wpAny_pyIter_rangeiter st h
end L2

namespace L2
open PySem PySem.Spec PyProof.Rows
section
variable {X : Cx} {tg : Expr}
def iList (K : PySem.W.Frag) (tl : TE) : TI := fun σ H R => tl σ H fun x H1 => ∃ a, x = .ref a ∧ (∃ xs, SqL K H1 a xs) ∧ R (Itl K a) H1
def iTup (K : PySem.W.Frag) (tl : TE) : TI := fun σ H R => tl σ H fun x H1 => ∃ a, x = .ref a ∧ (∃ xs, SqT K H1 a xs) ∧ R (Itt K a) H1
theorem pi_list {l : Expr} {tl : TE} (hl : PE X l tl) : PI X tg l (iList X.K tl) := by
  intro pins s σ H R I h
  refine thn (hl s σ H _ I h) fun v s1 ⟨x, H1, I1, r1, q1⟩ => ?_
  obtain ⟨a, e, ⟨xs, hq⟩, q⟩ := q1
  subst e
  cases r1
  obtain ⟨its, rv, p, hz⟩ := I1.list hq
  refine wpAny_pyIter_list p.isList ?_
  refine ⟨s1.heap.objs.size, [s1.heap.objs.size], _, _, H1, rfl, I1.kept (t' := s1.toks) fun b o e => Heap.get?_push_of_some _ e, turn_list a _, ⟨_, Heap.get?_push_size _ rfl, rfl, rfl⟩, fun b hb => ?_, q⟩
  have e : b = s1.heap.objs.size := by simpa using hb
  subst e
  exact I1.fpOk (Nat.le_refl _) (I1.hok.fresh (Nat.le_refl _))
theorem pi_tup {l : Expr} {tl : TE} (hl : PE X l tl) : PI X tg l (iTup X.K tl) := by
  intro pins s σ H R I h
  refine thn (hl s σ H _ I h) fun v s1 ⟨x, H1, I1, r1, q1⟩ => ?_
  obtain ⟨a, e, ⟨xs, hq⟩, q⟩ := q1
  subst e
  cases r1
  obtain ⟨its, rv, p, hz⟩ := I1.tuple hq
  refine wpAny_pyIter_tuple (show s1.heap.IsTuple a its.toArray from p) ?_
  refine ⟨s1.heap.objs.size, [s1.heap.objs.size], _, _, H1, rfl, I1.kept (t' := s1.toks) fun b o e => Heap.get?_push_of_some _ e, turn_tuple a _, ⟨_, Heap.get?_push_size _ rfl, rfl, rfl⟩, fun b hb => ?_, q⟩
  have e : b = s1.heap.objs.size := by simpa using hb
  subst e
  exact I1.fpOk (Nat.le_refl _) (I1.hok.fresh (Nat.le_refl _))
theorem range_it {pins : List (Addr × Obj)} {σ : St} {H : Hp} {s : Shared} {R : It → Hp → Prop} {E : Value → Shared → Prop} {lo hi : Int} {t u v : Tok} {tk : Nat} (I : Inv X pins σ H s) (h1 : -(2 ^ 62) ≤ lo) (h2 : lo < 2 ^ 62) (h3 : -(2 ^ 62) ≤ hi) (h4 : hi < 2 ^ 62)
    (q : R (Itr lo (hi - lo).toNat) H) : wpAny (model X.prog X.w) X.A (pyIter (.ref s.heap.objs.size)) (PIE X pins σ tg R) E { s with heap := s.heap.push { cls := .type "range", data := .fields #[.int lo t, .int hi u, .int 1 v] }, toks := tk } := by
  refine wpAny_pyIter_range (IsRange.new ..) (small_one h1 h2 h3 h4) ?_
  have I1 : Inv X pins σ H { s with heap := s.heap.push { cls := .type "range", data := .fields #[.int lo t, .int hi u, .int 1 v] }, toks := tk } := I.kept fun b o e => Heap.get?_push_of_some _ e
  refine ⟨(s.heap.push { cls := .type "range", data := .fields #[.int lo t, .int hi u, .int 1 v] }).objs.size, [(s.heap.push { cls := .type "range", data := .fields #[.int lo t, .int hi u, .int 1 v] }).objs.size], _, _, H, rfl,
    I1.kept (t' := tk) fun b o e => Heap.get?_push_of_some _ e, turn_range _ lo (hi - lo).toNat, ?_, fun b hb => ?_, q⟩
  · have e1 : lo + ((0 : Nat) : Int) * 1 = lo := by simp
    have e2 : (((hi - lo).toNat : Nat) : Int) - ((0 : Nat) : Int) = Builtin.Range.rangeSize lo hi 1 := by rw [rangeSize_one]; split <;> omega
    show IsRangeIter _ _ (lo + ((0 : Nat) : Int) * 1) ((((hi - lo).toNat : Nat) : Int) - ((0 : Nat) : Int)) 1
    rw [e1, e2]
    exact Heap.get?_push_size _ rfl
  · have e : b = (s.heap.push { cls := .type "range", data := .fields #[.int lo t, .int hi u, .int 1 v] }).objs.size := by simpa using hb
    subst e
    exact I1.fpOk (Nat.le_refl _) (I1.hok.fresh (Nat.le_refl _))
def iRng1 (ta : TA) : TI := fun σ H R => ta σ H fun vs H1 => ∃ j : Int, vs = [.int j] ∧ -(2 ^ 62) ≤ j ∧ j < 2 ^ 62 ∧ R (Itr 0 j.toNat) H1
def iRng2 (ta : TA) : TI := fun σ H R => ta σ H fun vs H1 => ∃ i j : Int, vs = [.int i, .int j] ∧ (-(2 ^ 62) ≤ i ∧ i < 2 ^ 62 ∧ -(2 ^ 62) ≤ j ∧ j < 2 ^ 62) ∧ R (Itr i (j - i).toNat) H1
theorem pi_range1 {a : Expr} {ta : TA} {p pos : Pos} (hg : Gl X "range") (hm : X.mg "range" = none) (ha : PA X [a] ta) (hs : starEach [a] X.env = [(false, eval a X.env)] := by rfl) : PI X tg (.Call (.Name "range" p) [a] [] pos) (iRng1 ta) := by
  intro pins s σ H R I h
  refine Call_ (ld_blt I hg hm boot_range (PyProof.Rows.callWith_type1 (thn (ha pos s σ H _ I h) fun us s1 ⟨vs, H1, I1, r1, q1⟩ => ?_) hs rfl))
  obtain ⟨j, e, q1, q2, q⟩ := q1
  subst e
  cases r1 with
  | cons r rr =>
    cases rr
    obtain ⟨t, rfl⟩ := r
    exact call_range_1 (range_it I1 (by omega) (by omega) q1 q2 (by simpa using q))
/-! ### for -/
def tFor (wi : TI) (g : TG) (tb : TS) : TS := fun D σ H => wi σ H fun J H1 => ∃ W : Nat → Nat → St → Hp → Prop, (∃ m, W 0 m σ H1) ∧ ∀ i m σ H, W i m σ H →
  (J.stop i H ∧ D.nx σ H) ∨ (J.go i H ∧ ∃ N : St → Hp → Prop, (∀ σ' H', N σ' H' → ∃ m', m' < m ∧ W (i + 1) m' σ' H') ∧ ∀ x H', J.yld i H x H' → g x σ H' fun σ2 H2 => tb { D with nx := N, ct := N, bk := D.nx } σ2 H2)
def pinsAt (fp : List Addr) (h : Heap) : List (Addr × Obj) := fp.filterMap fun b => (h.get? b).map fun o => (b, o)
theorem mem_pinsAt {fp : List Addr} {h : Heap} {b : Addr} {o : Obj} (hb : b ∈ fp) (e : h.get? b = some o) : (b, o) ∈ pinsAt fp h := List.mem_filterMap.mpr ⟨b, hb, by rw [e]; rfl⟩
theorem of_pinsAt {fp : List Addr} {h : Heap} {p : Addr × Obj} (hp : p ∈ pinsAt fp h) : p.1 ∈ fp ∧ h.get? p.1 = some p.2 := by
  obtain ⟨b, hb, e⟩ := List.mem_filterMap.mp hp
  cases q : h.get? b with
  | none => rw [q] at e; cases e
  | some o =>
    rw [q] at e
    have e' : (b, o) = p := Option.some.inj e
    subst e'
    exact ⟨hb, q⟩
theorem Inv.pinned {pins : List (Addr × Obj)} {σ : St} {H : Hp} {s : Shared} {fp : List Addr} (I : Inv X pins σ H s) (hf : ∀ b ∈ fp, FpOk X pins H b) (ho : ∀ b ∈ fp, ∃ o, s.heap.get? b = some o ∧ ∀ v, o.data ≠ .cell v) : Inv X (pins ++ pinsAt fp s.heap) σ H s :=
  I.pins_of fun p hp => (List.mem_append.mp hp).elim (fun z => I.pin p (List.mem_append_right _ z)) fun z => by
    obtain ⟨hb, e⟩ := of_pinsAt z
    obtain ⟨f0, f1, f2, _⟩ := hf p.1 hb
    obtain ⟨o, e', d⟩ := ho p.1 hb
    rw [e] at e'; cases e'
    exact ⟨e, f0, f1, f2, d⟩
theorem Inv.unpinned {pins pl : List (Addr × Obj)} {σ : St} {H : Hp} {s : Shared} (I : Inv X (pins ++ pl) σ H s) : Inv X pins σ H s := I.pins_of fun p hp => I.pin p (List.mem_append_right _ (List.mem_append_left _ hp))
theorem ps_for {iter : Expr} {body : List Stmt} {wi : TI} {g : TG} {tb : TS} {pos : Pos} (hp : PassesOwn (model X.prog X.w) X.A X.env X.xe) (hc : X.calm = true) (hi : PI X tg iter wi) (hg : PG X tg g) (hb : PSs X body tb)
    (hs : ∀ x, foldedSetIterable iter X.env x = pure x := by intro _; rfl) : PS X (.For tg iter body [] pos) (tFor wi g tb) := by
  intro pins s σ H D I h
  refine wpAny_For (thn (hi s σ H _ I h) fun v s1 h1 => thn h1 fun itv s2 h2 => ?_) hs
  obtain ⟨it, fp, tn, J, H2, e, I2, T, st2, f2, W, ⟨m0, w0⟩, turn⟩ := h2
  subst e
  have stat : ∀ {H' : Hp}, (∀ b ∈ fp, H' b = none) → ∀ b ∈ fp, FpOk X pins H' b := fun hn b hb => ⟨hn b hb, (f2 b hb).2⟩
  refine codeAny_forLoop_any (fun n s' => ∃ i σ' H', Inv X pins σ' H' s' ∧ tn i s'.heap ∧ (∀ b ∈ fp, H' b = none) ∧ W i n σ' H') ?_ m0 ⟨0, σ, H2, I2, st2, fun b hb => (f2 b hb).1, w0⟩
  rintro n s3 ⟨i, σ3, H3, I3, st3, fr3, w3⟩
  rcases turn i n σ3 H3 w3 with ⟨stop, qn⟩ | ⟨go, N, hN, step⟩
  · refine wpAny_passesOwn hp (thn (T.done X rfl rfl rfl hc i pins s3 σ3 H3 X.xe I3 (stat fr3) st3 stop) fun r s4 ⟨hr, I4⟩ => ?_)
    subst hr
    exact wpAny_execs_nil ⟨σ3, H3, I4, qn⟩
  · refine wpAny_passesOwn hp (thn (T.item X rfl rfl rfl hc i pins s3 σ3 H3 X.xe I3 (stat fr3) st3 go) fun r s4 ⟨u, hr, h4⟩ => ?_)
    subst hr
    refine wpAny_passesOwn hp (thn h4 fun _ s5 ⟨x, H5, I5, r5, y5, st5, fr5⟩ => ?_)
    have I5' := I5.pinned (stat fr5) (T.obj _ _ st5)
    refine wpAny_passesOwn hp (thn (hg s5 σ3 H5 x u _ I5' r5 (step x H5 y5)) fun _ s6 ⟨σ6, H6, I6, q6⟩ => ?_)
    refine wpAny_passesOwn hp (thn (hb s6 σ6 H6 _ I6 q6) fun f s7 q7 => ?_)
    have again : ∀ {σ7 : St} {H7 : Hp}, Inv X (pins ++ pinsAt fp s5.heap) σ7 H7 s7 → N σ7 H7 → ∃ m, m < n ∧ ∃ i σ' H', Inv X pins σ' H' s7 ∧ tn i s7.heap ∧ (∀ b ∈ fp, H' b = none) ∧ W i m σ' H' := fun {σ7 H7} I7 n7 => by
      obtain ⟨m', hm, w7⟩ := hN σ7 H7 n7
      refine ⟨m', hm, i + 1, σ7, H7, I7.unpinned, T.keep _ _ _ st5 fun b hb o e => (I7.pin (b, o) (List.mem_append_right _ (List.mem_append_right _ (mem_pinsAt hb e)))).1, fun b hb => ?_, w7⟩
      obtain ⟨o, e, d⟩ := T.obj _ _ st5 b hb
      exact (I7.pin (b, o) (List.mem_append_right _ (List.mem_append_right _ (mem_pinsAt hb e)))).2.1
    cases f with
    | next => obtain ⟨σ7, H7, I7, n7⟩ := q7; exact again I7 n7
    | cont => obtain ⟨σ7, H7, I7, n7⟩ := q7; exact again I7 n7
    | brk => obtain ⟨σ7, H7, I7, q7⟩ := q7; exact ⟨σ7, H7, I7.unpinned, q7⟩
    | ret v => obtain ⟨x7, σ7, H7, I7, r7, q7⟩ := q7; exact ⟨x7, σ7, H7, I7.unpinned, r7, q7⟩
end

/-! ### the forms one uses -/
end L2

namespace L2
open PySem PySem.Spec PyProof.Rows

abbrev R2 := V → V → Hp → VK → Prop
def OpR (X : Cx) (f : Value → Value → Sem Value) (r : R2) : Prop :=
  ∀ (pins : List (Addr × Obj)) (s : Shared) (σ : St) (H : Hp) (x y : V) (v u : Value) (Q : VK), Inv X pins σ H s → RelV x v → RelV y u → r x y H Q →
    wpAny (model X.prog X.w) X.A (f v u) (EP X pins σ Q) X.xe s
def UnR (X : Cx) (f : Value → Sem Value) (r : V → Hp → VK → Prop) : Prop :=
  ∀ (pins : List (Addr × Obj)) (s : Shared) (σ : St) (H : Hp) (x : V) (v : Value) (Q : VK), Inv X pins σ H s → RelV x v → r x H Q →
    wpAny (model X.prog X.w) X.A (f v) (EP X pins σ Q) X.xe s
def CallR (X : Cx) (f : Value) (r : List V → Hp → VK → Prop) : Prop :=
  ∀ (pins : List (Addr × Obj)) (s : Shared) (σ : St) (H : Hp) (xs : List V) (us : List Value) (Q : VK), Inv X pins σ H s → Vals xs us → r xs H Q →
    wpAny (model X.prog X.w) X.A (call f us) (EP X pins σ Q) X.xe s
def tOp (r : R2) (ta tb : TE) : TE := fun σ H Q => ta σ H fun x H1 => tb σ H1 fun y H2 => r x y H2 Q
def tUn (r : V → Hp → VK → Prop) (ta : TE) : TE := fun σ H Q => ta σ H fun x H1 => r x H1 Q
def rI (C : Int → Int → Prop) (g : Int → Int → V) : R2 := fun x y H Q => ∃ i j, x = .int i ∧ y = .int j ∧ C i j ∧ Q (g i j) H
def rI0 (g : Int → Int → V) : R2 := fun x y H Q => ∃ i j, x = .int i ∧ y = .int j ∧ Q (g i j) H
def rU (g : Int → V) : V → Hp → VK → Prop := fun x H Q => ∃ i, x = .int i ∧ Q (g i) H

section
variable {X : Cx} {a b c : Expr} {ta tb tc : TE} {pos : Pos}

theorem binT (ha : PE X a ta) (hb : PE X b tb) {pins : List (Addr × Obj)} {s : Shared} {σ : St} {H : Hp} {R : V → V → Hp → Prop} (I : Inv X pins σ H s)
    (h : ta σ H fun x H1 => tb σ H1 fun y H2 => R x y H2) {Q : Value → Shared → Prop} {f : Value → Value → Sem Value}
    (hf : ∀ v u s2 x y H2, Inv X pins σ H2 s2 → RelV x v → RelV y u → R x y H2 → wpAny (model X.prog X.w) X.A (f v u) Q X.xe s2) :
    wpAny (model X.prog X.w) X.A (eval a X.env) (fun v s₁ => wpAny (model X.prog X.w) X.A (eval b X.env) (fun u s₂ => wpAny (model X.prog X.w) X.A (f v u) Q X.xe s₂) X.xe s₁) X.xe s := by
  refine thn (ha s σ H _ I h) fun v s1 ⟨x, H1, I1, r1, q1⟩ => ?_
  refine thn (hb s1 σ H1 _ I1 q1) fun u s2 ⟨y, H2, I2, r2, q2⟩ => ?_
  exact hf v u s2 x y H2 I2 r1 r2 q2

theorem pe_op {op : Operator} {r : R2} (ho : OpR X (binaryOp op) r) (ha : PE X a ta) (hb : PE X b tb) : PE X (.BinOp a op b pos) (tOp r ta tb) := by
  intro pins s σ H Q I h
  exact wpAny_BinOp (binT ha hb I h fun v u s2 x y H2 I2 rx ry q => ho pins s2 σ H2 x y v u Q I2 rx ry q)
theorem pe_un {op : UnaryOp} {r : V → Hp → VK → Prop} (ho : UnR X (unaryOp op) r) (ha : PE X a ta) : PE X (.UnaryOp op a pos) (tUn r ta) := by
  intro pins s σ H Q I h
  exact UnaryOp_ (thn (ha s σ H _ I h) fun v s1 ⟨x, H1, I1, r1, q1⟩ => ho pins s1 σ H1 x v Q I1 r1 q1)
/-! ### ints -/
theorem opI {f : Value → Value → Sem Value} {C : Int → Int → Prop} {g : Int → Int → Int}
    (rule : ∀ (i j : Int) (t u : Tok) (s : Shared) (Q : Value → Shared → Prop) (E : Value → Shared → Prop), C i j → Q (.int (g i j) s.toks) { s with toks := s.toks + 1 } → wpAny (model X.prog X.w) X.A (f (.int i t) (.int j u)) Q E s) :
    OpR X f (rI C fun i j => .int (g i j)) := by
  intro pins s σ H x y v u Q I rx ry h
  obtain ⟨i, j, rfl, rfl, hc, q⟩ := h
  obtain ⟨t, rfl⟩ := rx
  obtain ⟨t', rfl⟩ := ry
  exact rule i j t t' s _ _ hc ⟨.int (g i j), H, I.tok _, ⟨_, rfl⟩, q⟩
theorem opI0 {f : Value → Value → Sem Value} {g : Int → Int → Int}
    (rule : ∀ (i j : Int) (t u : Tok) (s : Shared) (Q : Value → Shared → Prop) (E : Value → Shared → Prop), Q (.int (g i j) s.toks) { s with toks := s.toks + 1 } → wpAny (model X.prog X.w) X.A (f (.int i t) (.int j u)) Q E s) :
    OpR X f (rI0 fun i j => .int (g i j)) := by
  intro pins s σ H x y v u Q I rx ry h
  obtain ⟨i, j, rfl, rfl, q⟩ := h
  obtain ⟨t, rfl⟩ := rx
  obtain ⟨t', rfl⟩ := ry
  exact rule i j t t' s _ _ ⟨.int (g i j), H, I.tok _, ⟨_, rfl⟩, q⟩
theorem opB0 {f : Value → Value → Sem Value} {g : Int → Int → Bool}
    (rule : ∀ (i j : Int) (t u : Tok) (s : Shared) (Q : Value → Shared → Prop) (E : Value → Shared → Prop), Q (.bool (g i j)) s → wpAny (model X.prog X.w) X.A (f (.int i t) (.int j u)) Q E s) :
    OpR X f (rI0 fun i j => .bl (g i j)) := by
  intro pins s σ H x y v u Q I rx ry h
  obtain ⟨i, j, rfl, rfl, q⟩ := h
  obtain ⟨t, rfl⟩ := rx
  obtain ⟨t', rfl⟩ := ry
  exact rule i j t t' s _ _ ⟨.bl (g i j), H, I, rfl, q⟩

def CDiv (i j : Int) : Prop := 0 < j ∧ j < 1073741824
def CPow (i j : Int) : Prop := 0 ≤ j ∧ j ≤ 1000000 ∧ i.natAbs < 2 ^ 64
def CMul (i j : Int) : Prop := (-(2 ^ 64) < i ∧ i < 2 ^ 64) ∨ (-(2 ^ 64) < j ∧ j < 2 ^ 64)
theorem CMul.ok {i j : Int} (h : CMul i j) : IntMulOk i j := by
  rcases h with ⟨h1, h2⟩ | ⟨h1, h2⟩
  · exact .of_left (intBits_le_64 h1 h2)
  · exact .of_right (intBits_le_64 h1 h2)
theorem op_add : OpR X (binaryOp .Add) (rI0 fun i j => .int (i + j)) := opI0 fun _ _ _ _ _ _ _ q => add_int q
theorem op_sub : OpR X (binaryOp .Sub) (rI0 fun i j => .int (i - j)) := opI0 fun _ _ _ _ _ _ _ q => sub_int q
theorem op_mul : OpR X (binaryOp .Mult) (rI CMul fun i j => .int (i * j)) := opI fun _ _ _ _ _ _ _ hc q => mul_int q hc.ok
theorem op_mod : OpR X (binaryOp .Mod) (rI (fun _ j => 0 < j) fun i j => .int (i % j)) := opI fun i j _ _ _ _ _ hc q => by
  have h1 : (0 : Int) < j := hc
  exact mod_int' (by omega) (by rw [Int.fmod_eq_emod_of_nonneg i (by omega)]; exact q)
theorem op_pow : OpR X (binaryOp .Pow) (rI CPow fun i j => .int (i ^ j.toNat)) := opI fun _ _ _ _ _ _ _ hc q => pow_int_small hc.1 hc.2.1 hc.2.2 q
theorem unI {f : Value → Sem Value} {g : Int → Int}
    (rule : ∀ (i : Int) (t : Tok) (s : Shared) (Q : Value → Shared → Prop) (E : Value → Shared → Prop), Q (.int (g i) s.toks) { s with toks := s.toks + 1 } → wpAny (model X.prog X.w) X.A (f (.int i t)) Q E s) :
    UnR X f (rU fun i => .int (g i)) := by
  intro pins s σ H x v Q I rx h
  obtain ⟨i, rfl, q⟩ := h
  obtain ⟨t, rfl⟩ := rx
  exact rule i t s _ _ ⟨.int (g i), H, I.tok _, ⟨_, rfl⟩, q⟩
theorem un_neg : UnR X (unaryOp .USub) (rU fun i => .int (-i)) := unI fun _ _ _ _ _ q => neg_int q
/-! ### bools among ints: n += (a < b) -/
end

/-! ### comparisons -/
def scal : V → V → Bool
  | .non, .non => true | .non, .int _ => true | .int _, .non => true | .non, .bl _ => true | .bl _, .non => true | .non, .str _ => true | .str _, .non => true
  | .int _, .int _ => true | .bl _, .bl _ => true | .str _, .str _ => true | .byt _, .byt _ => true
  | .int _, .str _ => true | .str _, .int _ => true | .bl _, .str _ => true | .str _, .bl _ => true
  | _, _ => false
def rEq : R2 := fun x y H Q => scal x y = true ∧ Q (.bl (decide (x = y))) H
def rNe : R2 := fun x y H Q => scal x y = true ∧ Q (.bl (!decide (x = y))) H

theorem dec_int {i j : Int} : decide (V.int i = V.int j) = (i == j) := by
  rw [Bool.eq_iff_iff]
  simp
theorem dec_bl {i j : Bool} : decide (V.bl i = V.bl j) = (i == j) := by
  rw [Bool.eq_iff_iff]
  simp
theorem dec_str {i j : Str} : decide (V.str i = V.str j) = (i == j) := by
  rw [Bool.eq_iff_iff]
  simp
theorem dec_byt {i j : Array UInt8} : decide (V.byt i = V.byt j) = (i.toList == j.toList) := by
  rw [Bool.eq_iff_iff]
  cases i
  cases j
  simp

section
variable {X : Cx} {a b c : Expr} {ta tb tc : TE} {pos : Pos}
theorem fin_bl {pins : List (Addr × Obj)} {σ : St} {H : Hp} {s : Shared} {Q : VK} {k k' : Bool} (I : Inv X pins σ H s) (q : Q (.bl k) H) (e : k = k') : EP X pins σ Q (.bool k') s := by
  subst e
  exact ⟨.bl k, H, I, rfl, q⟩
theorem op_eq : OpR X (compareOp .Eq) rEq := by
  intro pins s σ H x y v u Q I rx ry h
  obtain ⟨hs, q⟩ := h
  cases x with
  | non =>
    cases rx
    cases y with
    | non => cases ry; exact PySem.EqNone.eq_none_none (fin_bl I q (by simp))
    | bl j => cases ry; exact PySem.EqNone.eq_none_bool (fin_bl I q (by simp))
    | int j => obtain ⟨t', rfl⟩ := ry; exact PySem.EqNone.eq_none_int (fin_bl I q (by simp))
    | str j => obtain ⟨t', rfl⟩ := ry; exact PySem.EqNone.eq_none_str (fin_bl I q (by simp))
    | _ => exact absurd (show false = true from hs) Bool.false_ne_true
  | bl i =>
    cases rx
    cases y with
    | non => cases ry; exact PySem.EqNone.eq_bool_none (fin_bl I q (by simp))
    | bl j => cases ry; exact eq_bool (fin_bl I q dec_bl)
    | str j => obtain ⟨t', rfl⟩ := ry; exact PySem.EqMixed.eq_bool_str (fin_bl I q (by simp))
    | _ => exact absurd (show false = true from hs) Bool.false_ne_true
  | int i =>
    obtain ⟨t, rfl⟩ := rx
    cases y with
    | non => cases ry; exact PySem.EqNone.eq_int_none (fin_bl I q (by simp))
    | int j => obtain ⟨t', rfl⟩ := ry; exact eq_int (fin_bl I q dec_int)
    | str j => obtain ⟨t', rfl⟩ := ry; exact PySem.EqMixed.eq_int_str (fin_bl I q (by simp))
    | _ => exact absurd (show false = true from hs) Bool.false_ne_true
  | str i =>
    obtain ⟨t, rfl⟩ := rx
    cases y with
    | non => cases ry; exact PySem.EqNone.eq_str_none (fin_bl I q (by simp))
    | bl j => cases ry; exact PySem.EqMixed.eq_str_bool (fin_bl I q (by simp))
    | int j => obtain ⟨t', rfl⟩ := ry; exact PySem.EqMixed.eq_str_int (fin_bl I q (by simp))
    | str j => obtain ⟨t', rfl⟩ := ry; exact eq_str (fin_bl I q dec_str)
    | _ => exact absurd (show false = true from hs) Bool.false_ne_true
  | byt i =>
    obtain ⟨t, rfl⟩ := rx
    cases y with
    | byt j => obtain ⟨t', rfl⟩ := ry; exact PySem.W.eq_bytes (fin_bl I q dec_byt)
    | _ => exact absurd (show false = true from hs) Bool.false_ne_true
  | _ => cases y <;> exact absurd (show false = true from hs) Bool.false_ne_true
theorem op_ne : OpR X (compareOp .NotEq) rNe := by
  intro pins s σ H x y v u Q I rx ry h
  obtain ⟨hs, q⟩ := h
  cases x with
  | non =>
    cases rx
    cases y with
    | non => cases ry; exact PySem.EqNone.ne_none_none (fin_bl I q (by simp))
    | bl j => cases ry; exact PySem.EqNone.ne_none_bool (fin_bl I q (by simp))
    | int j => obtain ⟨t', rfl⟩ := ry; exact PySem.EqNone.ne_none_int (fin_bl I q (by simp))
    | str j => obtain ⟨t', rfl⟩ := ry; exact PySem.EqNone.ne_none_str (fin_bl I q (by simp))
    | _ => exact absurd (show false = true from hs) Bool.false_ne_true
  | bl i =>
    cases rx
    cases y with
    | non => cases ry; exact PySem.EqNone.ne_bool_none (fin_bl I q (by simp))
    | bl j => cases ry; exact ne_bool (fin_bl I q (congrArg not dec_bl))
    | str j => obtain ⟨t', rfl⟩ := ry; exact PySem.EqMixed.ne_bool_str (fin_bl I q (by simp))
    | _ => exact absurd (show false = true from hs) Bool.false_ne_true
  | int i =>
    obtain ⟨t, rfl⟩ := rx
    cases y with
    | non => cases ry; exact PySem.EqNone.ne_int_none (fin_bl I q (by simp))
    | int j => obtain ⟨t', rfl⟩ := ry; exact ne_int (fin_bl I q (congrArg not dec_int))
    | str j => obtain ⟨t', rfl⟩ := ry; exact PySem.EqMixed.ne_int_str (fin_bl I q (by simp))
    | _ => exact absurd (show false = true from hs) Bool.false_ne_true
  | str i =>
    obtain ⟨t, rfl⟩ := rx
    cases y with
    | non => cases ry; exact PySem.EqNone.ne_str_none (fin_bl I q (by simp))
    | bl j => cases ry; exact PySem.EqMixed.ne_str_bool (fin_bl I q (by simp))
    | int j => obtain ⟨t', rfl⟩ := ry; exact PySem.EqMixed.ne_str_int (fin_bl I q (by simp))
    | str j => obtain ⟨t', rfl⟩ := ry; exact ne_str (fin_bl I q (congrArg not dec_str))
    | _ => exact absurd (show false = true from hs) Bool.false_ne_true
  | byt i =>
    obtain ⟨t, rfl⟩ := rx
    cases y with
    | byt j => obtain ⟨t', rfl⟩ := ry; exact PySem.W.ne_bytes (fin_bl I q (congrArg not dec_byt))
    | _ => exact absurd (show false = true from hs) Bool.false_ne_true
  | _ => cases y <;> exact absurd (show false = true from hs) Bool.false_ne_true

theorem op_lt : OpR X (compareOp .Lt) (rI0 fun i j => .bl (decide (i < j))) := opB0 fun _ _ _ _ _ _ _ q => lt_int q
theorem op_le : OpR X (compareOp .LtE) (rI0 fun i j => .bl (decide (i ≤ j))) := opB0 fun _ _ _ _ _ _ _ q => le_int q
theorem op_gt : OpR X (compareOp .Gt) (rI0 fun i j => .bl (decide (j < i))) := opB0 fun _ _ _ _ _ _ _ q => gt_int q
theorem op_ge : OpR X (compareOp .GtE) (rI0 fun i j => .bl (decide (j ≤ i))) := opB0 fun _ _ _ _ _ _ _ q => ge_int q
theorem op_in_str : OpR X (compareOp .In) (fun x y H Q => ∃ i j, x = .str i ∧ y = .str j ∧ Q (.bl (!(Builtin.Str.occurrences j i 0 j.length 1).isEmpty)) H) := by
  intro pins s σ H x y v u Q I rx ry h
  obtain ⟨i, j, rfl, rfl, q⟩ := h
  obtain ⟨t, rfl⟩ := rx
  obtain ⟨t', rfl⟩ := ry
  exact in_str (fin_bl I q rfl)

theorem op_notN : OpR X (compareOp .IsNot) (fun x y H Q => y = .non ∧ Q (.bl (!decide (x = .non))) H) := by
  intro pins s σ H x y v u Q I rx ry h
  obtain ⟨rfl, q⟩ := h
  cases ry
  refine isnot_none_gen (fin_bl I q ?_)
  cases x <;> first
    | (cases rx; rfl)
    | (obtain ⟨t, rfl⟩ := rx; rfl)

theorem nomark (b : Expr) {op : CmpOp} (h : op ≠ .In := by decide) (h2 : op ≠ .NotIn := by decide) : behindInMarks op b = false := by
  have e1 : (op == CmpOp.In) = false := by cases op <;> first | rfl | exact absurd rfl h
  have e2 : (op == CmpOp.NotIn) = false := by cases op <;> first | rfl | exact absurd rfl h2
  cases b <;> simp [behindInMarks, e1, e2]
theorem pe_cmpR {op : CmpOp} {r : R2} (ho : OpR X (compareOp op) r) (ha : PE X a ta) (hb : PE X b tb) (hm : behindInMarks op b = false) : PE X (.Compare a [op] [b] pos) (tOp r ta tb) := by
  intro pins s σ H Q I h
  exact wpAny_Compare1 (binT ha hb I h fun v u s2 x y H2 I2 rx ry q => ho pins s2 σ H2 x y v u Q I2 rx ry q) hm
def tTest (t : TE) : TT := fun σ H Q => t σ H fun x H' => ∃ k, x = .bl k ∧ Q k H'
theorem pt_cmpR {op : CmpOp} {r : R2} (ho : OpR X (compareOp op) r) (ha : PE X a ta) (hb : PE X b tb) (hm : behindInMarks op b = false) : PT X (.Compare a [op] [b] pos) (tTest (tOp r ta tb)) := by
  intro pins s σ H Q I h
  refine wpAny_isTrue_Compare1 (thn (ha s σ H _ I h) fun v s1 ⟨x, H1, I1, r1, q1⟩ => thn (hb s1 σ H1 _ I1 q1) fun u s2 ⟨y, H2, I2, r2, q2⟩ =>
    thn (ho pins s2 σ H2 x y v u _ I2 r1 r2 q2) fun c s3 ⟨z, H3, I3, r3, k, e, q3⟩ => ?_) hm
  subst e
  cases r3
  exact wpAny_truthy_bool ⟨H3, I3, q3⟩
/-! ### truth -/
theorem line63 : (sizeLine : Nat) < 2 ^ 63 := by rw [sizeLine_eq]; decide
/-! ### strs and bytes -/
theorem op_add_str : OpR X (binaryOp .Add) (fun x y H Q => ∃ i j, x = .str i ∧ y = .str j ∧ i.length + j.length ≤ sizeLine ∧ Q (.str (i ++ j)) H) := by
  intro pins s σ H x y v u Q I rx ry h
  obtain ⟨i, j, rfl, rfl, hz, q⟩ := h
  obtain ⟨t, rfl⟩ := rx
  obtain ⟨t', rfl⟩ := ry
  exact add_str (fun t' tk => ⟨.str (i ++ j), H, I.tok _, ⟨_, rfl⟩, q⟩) hz
/-! ### scalar builtins, by CallR -/
theorem vals1 {x : V} {us : List Value} (r : Vals [x] us) : ∃ u, us = [u] ∧ RelV x u := by
  cases r with
  | cons r1 r2 => cases r2; exact ⟨_, rfl, r1⟩
theorem vals2 {x y : V} {us : List Value} (r : Vals [x, y] us) : ∃ u w', us = [u, w'] ∧ RelV x u ∧ RelV y w' := by
  cases r with
  | cons r1 r2 =>
    cases r2 with
    | cons r3 r4 => cases r4; exact ⟨_, _, rfl, r1, r3⟩
theorem call_max2 (hc : X.calm = true) : CallR X (.builtin "max") (fun xs H Q => ∃ i j, xs = [.int i, .int j] ∧ Q (.int (if j > i then j else i)) H) := by
  intro pins s σ H xs us Q I r h
  obtain ⟨i, j, rfl, q⟩ := h
  obtain ⟨u, w', rfl, ⟨t, rfl⟩, ⟨t', rfl⟩⟩ := vals2 r
  refine max_two_ints (I.ok.hd hc) fun h' tk k => ⟨_, H, I.kept k, ?_, q⟩
  by_cases hj : j > i
  · rw [if_pos hj, if_pos hj]; exact ⟨_, rfl⟩
  · rw [if_neg hj, if_neg hj]; exact ⟨_, rfl⟩
theorem call_min2 (hc : X.calm = true) : CallR X (.builtin "min") (fun xs H Q => ∃ i j, xs = [.int i, .int j] ∧ Q (.int (if j < i then j else i)) H) := by
  intro pins s σ H xs us Q I r h
  obtain ⟨i, j, rfl, q⟩ := h
  obtain ⟨u, w', rfl, ⟨t, rfl⟩, ⟨t', rfl⟩⟩ := vals2 r
  refine min_two_ints (I.ok.hd hc) fun h' tk k => ⟨_, H, I.kept k, ?_, q⟩
  by_cases hj : j < i
  · rw [if_pos hj, if_pos hj]; exact ⟨_, rfl⟩
  · rw [if_neg hj, if_neg hj]; exact ⟨_, rfl⟩
theorem call_int1 : CallR X (.type "int") (fun xs H Q => (∃ i, xs = [.int i] ∧ Q (.int i) H) ∨ ∃ k, xs = [.bl k] ∧ Q (.int (if k then 1 else 0)) H) := by
  intro pins s σ H xs us Q I r h
  rcases h with ⟨i, rfl, q⟩ | ⟨k, rfl, q⟩
  · obtain ⟨u, rfl, t, rfl⟩ := vals1 r
    exact call_int_int ⟨.int i, H, I, ⟨_, rfl⟩, q⟩
  · obtain ⟨u, rfl, r1⟩ := vals1 r
    cases r1
    exact call_int_bool ⟨.int (if k then 1 else 0), H, I.tok _, ⟨_, rfl⟩, q⟩
end
end L2

namespace L2
open PySem PySem.Spec PyProof.Rows

/-! ### an instance, its attributes a map -/
structure ObjM (h : Heap) (x dx C : Addr) (mA : Str → Option Value) : Prop where
  obj : h.get? x = some (PySem.W.instObj C dx)
  ns : h.Ns1 dx mA
  ne : dx ≠ x

theorem lookIn_ns {h : Heap} {dx : Addr} {mA : Str → Option Value} (n : h.Ns1 dx mA) : ∃ od, h.get? dx = some od ∧ ∀ name, PySem.W.lookIn name od = some (mA name) := by
  obtain ⟨o, es, ep, ho, hd, hk, _, hm⟩ := n
  refine ⟨o, ho, fun name => ?_⟩
  have e := hm name
  unfold nsFind findBy at e
  rw [← Array.find?_toList] at e
  unfold PySem.W.lookIn
  rw [hd]
  dsimp only
  split
  · rename_i y q
    rw [q] at e
    exact congrArg some e
  · rename_i q
    rw [q] at e
    have a : es.toList.any (·.refKey) = false := by
      rw [List.any_eq_false]
      intro y hy
      obtain ⟨z, t, hkey⟩ := hk y (Array.mem_toList_iff.mp hy)
      simp [DictEntry.refKey, hkey]
    have a' : ¬ es.toList.any (·.refKey) = true := by rw [a]; exact Bool.false_ne_true
    rw [if_neg a']
    exact congrArg some e

theorem ObjM.look {h : Heap} {x dx C : Addr} {mA : Str → Option Value} (I : ObjM h x dx C mA) : ∃ od, PySem.W.InstAt h x (PySem.W.instObj C dx) C (some od) ∧ ∀ name, PySem.W.lookIn name od = some (mA name) :=
  let ⟨od, ho, hl⟩ := lookIn_ns I.ns
  ⟨od, ⟨I.obj, rfl, rfl, ho⟩, hl⟩

section
variable {prog : Program} {w : World} {A : Around} {E : Value → Shared → Prop} {s : Shared} {K : PySem.W.Frag} {x dx C f : Addr} {mA : Str → Option Value} {name : Str} {v : Value}

theorem get_map {expr : Bool} {Q : Value → Shared → Prop} (X : K.In s.heap) (I : ObjM s.heap x dx C mA) (hg : PySem.W.plainGet K C name = true) (hh : PySem.W.hasDictIn K C = true)
    (ha : PySem.W.findIn K (.ref C) name = some none) (hv : mA name = some v) (hv' : PySem.W.handedIn v = true) (h : Q v { s with toks := s.toks + 1 }) :
    wpAny (model prog w) A (getAttr (.ref x) name expr) Q E s := by
  obtain ⟨od, J, hl⟩ := I.look
  exact PySem.W.get_value X J (PySem.W.plainGet_of hg).1 (PySem.W.findObj_own hh ha rfl (by rw [hl, hv])) hv' h

theorem get_meth {pl : Sem Bool} {Q : Value × List Value → Shared → Prop} (X : K.In s.heap) (I : ObjM s.heap x dx C mA) (hg : PySem.W.plainGet K C name = true)
    (hf : PySem.W.findIn K (.ref C) name = some (some (.ref f))) (ht : PySem.W.isFn K (.ref f) = true) (hv : mA name = none) (h : Q (.ref f, [.ref x]) s) :
    wpAny (model prog w) A (getMethod (.ref x) name pl) Q E s := by
  obtain ⟨od, J, hl⟩ := I.look
  exact PySem.W.method_fn X J (PySem.W.plainGet_of hg).1 (PySem.W.plainGet_of hg).2 hf (beq_iff_eq.mp ht) (by show (PySem.W.lookIn name od).map (·.isSome) = some false; rw [hl, hv]; rfl) h

theorem set_map {ns : List Str} {Q : Unit → Shared → Prop} (X : K.In s.heap) (I : ObjM s.heap x dx C mA)
    (hs : PySem.W.findIn K (.ref C) "__setattr__" = some (some (.builtin "object.__setattr__"))) (hp : PySem.W.plainOver K C = true) (ht : PySem.W.takerIn K C name = some none) (hh : PySem.W.hasDictIn K C = true)
    (hw : PySem.Within mA ns) (hsz : ns.length ≤ sizeLine)
    (h : ∀ h', ObjM h' x dx C (fun y => if y = name then some v else mA y) → Heap.SameBut dx s.heap h' → Q () { s with heap := h', toks := s.toks + 2 }) :
    wpAny (model prog w) A (setAttr (.ref x) name v) Q E s := by
  obtain ⟨od, J, hl⟩ := I.look
  refine PySem.W.set_plain X J hs (PySem.W.osa_open (s := { s with toks := s.toks + 1 }) (r := none) X J hp ht fun b => ?_)
  obtain ⟨cd, hc, hd'⟩ := PySem.W.any_some hh
  have hx : s.heap.get? x = some ⟨.ref C, some dx, .plain, #[]⟩ := I.obj
  refine wpAny_bind (wpAny_pure (wpAny_bind (wpAny_bind (wpAny_loadPart hx (wpAny_bind (PySem.W.Looks.here (s := { s with toks := s.toks + 1 }) (PySem.W.looks_clsIn X hc) ?_))))))
  rw [hd']
  refine wpAny_pure (a := some dx) (wpAny_bind (wpAny_pure (wpAny_bind ?_)))
  refine wpAny_nsSet1 (s := { s with toks := s.toks + 1 }) I.ns fun h' hn2 hs2 => ?_
  obtain ⟨oD, esD, epD, hoD, hdD, hcD⟩ := hn2.count (PySem.Within.cons name v hw)
  refine wpAny_bind (wpAny_lookBehind hoD (by rw [hdD]; exact pastItsLine_dict (Nat.le_trans hcD (by rw [List.length_cons]; omega))) ?_)
  exact wpAny_pure (h _ ⟨(hs2.2 _ (Ne.symm I.ne)).trans I.obj, hn2, I.ne⟩ hs2)

theorem make_map {R : Result → Shared → Prop} {vs : List Value} {kw : List (Str × Value)} (X : K.In s.heap) (hm : PySem.W.makesIn K C = true)
    (hi : PySem.W.findIn K (.ref C) "__init__" = some (some (.ref f))) (hf : PySem.W.typeIn K (.ref f) = some (.type "function"))
    (h : codeAny (model prog w) (A.under (.builtin "type.__call__" ⟨.ref C :: vs, kw⟩)) (.call (.ref f) ⟨.ref (s.heap.objs.size + 1) :: vs, kw⟩) (PySem.W.InitBack (s.heap.objs.size + 1) R)
      { s with heap := (s.heap.push PySem.W.emptyDict).push (PySem.W.instObj C s.heap.objs.size) }) :
    codeAny (model prog w) A (.call (.ref C) ⟨vs, kw⟩) R s := by
  obtain ⟨hh, g, d, t, os⟩ := s
  exact PySem.W.make_core (PySem.W.makes_of X hm) (PySem.W.looks_findIn X hi) (fun self => PySem.W.bind_fn X self hf) (.inl rfl) h
end

/-! ### the attributes as a list of pairs -/
def putF (f : Str) (v : V) : List (Str × V) → List (Str × V)
  | [] => [(f, v)]
  | (g, x) :: r => if g = f then (g, v) :: r else (g, x) :: putF f v r
theorem lookup_putF (f g : Str) (v : V) : ∀ fs : List (Str × V), (putF f v fs).lookup g = if g = f then some v else fs.lookup g
  | [] => by
    show List.lookup g [(f, v)] = _
    by_cases h : g = f
    · have hb : (g == f) = true := beq_iff_eq.mpr h
      simp only [List.lookup, hb, if_pos h]
    · have hb : (g == f) = false := beq_eq_false_iff_ne.mpr h
      simp only [List.lookup, hb, if_neg h]
  | (k, x) :: r => by
    have ih := lookup_putF f g v r
    rw [show putF f v ((k, x) :: r) = (if k = f then (k, v) :: r else (k, x) :: putF f v r) from rfl]
    by_cases hk : k = f
    · rw [if_pos hk]
      by_cases h : g = k
      · have hb : (g == k) = true := beq_iff_eq.mpr h
        simp only [List.lookup, hb, if_pos (h.trans hk)]
      · have hb : (g == k) = false := beq_eq_false_iff_ne.mpr h
        simp only [List.lookup, hb, if_neg (fun e : g = f => h (e.trans hk.symm))]
    · rw [if_neg hk]
      by_cases h : g = k
      · have hb : (g == k) = true := beq_iff_eq.mpr h
        simp only [List.lookup, hb, if_neg (fun e : g = f => hk (h.symm.trans e))]
      · have hb : (g == k) = false := beq_eq_false_iff_ne.mpr h
        simp only [List.lookup, hb]
        exact ih
theorem keys_putF (f : Str) (v : V) : ∀ fs : List (Str × V), f ∈ (putF f v fs).map (·.1) ∧ ∀ g, g ∈ fs.map (·.1) → g ∈ (putF f v fs).map (·.1)
  | [] => ⟨by simp [putF], fun g h => by simp at h⟩
  | (k, x) :: r => by
    obtain ⟨i1, i2⟩ := keys_putF f v r
    rw [show putF f v ((k, x) :: r) = (if k = f then (k, v) :: r else (k, x) :: putF f v r) from rfl]
    by_cases hk : k = f
    · rw [if_pos hk]
      subst hk
      exact ⟨by simp, fun g h => by simpa using h⟩
    · rw [if_neg hk]
      refine ⟨?_, fun g h => ?_⟩
      · rw [List.map_cons]
        exact List.mem_cons_of_mem _ i1
      · rw [List.map_cons] at h ⊢
        rcases List.mem_cons.mp h with e | e
        · exact List.mem_cons.mpr (.inl e)
        · exact List.mem_cons_of_mem _ (i2 g e)
theorem length_putF (f : Str) (v : V) : ∀ fs : List (Str × V), (putF f v fs).length ≤ fs.length + 1
  | [] => by simp [putF]
  | (k, x) :: r => by
    have ih := length_putF f v r
    rw [show putF f v ((k, x) :: r) = (if k = f then (k, v) :: r else (k, x) :: putF f v r) from rfl]
    by_cases hk : k = f
    · rw [if_pos hk, List.length_cons, List.length_cons]; omega
    · rw [if_neg hk, List.length_cons, List.length_cons]; omega

theorem RelO.some_of {v : V} {o : Option Value} (r : RelO (some v) o) : ∃ u, o = some u ∧ RelV v u := by
  cases o with
  | none => exact (show False from r).elim
  | some u => exact ⟨u, rfl, r⟩
theorem RelO.none_of {o : Option Value} (r : RelO none o) : o = none := by
  cases o with
  | none => rfl
  | some u => exact (show False from r).elim
theorem handed_of {v : V} {u : Value} (r : RelV v u) : PySem.W.handedIn u = true := by
  cases v with
  | non => cases (show u = Value.none from r); rfl
  | bl b => cases (show u = Value.bool b from r); rfl
  | int i => obtain ⟨t, e⟩ := (show ∃ t, u = Value.int i t from r); cases e; rfl
  | str x => obtain ⟨t, e⟩ := (show ∃ t, u = Value.str x t from r); cases e; rfl
  | byt b => obtain ⟨t, e⟩ := (show ∃ t, u = Value.bytes b t from r); cases e; rfl
  | flt b => obtain ⟨t, e⟩ := (show ∃ t, u = Value.float b t from r); cases e; rfl
  | ref a => cases (show u = Value.ref a from r); rfl
  | ty n => cases (show u = Value.type n from r); rfl

section
variable {P : Program} {w : World} {H H' : Hp} {h h' : Heap} {a C dx : Addr} {fs fs' : List (Str × V)}
theorem ins_get (hok : HOk P w H h) (e : H a = some (.ins C dx fs)) : ∃ mA, ObjM h a dx C mA ∧ (∀ f, RelO (fs.lookup f) (mA f)) ∧ PySem.Within mA (fs.map (·.1)) ∧ fs.length ≤ 1000 ∧ H dx = some (.own a) := by
  obtain ⟨d, z, ne, ob, mA, n, r, q⟩ := (show ObjOk P w H h a (.ins C dx fs) from hok a _ e)
  exact ⟨mA, ⟨ob, n, ne⟩, r, q, z, d⟩
end

/-! ### what of the text a class must have -/
structure Cls (K : PySem.W.Frag) (C : Addr) : Prop where
  pg : PySem.W.plainGet K C Str.empty = true
  hd : PySem.W.hasDictIn K C = true
  po : PySem.W.plainOver K C = true
  sa : PySem.W.findIn K (.ref C) "__setattr__" = some (some (.builtin "object.__setattr__"))
theorem Cls.get {K : PySem.W.Frag} {C : Addr} (c : Cls K C) (f : Str) : PySem.W.plainGet K C f = true := c.pg
def NoAttr (K : PySem.W.Frag) (C : Addr) (f : Str) : Prop := PySem.W.findIn K (.ref C) f = some none
theorem NoAttr.taker {K : PySem.W.Frag} {C : Addr} {f : Str} (n : NoAttr K C f) : PySem.W.takerIn K C f = some none := by
  unfold PySem.W.takerIn
  rw [show PySem.W.findIn K (.ref C) f = some none from n]
  rfl
structure Meth (K : PySem.W.Frag) (C : Addr) (m : Str) (f : Addr) : Prop where
  at_ : PySem.W.findIn K (.ref C) m = some (some (.ref f))
  fn : PySem.W.isFn K (.ref f) = true
  kp : PySem.W.keepIn K (.ref f) = true

section
variable {X : Cx} {pins : List (Addr × Obj)} {σ : St} {H : Hp} {s : Shared} {a C dx : Addr} {fs : List (Str × V)} {f : Str} {v : V} {A : Around} {E : Value → Shared → Prop}

theorem getattr_ok {b : Bool} {Q : Value → Shared → Prop} (I : Inv X pins σ H s) (e : H a = some (.ins C dx fs)) (c : Cls X.K C) (n : NoAttr X.K C f) (l : fs.lookup f = some v)
    (h : ∀ u s', Inv X pins σ H s' → RelV v u → Q u s') : wpAny (model X.prog X.w) A (getAttr (.ref a) f b) Q E s := by
  obtain ⟨mA, O, r, _, _, _⟩ := ins_get I.hok e
  obtain ⟨u, hu, ru⟩ := RelO.some_of (v := v) (o := mA f) (by rw [← l]; exact r f)
  exact get_map I.kIn O (c.get f) c.hd n hu (handed_of ru) (h u _ (I.tok _) ru)

theorem getmeth_ok {m : Str} {g : Addr} {pl : Sem Bool} {Q : Value × List Value → Shared → Prop} (I : Inv X pins σ H s) (e : H a = some (.ins C dx fs)) (c : Cls X.K C) (k : Meth X.K C m g) (l : fs.lookup m = none)
    (h : Q (.ref g, [.ref a]) s) : wpAny (model X.prog X.w) A (getMethod (.ref a) m pl) Q E s := by
  obtain ⟨mA, O, r, _, _, _⟩ := ins_get I.hok e
  have hn : mA m = none := RelO.none_of (by rw [← l]; exact r m)
  exact get_meth I.kIn O (c.get m) k.at_ k.fn hn h

theorem setattr_ok {y : V} {u : Value} {Q : Unit → Shared → Prop} (I : Inv X pins σ H s) (e : H a = some (.ins C dx fs)) (c : Cls X.K C) (n : NoAttr X.K C f) (hl : fs.length < 1000) (ry : RelV y u)
    (h : ∀ s', Inv X pins σ (upd H a (.ins C dx (putF f y fs))) s' → Q () s') : wpAny (model X.prog X.w) A (setAttr (.ref a) f u) Q E s := by
  obtain ⟨mA, O, r, wi, _, ho⟩ := ins_get I.hok e
  have hz : (fs.map (·.1)).length ≤ sizeLine := by rw [List.length_map, sizeLine_eq]; omega
  refine set_map I.kIn O c.sa c.po n.taker c.hd wi hz fun h' O' sb => h _ ?_
  have hd : ∃ o, h'.get? dx = some o := let ⟨o, _, _, e', _⟩ := O'.ns; ⟨o, e'⟩
  refine I.write (x := a) (e := dx) (by rw [e]; exact True.intro) (.inr ho) (fun b q hb z => (sb.2 b hb).trans z) hd ?_
  refine ⟨by rw [upd_ne O.ne]; exact ho, ?_, O.ne, O'.obj, _, O'.ns, fun g => ?_, fun g hg => ?_⟩
  · have := length_putF f y fs; omega
  · show RelO ((putF f y fs).lookup g) (if g = f then some u else mA g)
    rw [lookup_putF]
    by_cases q : g = f
    · rw [if_pos q, if_pos q]; exact ry
    · rw [if_neg q, if_neg q]; exact r g
  · by_cases q : g = f
    · rw [q]; exact (keys_putF f y fs).1
    · refine (keys_putF f y fs).2 g (wi g fun z => hg ?_)
      show (if g = f then some u else mA g) = none
      rw [if_neg q]; exact z

theorem Inv.made (I : Inv X pins σ H s) : Inv X pins σ (upd (upd H s.heap.objs.size (.own (s.heap.objs.size + 1))) (s.heap.objs.size + 1) (.ins C s.heap.objs.size []))
    { s with heap := (s.heap.push PySem.W.emptyDict).push (PySem.W.instObj C s.heap.objs.size) } := by
  have e1 : (s.heap.push PySem.W.emptyDict).get? s.heap.objs.size = some PySem.W.emptyDict := Heap.get?_push_size s.heap rfl
  have e2 : ((s.heap.push PySem.W.emptyDict).push (PySem.W.instObj C s.heap.objs.size)).get? (s.heap.objs.size + 1) = some (PySem.W.instObj C s.heap.objs.size) := by
    have := Heap.get?_push_size (s.heap.push PySem.W.emptyDict) (o := PySem.W.instObj C s.heap.objs.size) rfl
    rwa [Heap.size_push] at this
  have e3 : (s.heap.push PySem.W.emptyDict).Ns s.heap.objs.size (fun _ => none) := ⟨PySem.W.emptyDict, #[], _, e1, rfl, (fun e he => absurd he (by simp)), fun _ => rfl⟩
  have I1 := I.laid (a := s.heap.objs.size) (o := .own (s.heap.objs.size + 1)) (h' := s.heap.push PySem.W.emptyDict) (t' := s.toks) (fun b u q => Heap.get?_push_of_some _ q) (Nat.le_refl _) ⟨_, e1⟩
  refine I1.laid (a := s.heap.objs.size + 1) (o := .ins C s.heap.objs.size []) (t' := s.toks) (fun b u q => Heap.get?_push_of_some _ q) (Nat.le_of_eq (Heap.size_push _ _)) ?_
  have ne : s.heap.objs.size ≠ s.heap.objs.size + 1 := Nat.ne_of_lt (Nat.lt_succ_self _)
  refine ⟨by rw [upd_ne ne, upd_same], Nat.zero_le _, ne, e2, fun _ => none, (Heap.Ns1.of_empty e3).at fun o q => Heap.get?_push_of_some _ q, fun _ => True.intro, fun y hy => absurd rfl hy⟩

theorem attr_of {prog : Program} {w : World} {env : Env} {e : Expr} {f : Str} {pos : Pos} {s : Shared} {Q : Value → Shared → Prop} (hb : attributeBase e f env (eval e env) = eval e env)
    (h : wpAny (model prog w) A (eval e env) (fun o s₁ => wpAny (model prog w) A (getAttr o f true) Q E s₁) E s) : wpAny (model prog w) A (eval (.Attribute e f pos) env) Q E s :=
  Attribute_any_ h (by rw [arm_eval_Attribute, hb])
end

/-! ### readings and rules -/
def tFld (K : PySem.W.Frag) (ta : TE) (f : Str) : TE := fun σ H Q => ta σ H fun x H1 => ∃ a C dx fs v, x = .ref a ∧ H1 a = some (.ins C dx fs) ∧ Cls K C ∧ NoAttr K C f ∧ fs.lookup f = some v ∧ Q v H1
def sFld (K : PySem.W.Frag) (ta tv : TE) (f : Str) : TS := fun D σ H => tv σ H fun y H1 => ta σ H1 fun x H2 => ∃ a C dx fs, x = .ref a ∧ H2 a = some (.ins C dx fs) ∧ Cls K C ∧ NoAttr K C f ∧ fs.length < 1000 ∧
  D.nx σ (upd H2 a (.ins C dx (putF f y fs)))
section
variable {X : Cx} {o e value : Expr} {f : Str} {pos pos' tpos : Pos} {ta tv : TE}
theorem pe_fld (he : PE X e ta) (hb : attributeBase e f X.env (eval e X.env) = eval e X.env) : PE X (.Attribute e f pos) (tFld X.K ta f) := by
  intro pins s σ H Q I h
  refine attr_of hb (thn (he s σ H _ I h) fun u s1 ⟨x, H1, I1, rx, a, C, dx, fs, v, ex, ea, c, n, l, q⟩ => ?_)
  subst ex
  obtain rfl : u = Value.ref a := rx
  exact getattr_ok I1 ea c n l fun u' s2 I2 ru => ⟨v, H1, I2, ru, q⟩
theorem ps_fld (ha : PE X o ta) (hv : PE X value tv) (hs : swapsWith value (some (.Attribute o f pos')) pos.line X.env = pure false) : PS X (.Assign [.Attribute o f pos'] value pos) (sFld X.K ta tv f) := by
  intro pins s σ H D I h
  refine plainObj_wpAny_Assign_Attribute (thn (hv s σ H _ I h) fun u s1 ⟨y, H1, I1, ry, q⟩ => thn (ha s1 σ H1 _ I1 q) fun ov s2 ⟨x, H2, I2, rx, a, C, dx, fs, ex, ea, c, n, l, q2⟩ => ?_) hs
  subst ex
  obtain rfl : ov = Value.ref a := rx
  exact setattr_ok I2 ea c n l ry fun s3 I3 => ⟨σ, _, I3, q2⟩
theorem methcall_of {pl : Sem Bool} {m : Str} {apos : Pos} {args : List Expr} {pins : List (Addr × Obj)} {s : Shared} {σ : St} {H : Hp} {Q : Value → Shared → Prop} {te : TE} (he : PE X e te) (I : Inv X pins σ H s)
    (h : te σ H fun x H1 => ∃ a C dx fs g, x = .ref a ∧ H1 a = some (.ins C dx fs) ∧ Cls X.K C ∧ Meth X.K C m g ∧ fs.lookup m = none ∧
      ∀ s1, Inv X pins σ H1 s1 → wpAny (model X.prog X.w) X.A (callWith pos (.ref g) [.ref a] (backTo pos (starEach args X.env)) (backToKw pos (keywordEach [] X.env))) Q X.xe s1)
    (ht : eval (.Call (.Attribute e m apos) args [] pos) X.env = (do
      let ov ← eval e X.env
      standAt apos.atName
      let (f, first) ← holding [ov] (getMethod ov m pl)
      callWith pos f first (backTo pos (starEach args X.env)) (backToKw pos (keywordEach [] X.env)))) :
    wpAny (model X.prog X.w) X.A (eval (.Call (.Attribute e m apos) args [] pos) X.env) Q X.xe s := by
  refine PySem.W.methodCall_KW (pl := pl) (thn (he s σ H _ I h) fun u s1 ⟨x, H1, I1, rx, a, C, dx, fs, g, ex, ea, c, k, l, q⟩ => ?_) ht
  subst ex
  obtain rfl : u = Value.ref a := rx
  exact getmeth_ok I1 ea c k l (q s1 I1)
end

/-! ### isinstance -/
section
variable {X : Cx} {pins : List (Addr × Obj)} {σ : St} {H : Hp} {s : Shared} {A : Around} {E : Value → Shared → Prop} {Q : Value → Shared → Prop} {c : Value} {b : Bool}
inductive TyOf (K : PySem.W.Frag) (H : Hp) : V → Value → Prop where
  | non : TyOf K H .non (.type "NoneType")
  | bl (x : Bool) : TyOf K H (.bl x) (.type "bool")
  | int (i : Int) : TyOf K H (.int i) (.type "int")
  | str (x : Str) : TyOf K H (.str x) (.type "str")
  | flt (x : UInt64) : TyOf K H (.flt x) (.type "float")
  | lst {a : Addr} {xs : List V} (e : H a = some (.lst xs)) : TyOf K H (.ref a) (.type "list")
  | frz {a : Addr} {o : Obj} {xs : List V} (e : H a = some (.frz o (.lst xs))) : TyOf K H (.ref a) (.type "list")
  | tup {a : Addr} {xs : List V} (e : H a = some (.tup xs)) : TyOf K H (.ref a) (.type "tuple")
  | dK {a : Addr} {kvs : List (Key × V)} (e : H a = some (.dK kvs)) : TyOf K H (.ref a) (.type "dict")
  | dT {a : Addr} {kvs : List (List Key × V)} (e : H a = some (.dT kvs)) : TyOf K H (.ref a) (.type "dict")
  | ins {a C dx : Addr} {fs : List (Str × V)} (e : H a = some (.ins C dx fs)) (cl : Cls K C) (ha : PySem.W.findIn K (.ref C) "__class__" = some (some (.builtin "object.__class__")))
      (hn : PySem.W.specialIn K (.builtin "object.__class__") "__get__" = some (some (.builtin "getset_descriptor.__get__"))) (htk : PySem.W.takesIn K (.builtin "object.__class__") = some true)
      (hm : PySem.W.mroIn K C (.type "object") = some true) : TyOf K H (.ref a) (.ref C)
theorem isinst_ok {x : V} {u t : Value} (I : Inv X pins σ H s) (rx : RelV x u) (ty : TyOf X.K H x t) (e : PySem.W.kitOne X.K t c = some b) (h : ∀ tk, Q (.bool b) { s with toks := tk }) :
    wpAny (model X.prog X.w) A (call (.builtin "isinstance") [u, c]) Q E s := by
  cases ty with
  | non => cases (show u = Value.none from rx); exact PySem.W.kia_one PySem.W.kitx_none I.kIn True.intro e (fun z => nomatch z) h
  | bl y => cases (show u = Value.bool y from rx); exact PySem.W.kia_one PySem.W.kitx_bool I.kIn True.intro e (fun z => nomatch z) h
  | int i => obtain ⟨t, q⟩ := (show ∃ t, u = Value.int i t from rx); cases q; exact PySem.W.kia_one PySem.W.kitx_int I.kIn True.intro e (fun z => nomatch z) h
  | str y => obtain ⟨t, q⟩ := (show ∃ t, u = Value.str y t from rx); cases q; exact PySem.W.kia_one PySem.W.kitx_str I.kIn True.intro e (fun z => nomatch z) h
  | flt y => obtain ⟨t, q⟩ := (show ∃ t, u = Value.float y t from rx); cases q; exact PySem.W.kia_one PySem.W.kitx_float I.kIn True.intro e (fun z => nomatch z) h
  | @lst a xs ea =>
    cases (show u = Value.ref a from rx)
    obtain ⟨_, _, n, _, h1⟩ := (show ObjOk X.prog X.w H s.heap a (.lst xs) from I.hok a _ ea)
    exact PySem.W.kia_one PySem.W.kitx_list I.kIn ⟨_, h1, rfl⟩ e (fun z => nomatch z) h
  | @frz a ob xs ea =>
    cases (show u = Value.ref a from rx)
    obtain ⟨_, _, _, n, _, h1⟩ := (show ObjOk X.prog X.w H s.heap a (.frz ob (.lst xs)) from I.hok a _ ea)
    exact PySem.W.kia_one PySem.W.kitx_list I.kIn ⟨_, h1, rfl⟩ e (fun z => nomatch z) h
  | @tup a xs ea =>
    cases (show u = Value.ref a from rx)
    obtain ⟨_, _, _, p⟩ := (show ObjOk X.prog X.w H s.heap a (.tup xs) from I.hok a _ ea)
    obtain ⟨o, h1, h2, _⟩ := p
    exact PySem.W.kia_one PySem.W.kitx_tuple I.kIn ⟨o, h1, h2⟩ e (fun z => nomatch z) h
  | @dK a kvs ea =>
    cases (show u = Value.ref a from rx)
    obtain ⟨_, _, vs, _, p⟩ := (show ObjOk X.prog X.w H s.heap a (.dK kvs) from I.hok a _ ea)
    obtain ⟨o, es, ep, h1, h2, _⟩ := p
    exact PySem.W.kia_one PySem.W.kitx_dict I.kIn ⟨o, h1, h2.1⟩ e (fun z => nomatch z) h
  | @dT a kvs ea =>
    cases (show u = Value.ref a from rx)
    obtain ⟨_, _, xs, _, o, es, ep, h1, h2, _⟩ := (show ObjOk X.prog X.w H s.heap a (.dT kvs) from I.hok a _ ea)
    exact PySem.W.kia_one PySem.W.kitx_dict I.kIn ⟨o, h1, h2.1⟩ e (fun z => nomatch z) h
  | @ins a C dx fs ea cl ha hn htk hm =>
    cases (show u = Value.ref a from rx)
    obtain ⟨mA, O, _⟩ := ins_get I.hok ea
    obtain ⟨od, J, _⟩ := O.look
    exact PySem.W.kia_one (PySem.W.kitx_own (cl.get _) cl.hd ha hn htk hm) I.kIn J e (fun z => nomatch z) h
end
end L2

namespace L2
open PySem PySem.Spec PyProof.Rows

/-! ### room -/
structure Room (k : Nat) (A : Around) : Prop where
  hd : A.handled = none
  dp : A.depth + 3 * k + 5 < recursionLimit
  un : A.units + 16 * k + 200 < cLine
theorem Room.mono {j k : Nat} {A : Around} (r : Room k A) (h : j ≤ k) : Room j A := ⟨r.hd, by have := r.dp; omega, by have := r.un; omega⟩
theorem Room.deeper {k : Nat} {A : Around} (r : Room (k + 1) A) (env : Env) : Room k (A.deeper env) :=
  ⟨r.hd, by have := r.dp; show A.depth + 1 + 3 * k + 5 < _; omega, by have := r.un; show A.units + 3 + 16 * k + 200 < _; omega⟩
theorem make_depth {A : Around} {C : Addr} {us : List Value} {kw : List (Str × Value)} : (A.under (.builtin "type.__call__" ⟨.ref C :: us, kw⟩)).depth = A.depth + 1 := by
  first | rfl | simp [Around.under, Code.weight, Code.isCreation, Code.isGuard, Code.isCaller, Code.frames, Code.isFrame, guardIds]
theorem make_units {A : Around} {C : Addr} {us : List Value} {kw : List (Str × Value)} : (A.under (.builtin "type.__call__" ⟨.ref C :: us, kw⟩)).units = A.units + 1 := by
  first | rfl | simp [Around.under, Code.cUnits, Code.frames, Code.isFrame]
theorem Room.make {k : Nat} {A : Around} (r : Room (k + 1) A) (C : Addr) (us : List Value) (kw : List (Str × Value)) : Room k (A.under (.builtin "type.__call__" ⟨.ref C :: us, kw⟩)) :=
  ⟨r.hd, by have := r.dp; rw [make_depth]; omega, by have := r.un; rw [make_units]; omega⟩
theorem Room.depth {k : Nat} {A : Around} (r : Room k A) : A.depth < recursionLimit := by have := r.dp; omega
theorem Room.units {k : Nat} {A : Around} (r : Room k A) : A.units + 64 < cLine := by have := r.un; omega
/-! ### argument lists and displays -/
def tNil : TA := fun _ H Q => Q [] H
def tCons (ta : TE) (tr : TA) : TA := fun σ H Q => ta σ H fun x H1 => tr σ H1 fun xs H2 => Q (x :: xs) H2
section
variable {X : Cx} {e : Expr} {es : List Expr} {te : TE} {t : TA} {pos : Pos}
theorem pa_nil : PA X [] tNil := fun _ _ _ _ H Q I h => Calls.spliced_nil ⟨[], H, I, .nil, h⟩
theorem pa_cons (ha : PE X e te) (hr : PA X es t) (hs : starEach (e :: es) X.env = (false, eval e X.env) :: starEach es X.env := by rfl) : PA X (e :: es) (tCons te t) := by
  intro pins pos s σ H Q I h
  rw [hs]
  show wpAny _ _ (spliced ((false, eval e X.env) :: backTo pos (starEach es X.env))) _ _ s
  refine Calls.spliced_cons (thn (ha s σ H _ I h) fun u s1 ⟨x, H1, I1, r1, q1⟩ => ?_)
  exact thn (hr pos s1 σ H1 _ I1 q1) fun us s2 ⟨xs, H2, I2, r2, q2⟩ => ⟨x :: xs, H2, I2, .cons r1 r2, q2⟩

def tTup (t : TA) : TE := fun σ H Q => t σ H fun xs H1 => xs.length ≤ sizeLine ∧ ∀ p, H1 p = none → Q (.ref p) (upd H1 p (.tup xs))
def tLst (t : TA) : TE := fun σ H Q => t σ H fun xs H1 => xs.length ≤ sizeLine ∧ ∀ p, H1 p = none → Q (.ref p) (upd H1 p (.lst xs))
theorem pe_tup {x1} (h : PA X es t) : PE X (.Tuple es x1 pos) (tTup t) := by
  intro pins s σ H Q I hq
  refine wpAny_Tuple_spliced (thn (h pos s σ H _ I hq) fun us s1 ⟨xs, H1, I1, r, z, q⟩ => ⟨by rw [← r.length]; exact z, ?_⟩)
  have hf : H1 s1.heap.objs.size = none := I1.hok.fresh (Nat.le_refl _)
  refine ⟨.ref s1.heap.objs.size, upd H1 s1.heap.objs.size (.tup xs), I1.laid (t' := s1.toks) (fun b u e => Heap.get?_push_of_some _ e) (Nat.le_refl _) ?_, rfl, q _ hf⟩
  exact ⟨z, us, r, ⟨_, Heap.get?_push_size _ rfl, rfl, _, rfl⟩⟩
theorem pe_lst (h : PA X es t) : PE X (.List es pos) (tLst t) := by
  intro pins s σ H Q I hq
  refine wpAny_List_spliced (thn (h pos s σ H _ I hq) fun us s1 ⟨xs, H1, I1, r, z, q⟩ => ⟨by rw [← r.length]; exact z, ?_⟩)
  have hf : H1 s1.heap.objs.size = none := I1.hok.fresh (Nat.le_refl _)
  refine ⟨.ref s1.heap.objs.size, upd H1 s1.heap.objs.size (.lst xs), I1.laid (t' := s1.toks) (fun b u e => Heap.get?_push_of_some _ e) (Nat.le_refl _) ?_, rfl, q _ hf⟩
  exact ⟨z, us, 0, r, Heap.get?_push_size _ rfl⟩
end

/-! ### what a def promises -/
abbrev Sp := List V → Hp → VK → XK → Prop
abbrev CXT := List Env → Hp → Shared → XK → Value → Shared → Prop

structure Env0 (P : Program) (w : World) (K : PySem.W.Frag) (mg : Str → Option Value) (base : Heap) (A : Around) (outer : List Env) (s : Shared) (H : Hp) : Prop where
  frames : A.frames = some outer
  mod : Mod K mg base
  bs : ∀ b o, base.get? b = some o → s.heap.get? b = some o ∧ H b = none
  bsz : base.objs.size ≤ s.heap.objs.size
  funs : s.heap.FunFrames base outer
  frf : ∀ b ∈ frs outer, H b = none
  hok : HOk P w H s.heap
  bare : AllBare s.gens
def CE (outer : List Env) (P : Program) (w : World) (H : Hp) (s : Shared) (Q : VK) (u : Value) (s' : Shared) : Prop :=
  ∃ v H', s'.os = s.os ∧ AllBare s'.gens ∧ Un (frs outer) [] H H' s.heap s'.heap ∧ HOk P w H' s'.heap ∧ RelV v u ∧ Q v H'
def CR (CX : CXT) (outer : List Env) (P : Program) (w : World) (H : Hp) (s : Shared) (Q : VK) (E : XK) (r : Result) (s' : Shared) : Prop :=
  match r with
  | .ok (.ret u) => CE outer P w H s Q u s'
  | .ok _ => False
  | .error e => CX outer H s E e s'
structure FnOk (P : Program) (w : World) (K : PySem.W.Frag) (mg : Str → Option Value) (base : Heap) (CX : CXT) (k : Nat) (f : Addr) (fd : FuncData) (ps : List Str) (sp : Sp) : Prop where
  len : ∀ vs H Q E, sp vs H Q E → vs.length = ps.length
  run : ∀ (A : Around) (outer : List Env) (s : Shared) (H : Hp) (args : Args) (us : List Value) (vs : List V) (Q : VK) (E : XK), Room k A → Env0 P w K mg base A outer s H → BindsTo s fd args (ps.zip us) → Vals vs us → sp vs H Q E →
    codeAny (model P w) A (.call (.ref f) args) (CR CX outer P w H s Q E) s
theorem Env0.make {P : Program} {w : World} {K : PySem.W.Frag} {mg : Str → Option Value} {base : Heap} {A : Around} {outer : List Env} {s : Shared} {H : Hp} (e : Env0 P w K mg base A outer s H) (C : Addr) (us : List Value) (kw : List (Str × Value)) :
    Env0 P w K mg base (A.under (.builtin "type.__call__" ⟨.ref C :: us, kw⟩)) outer s H := ⟨by first | exact e.frames | (simpa [Around.under, Code.envs, Code.isFrame, pushEnvs] using e.frames), e.mod, e.bs, e.bsz, e.funs, e.frf, e.hok, e.bare⟩
section
variable {X : Cx} {pins : List (Addr × Obj)} {σ : St} {H : Hp} {s s' : Shared}
theorem Inv.env0 (I : Inv X pins σ H s) : Env0 X.prog X.w X.K X.mg X.base X.A X.stack s H :=
  ⟨I.ok.frames, I.ok.mod, I.bs, Nat.le_trans I.ok.bsz I.sz, I.stack, I.stkFree, I.hok, I.bare⟩
theorem Inv.after {Q : VK} {u : Value} (I : Inv X pins σ H s) (h : CE X.stack X.prog X.w H s Q u s') : EP X pins σ Q u s' := by
  obtain ⟨v, H', os, bare, un, hok, r, q⟩ := h
  obtain ⟨hh, g, d, t, os'⟩ := s'
  obtain rfl : os' = s.os := os
  exact ⟨v, H', I.call (h' := hh) (g' := g) (d' := d) (t' := t) (ch := []) un hok bare (fun b z => absurd z (by simp)), r, q⟩
end

/-! ### calls -/
def tCall (sp : Sp) (dvs : List V) (E : XK) (t : TA) : TE := fun σ H Q => t σ H fun vs H1 => sp (vs ++ dvs) H1 Q E
def tMeth (C : Addr) (m : Str) (sp : Sp) (dvs : List V) (E : XK) (ta : TE) (t : TA) : TE := fun σ H Q => ta σ H fun x H1 => ∃ a dx fs, x = .ref a ∧ H1 a = some (.ins C dx fs) ∧ fs.lookup m = none ∧
  t σ H1 fun vs H2 => sp (x :: (vs ++ dvs)) H2 Q E
def tMake (C : Addr) (sp : Sp) (dvs : List V) (E : XK) (t : TA) : TE := fun σ H Q => t σ H fun vs H1 => ∀ x dx, H1 x = none → H1 dx = none → dx ≠ x →
  sp (.ref x :: (vs ++ dvs)) (upd (upd H1 dx (.own x)) x (.ins C dx [])) (fun v H2 => v = .non ∧ Q (.ref x) H2) E

def Binds (K : PySem.W.Frag) (fd : FuncData) (ps : List Str) (ds : List Value) : Prop :=
  ∀ (s : Shared) (us : List Value), K.In s.heap → (us ++ ds).length = ps.length → BindsTo s fd ⟨us, []⟩ (ps.zip (us ++ ds))
theorem Binds.all {K : PySem.W.Frag} {fd : FuncData} {ps : List Str} (h : ∀ us : List Value, us.length = ps.length → bindArgs fd ⟨us, []⟩ = pure (ps.zip us)) : Binds K fd ps [] := fun s us _ hl => by
  rw [List.append_nil] at hl ⊢
  exact .of_eq (h us hl)

def Passes (CX : CXT) (X : Cx) (E : XK) : Prop := ∀ (pins : List (Addr × Obj)) (σ : St) (H : Hp) (s : Shared) (e : Value) (s' : Shared), Inv X pins σ H s → CX X.stack H s E e s' → X.xe e s'

section
variable {X : Cx} {CX : CXT} {k : Nat} {f C : Addr} {fd : FuncData} {ps : List Str} {sp : Sp} {dvs : List V} {ds : List Value} {E : XK} {x m : Str} {p pos apos : Pos} {e o : Expr} {es : List Expr} {ta : TE} {t : TA}

theorem run_fn {pins : List (Addr × Obj)} {σ : St} {H : Hp} {s : Shared} {Q : VK} {us : List Value} {vs : List V} (F : FnOk X.prog X.w X.K X.mg X.base CX k f fd ps sp) (hr : Room k X.A) (hb : Binds X.K fd ps ds) (hd : Vals dvs ds) (hx : Passes CX X E)
    (I : Inv X pins σ H s) (r : Vals vs us) (h : sp (vs ++ dvs) H Q E) : wpAny (model X.prog X.w) X.A (call (.ref f) us) (EP X pins σ Q) X.xe s := by
  have r2 : Vals (vs ++ dvs) (us ++ ds) := r.append hd
  have hl : (us ++ ds).length = ps.length := by rw [← r2.length]; exact F.len _ _ _ _ h
  refine wpAny_call (codeAny_mono (F.run X.A X.stack s H ⟨us, []⟩ (us ++ ds) (vs ++ dvs) Q E hr I.env0 (hb s us I.kIn hl) r2 h) fun r s' hq => ?_)
  cases r with
  | error e => exact hx pins σ H s e s' I hq
  | ok fl =>
    cases fl with
    | ret u => exact I.after hq
    | next => exact False.elim hq
    | brk => exact False.elim hq
    | cont => exact False.elim hq

theorem pe_call (F : FnOk X.prog X.w X.K X.mg X.base CX k f fd ps sp) (hr : Room k X.A) (hg : Gl X x) (hm : X.mg x = some (.ref f)) (hk : PySem.W.keepIn X.K (.ref f) = true) (hb : Binds X.K fd ps ds) (hd : Vals dvs ds) (hx : Passes CX X E)
    (ha : PA X (e :: es) t) (hdb : (x == ("__debug__" : Str)) = false := by decide) (he : starEach (e :: es) X.env = (false, eval e X.env) :: starEach es X.env := by rfl) (hpl : (backTo pos (starEach es X.env)).any (·.1) = false := by rfl) :
    PE X (.Call (.Name x p) (e :: es) [] pos) (tCall sp dvs E t) := by
  intro pins s σ H Q I h
  refine wpAny_Call_Name_kw (ld_glob I hg hm ?_ hdb)
  refine PySem.W.callWith_K (h₀ := X.base) I.ok.mod.kin hk (thn (ha pos s σ H _ I h) fun us s1 ⟨vs, H1, I1, r, q⟩ => ⟨I1.kIn, ?_⟩) he hpl
  exact run_fn F hr hb hd hx I1 r q
theorem pe_meth {pl : Sem Bool} (he : PE X o ta) (c : Cls X.K C) (hm : Meth X.K C m f) (F : FnOk X.prog X.w X.K X.mg X.base CX k f fd ps sp) (hr : Room k X.A) (hb : Binds X.K fd ps ds) (hd : Vals dvs ds) (hx : Passes CX X E) (ha : PA X (e :: es) t)
    (hst : starEach (e :: es) X.env = (false, eval e X.env) :: starEach es X.env := by rfl) (hpl : (backTo pos (starEach es X.env)).any (·.1) = false := by rfl)
    (ht : eval (.Call (.Attribute o m apos) (e :: es) [] pos) X.env = (do
      let ov ← eval o X.env
      standAt apos.atName
      let (f, first) ← holding [ov] (getMethod ov m pl)
      callWith pos f first (backTo pos (starEach (e :: es) X.env)) (backToKw pos (keywordEach [] X.env))) := by rfl) :
    PE X (.Call (.Attribute o m apos) (e :: es) [] pos) (tMeth C m sp dvs E ta t) := by
  intro pins s σ H Q I h
  refine PySem.W.methodCall_KW (pl := pl) (thn (he s σ H _ I h) fun u s1 ⟨x, H1, I1, rx, a, dx, fs, ex, ea, l, q⟩ => ?_) ht
  subst ex
  obtain rfl : u = Value.ref a := rx
  refine getmeth_ok I1 ea c hm l ?_
  refine PySem.W.callWith_K (first := [.ref a]) (h₀ := X.base) I.ok.mod.kin hm.kp (thn (ha pos s1 σ H1 _ I1 q) fun us s2 ⟨vs, H2, I2, r, q2⟩ => ⟨I2.kIn, ?_⟩) hst hpl
  exact run_fn (us := .ref a :: us) (vs := .ref a :: vs) F hr hb hd hx I2 (.cons rfl r) q2
theorem pe_meth0 {pl : Sem Bool} (he : PE X o ta) (c : Cls X.K C) (hm : Meth X.K C m f) (F : FnOk X.prog X.w X.K X.mg X.base CX k f fd ps sp) (hr : Room k X.A) (hb : Binds X.K fd ps ds) (hd : Vals dvs ds) (hx : Passes CX X E)
    (ht : eval (.Call (.Attribute o m apos) [] [] pos) X.env = (do
      let ov ← eval o X.env
      standAt apos.atName
      let (f, first) ← holding [ov] (getMethod ov m pl)
      callWith pos f first (backTo pos (starEach [] X.env)) (backToKw pos (keywordEach [] X.env))) := by rfl) :
    PE X (.Call (.Attribute o m apos) [] [] pos) (tMeth C m sp dvs E ta tNil) := by
  intro pins s σ H Q I h
  refine PySem.W.methodCall_KW (pl := pl) (thn (he s σ H _ I h) fun u s1 ⟨x, H1, I1, rx, a, dx, fs, ex, ea, l, q⟩ => ?_) ht
  subst ex
  obtain rfl : u = Value.ref a := rx
  refine getmeth_ok I1 ea c hm l ?_
  exact PySem.W.callWith_K0 (first := [.ref a]) I1.kIn hm.kp (run_fn (us := [.ref a]) (vs := [.ref a]) F hr hb hd hx I1 (.cons rfl .nil) q)

structure Mk (K : PySem.W.Frag) (C f : Addr) : Prop where
  makes : PySem.W.makesIn K C = true
  init : PySem.W.findIn K (.ref C) "__init__" = some (some (.ref f))
  fn : PySem.W.isFn K (.ref f) = true
  kp : PySem.W.keepIn K (.ref C) = true

theorem run_make {pins : List (Addr × Obj)} {σ : St} {H : Hp} {s : Shared} {Q : VK} {us : List Value} {vs : List V} (M : Mk X.K C f) (F : FnOk X.prog X.w X.K X.mg X.base CX k f fd ps sp) (hr : Room (k + 1) X.A) (hb : Binds X.K fd ps ds) (hd : Vals dvs ds)
    (hx : Passes CX X E) (I : Inv X pins σ H s) (r : Vals vs us)
    (h : ∀ x dx, H x = none → H dx = none → dx ≠ x → sp (.ref x :: (vs ++ dvs)) (upd (upd H dx (.own x)) x (.ins C dx [])) (fun v H2 => v = .non ∧ Q (.ref x) H2) E) :
    wpAny (model X.prog X.w) X.A (call (.ref C) us) (EP X pins σ Q) X.xe s := by
  have hq := h (s.heap.objs.size + 1) s.heap.objs.size (I.hok.fresh (Nat.le_succ _)) (I.hok.fresh (Nat.le_refl _)) (Nat.ne_of_lt (Nat.lt_succ_self _))
  have I2 := Inv.made (C := C) I
  have r2 : Vals (V.ref (s.heap.objs.size + 1) :: (vs ++ dvs)) (Value.ref (s.heap.objs.size + 1) :: (us ++ ds)) := .cons rfl (r.append hd)
  have hl : (Value.ref (s.heap.objs.size + 1) :: us ++ ds).length = ps.length := by
    have e := r2.length
    rw [F.len _ _ _ _ hq] at e
    exact e.symm
  refine wpAny_call (make_map (f := f) I.kIn M.makes M.init (beq_iff_eq.mp M.fn) (codeAny_mono (F.run _ X.stack _ _ ⟨Value.ref (s.heap.objs.size + 1) :: us, []⟩ (Value.ref (s.heap.objs.size + 1) :: (us ++ ds)) _ _ E (hr.make C us [])
    (I2.env0.make C us []) (hb _ (Value.ref (s.heap.objs.size + 1) :: us) I2.kIn hl) r2 hq) fun r s' hq' => ?_))
  cases r with
  | error e => exact hx pins σ _ _ e s' I2 hq'
  | ok fl =>
    cases fl with
    | ret u =>
      obtain ⟨v, H', I3, rv, ev, q3⟩ := I2.after hq'
      subst ev
      exact ⟨rv, ⟨V.ref (s.heap.objs.size + 1), H', I3, rfl, q3⟩⟩
    | next => exact False.elim hq'
    | brk => exact False.elim hq'
    | cont => exact False.elim hq'
theorem pe_make (M : Mk X.K C f) (F : FnOk X.prog X.w X.K X.mg X.base CX k f fd ps sp) (hr : Room (k + 1) X.A) (hg : Gl X x) (hm : X.mg x = some (.ref C)) (hb : Binds X.K fd ps ds) (hd : Vals dvs ds) (hx : Passes CX X E)
    (ha : PA X (e :: es) t) (hdb : (x == ("__debug__" : Str)) = false := by decide) (he : starEach (e :: es) X.env = (false, eval e X.env) :: starEach es X.env := by rfl) (hpl : (backTo pos (starEach es X.env)).any (·.1) = false := by rfl) :
    PE X (.Call (.Name x p) (e :: es) [] pos) (tMake C sp dvs E t) := by
  intro pins s σ H Q I h
  refine wpAny_Call_Name_kw (ld_glob I hg hm ?_ hdb)
  refine PySem.W.callWith_K (h₀ := X.base) I.ok.mod.kin M.kp (thn (ha pos s σ H _ I h) fun us s1 ⟨vs, H1, I1, r, q⟩ => ⟨I1.kIn, ?_⟩) he hpl
  exact run_make M F hr hb hd hx I1 r q
end

/-! ### keywords -/
section
variable {X : Cx} {CX : CXT} {k : Nat} {f C : Addr} {fd : FuncData} {ps ks : List Str} {sp : Sp} {E : XK} {x m : Str} {p pos apos kpos : Pos} {e o : Expr} {es : List Expr} {kws : List Keyword} {te ta : TE} {t tk : TA} {nm : Option Str}
variable {g : List Value → List Value → List Value} {gV : List V → List V → List V}
end

/-! ### a def's body keeps its promise -/
structure FnScope (N P : List Str) (sc : Scope) : Prop where
  kind : sc.kind = .function
  co : sc.isCoroutine = false
  gen : sc.isGenerator = false
  nd : N.Nodup
  pre : N.take P.length = P
  par : ∀ x ∈ P, sc.names.lookup x = some .local ∨ sc.names.lookup x = some .cell
  nofree : ∀ y ∈ sc.names, y.2 ≠ .free

theorem bindL_out {kindOf : Str → Option NameKind} {x : Str} : ∀ {binds : List (Str × Value)} {m : Str → Option Value}, (∀ v, (x, v) ∉ binds) → bindL kindOf binds m x = m x
  | [], _, _ => rfl
  | (n, v) :: r, m, h => by
    unfold bindL
    rw [bindL_out fun w hw => h w (List.mem_cons_of_mem _ hw)]
    split
    · have : x ≠ n := by rintro rfl; exact h v List.mem_cons_self
      simp [this]
    · rfl
theorem bindC_out {kindOf : Str → Option NameKind} {x : Str} : ∀ {binds : List (Str × Value)} {m : Str → Option Value}, (∀ v, (x, v) ∉ binds) → bindC kindOf binds m x = m x
  | [], _, _ => rfl
  | (n, v) :: r, m, h => by
    unfold bindC
    rw [bindC_out fun w hw => h w (List.mem_cons_of_mem _ hw)]
    split
    · rfl
    · have : x ≠ n := by rintro rfl; exact h v List.mem_cons_self
      simp [this]
theorem bindL_get {kindOf : Str → Option NameKind} {x : Str} {v : Value} : ∀ {P : List Str} {vs : List Value} {i : Nat} {m : Str → Option Value}, P.Nodup → P[i]? = some x → vs[i]? = some v → kindOf x = some .local →
    bindL kindOf (P.zip vs) m x = some v
  | [], _, _, _, _, h, _, _ => by simp at h
  | _ :: _, [], _, _, _, _, h, _ => by simp at h
  | p :: P, w :: vs, 0, m, nd, h1, h2, hk => by
    simp at h1 h2; subst h1; subst h2
    show bindL kindOf ((p, w) :: P.zip vs) m p = _
    unfold bindL
    rw [bindL_out fun v hv => (List.nodup_cons.mp nd).1 (List.of_mem_zip hv).1, if_pos hk]
    simp
  | p :: P, w :: vs, i + 1, m, nd, h1, h2, hk => by
    show bindL kindOf ((p, w) :: P.zip vs) m x = _
    unfold bindL
    exact bindL_get (i := i) (List.nodup_cons.mp nd).2 (by simpa using h1) (by simpa using h2) hk
theorem bindC_get {kindOf : Str → Option NameKind} {x : Str} {v : Value} : ∀ {P : List Str} {vs : List Value} {i : Nat} {m : Str → Option Value}, P.Nodup → P[i]? = some x → vs[i]? = some v → kindOf x ≠ some .local →
    bindC kindOf (P.zip vs) m x = some v
  | [], _, _, _, _, h, _, _ => by simp at h
  | _ :: _, [], _, _, _, _, h, _ => by simp at h
  | p :: P, w :: vs, 0, m, nd, h1, h2, hk => by
    simp at h1 h2; subst h1; subst h2
    show bindC kindOf ((p, w) :: P.zip vs) m p = _
    unfold bindC
    rw [bindC_out fun v hv => (List.nodup_cons.mp nd).1 (List.of_mem_zip hv).1, if_neg hk]
    simp
  | p :: P, w :: vs, i + 1, m, nd, h1, h2, hk => by
    show bindC kindOf ((p, w) :: P.zip vs) m x = _
    unfold bindC
    exact bindC_get (i := i) (List.nodup_cons.mp nd).2 (by simpa using h1) (by simpa using h2) hk

def start (N : List Str) (vs : List V) : St := vs.map some ++ List.replicate (N.length - vs.length) none

def cxOf (CX : CXT) (P : Program) (w : World) (K : PySem.W.Frag) (mg : Str → Option Value) (base : Heap) (N : List Str) (qual : Str) (scope : Scope) (f : Addr) (cd : Value) (A : Around) (outer : List Env) (s : Shared) (H : Hp) (E : XK) : Cx where
  prog := P
  w := w
  K := K
  mg := mg
  base := base
  A := A.deeper (envOfC qual scope s.heap.objs.size f cd)
  N := N
  s₀ := s
  H₀ := H
  env := envOfC qual scope s.heap.objs.size f cd
  outer := outer
  stack := envOfC qual scope s.heap.objs.size f cd :: outer
  ex := []
  calm := true
  fn := fun _ => true
  pn := []
  xe := fun e s' => wpAny (model P w) (A.deeper (envOfC qual scope s.heap.objs.size f cd)) (leaving (envOfC qual scope s.heap.objs.size f cd) e) (fun _ s'' => CX outer H s E e s'') (fun e' s'' => CX outer H s E e' s'') s'

theorem cell_has {sc : Scope} {n : Nat} {x : Str} (h : sc.names.lookup x = some .cell) : ∃ c, (cellsFrom n sc.names []).lookup x = some c := by
  have q := PySem.W.cellsFrom_some sc.names n [] (.inl h)
  exact Option.isSome_iff_exists.mp q

theorem inv_start {CX : CXT} {P : Program} {w : World} {K : PySem.W.Frag} {mg : Str → Option Value} {base : Heap} {N ps : List Str} {qual : Str} {scope : Scope} {f : Addr} {cd : Value} {A : Around} {outer : List Env} {s s1 : Shared} {H : Hp} {E : XK} {us : List Value} {vs : List V}
    (S : FnScope N ps scope) (hd : A.handled = none) (e0 : Env0 P w K mg base A outer s H) (hl : vs.length = ps.length) (r : Vals vs us)
    (x : InCallC s s.heap.objs.size (bindL (envOfC qual scope s.heap.objs.size f cd).kindOf (ps.zip us) fun _ => none) (cellsFrom (s.heap.objs.size + 1) scope.names []) (bindC (envOfC qual scope s.heap.objs.size f cd).kindOf (ps.zip us) fun _ => none) s1) :
    Inv (cxOf CX P w K mg base N qual scope f cd A outer s H E) [] (start N vs) H s1 := by
  have hpl : ps.length ≤ N.length := by have := congrArg List.length S.pre; rw [List.length_take] at this; omega
  obtain ⟨h1, tk, rfl, hk⟩ := x.done
  have noA : ∀ b : Addr, b ∉ (cxOf CX P w K mg base N qual scope f cd A outer s H E).ex := fun b z => absurd (show b ∈ ([] : List Addr) from z) (by simp)
  refine ⟨⟨e0.mod, S.kind, rfl, rfl, Nat.le_refl _, fun y z c h1 h2 => ?_, fun y hy => ?_, fun y c _ h => ?_, fun _ => hd, Around.frames_deeper e0.frames, .inr ⟨rfl, rfl⟩, fun b z => absurd z (noA b), e0.bs, e0.bsz, fun b _ _ => noA b, fun b z => absurd z (noA b), e0.funs, e0.frf⟩,
    rfl, e0.bare, Un.kept hk, ⟨_, x.toInCall.ns, fun i y v h1 h2 h3 => ?_⟩, fun y c h => ⟨_, x.cell y c h⟩, e0.hok.fresh (Nat.le_refl _), fun y c h => ?_, fun p hp => absurd (show p ∈ ([] : List (Addr × Obj)) from hp) (by simp), e0.hok.kept hk, ?_⟩
  · exact name_of_addr x.apart (PySem.mem_of_lookup h1) (PySem.mem_of_lookup h2)
  · have hy : scope.names.lookup y = some .cell ∨ scope.names.lookup y = some .free := hy
    rcases hy with hy | hy
    · exact cell_has hy
    · exact absurd rfl (S.nofree _ (PySem.mem_of_lookup hy))
  · exact Nat.le_of_lt (x.above y c (PySem.mem_of_lookup h))
  · have hi : i < vs.length := by
      unfold start at h2
      by_cases hi : i < vs.length
      · exact hi
      · rw [List.getElem?_append_right (by simpa using hi)] at h2
        rw [List.getElem?_replicate] at h2
        split at h2 <;> cases h2
    have ha : vs[i]? = some v := by
      unfold start at h2
      rw [List.getElem?_append_left (by simpa using hi), List.getElem?_map] at h2
      cases e : vs[i]? with
      | none => rw [e] at h2; cases h2
      | some a => rw [e] at h2; cases h2; rfl
    obtain ⟨u, hu, rv⟩ := r.get ha
    have hp : ps[i]? = some y := by
      rw [← S.pre, List.getElem?_take_of_lt (by omega)]; exact h1
    have ndP : ps.Nodup := by rw [← S.pre]; exact S.nd.sublist (List.take_sublist _ _)
    refine ⟨u, rv, ?_⟩
    rcases S.par y (List.mem_of_getElem? hp) with k | k
    · exact .inl ⟨k, bindL_get ndP hp hu k⟩
    · obtain ⟨c, e⟩ := cell_has (n := s.heap.objs.size + 1) k
      refine .inr ⟨.inl k, c, e, ?_⟩
      have q := x.cell y c e
      rw [bindC_get ndP hp hu (by show scope.names.lookup y ≠ _; rw [k]; decide)] at q
      exact q
  · exact e0.hok.fresh (Nat.le_of_lt (x.above y c (PySem.mem_of_lookup h)))
  · unfold start
    show _ = N.length
    rw [List.length_append, List.length_map, List.length_replicate]
    omega

theorem fn_of {CX : CXT} {P : Program} {w : World} {K : PySem.W.Frag} {mg : Str → Option Value} {base : Heap} {k : Nat} {f : Addr} {name qual : Str} {params : Arguments} {body : List Stmt} {scope : Scope} {dV kV doc pm cdv ct oc : Value} {an od : Option Addr}
    {osl : Array (Option Value)} {N ps : List Str} {sp : Sp} (lk : K.lookup f = some ⟨oc, od, .func (PySem.W.fnOf name qual params body scope dV kV doc pm an cdv ct), osl⟩) (hcd : PySem.W.codeIn K cdv qual = true) (S : FnScope N ps scope)
    (len : ∀ vs H Q E, sp vs H Q E → vs.length = ps.length)
    (hbody : ∀ (A : Around) (outer : List Env) (s : Shared) (H : Hp) (vs : List V) (Q : VK) (E : XK), Room k (A.deeper (envOfC qual scope s.heap.objs.size f cdv)) → sp vs H Q E →
      ∃ t, PSs (cxOf CX P w K mg base N qual scope f cdv A outer s H E) body t ∧ t { nx := fun _ H' => Q .non H', rt := Q } (start N vs) H) :
    FnOk P w K mg base CX (k + 1) f (PySem.W.fnOf name qual params body scope dV kV doc pm an cdv ct) ps sp := by
  refine ⟨len, fun A outer s H args us vs Q E hr e0 hb r hsp => ?_⟩
  have hl := len _ _ _ _ hsp
  have KX : K.In s.heap := e0.mod.kin.keeps fun b o e => (e0.bs b o e).1
  have lim : s.heap.NoLimit := e0.mod.nolimit.keeps fun b o e => (e0.bs b o e).1
  have hkind : ∀ y ∈ ps.zip us, scope.names.lookup y.1 = some .local ∨ (scope.names.lookup y.1 = some .cell ∧ ((cellsFrom (s.heap.objs.size + 1) scope.names []).lookup y.1).isSome = true) := fun ⟨n, v⟩ hy => by
    rcases S.par n (List.of_mem_zip hy).1 with q | q
    · exact .inl q
    · exact .inr ⟨q, PySem.W.cellsFrom_some _ _ _ (.inl q)⟩
  refine codeAny_call_function hr.depth (KX _ _ lk) rfl S.co S.gen rfl (PySem.W.codeRec_of KX hcd) (hb _ _ _ _ ?_)
  refine wpAny_newFunctionEnv_cells S.kind hkind fun env he s1 x => ?_
  subst he
  refine ⟨lim.keeps x.toInCall.keep, codeAny_func ?_⟩
  obtain ⟨t, ht, hq⟩ := hbody A outer s H vs Q E (hr.deeper _) hsp
  have I : Inv (cxOf CX P w K mg base N qual scope f cdv A outer s H E) [] (start N vs) H s1 := inv_start S hr.hd e0 hl r x
  refine wpAny_mono (ht s1 (start N vs) H _ I hq) (fun fl s' hs => ?_) fun e s' hs => hs
  have fin : ∀ {σ' : St} {H' : Hp} {v : V} {u : Value}, Inv (cxOf CX P w K mg base N qual scope f cdv A outer s H E) [] σ' H' s' → RelV v u → Q v H' → CE outer P w H s Q u s' :=
    fun {σ' H' v u} J rv q => ⟨v, H', J.os, J.bare, J.base, J.hok, rv, q⟩
  cases fl with
  | ret u =>
    obtain ⟨v, σ', H', J, rv, q⟩ := hs
    exact fin J rv q
  | next =>
    obtain ⟨σ', H', J, q⟩ := hs
    exact fin (v := V.non) (u := Value.none) J rfl q
  | brk =>
    obtain ⟨_, _, _, q⟩ := hs
    exact False.elim q
  | cont =>
    obtain ⟨_, _, _, q⟩ := hs
    exact False.elim q
end L2

namespace L2
open PySem PySem.Spec PyProof.Rows
section
variable {X : Cx} {x : Str} {p pos : Pos} {e : Expr} {es : List Expr} {t : TA} {id T : String} {r : List V → Hp → VK → Prop}

def tCB (r : List V → Hp → VK → Prop) (t : TA) : TE := fun σ H Q => t σ H fun vs H1 => r vs H1 Q
theorem pe_callB (hc : CallR X (.builtin id) r) (hg : Gl X x) (hm : X.mg x = none) (hv : bootBuiltins x = some (.builtin id)) (ha : PA X (e :: es) t) (hn : x ≠ "__name__" := by decide) (hdb : (x == ("__debug__" : Str)) = false := by decide)
    (he : starEach (e :: es) X.env = (false, eval e X.env) :: starEach es X.env := by rfl) (hpl : (backTo pos (starEach es X.env)).any (·.1) = false := by rfl) : PE X (.Call (.Name x p) (e :: es) [] pos) (tCB r t) := by
  intro pins s σ H Q I h
  refine wpAny_Call_Name_kw (ld_blt I hg hm hv ?_ hn hdb)
  exact PyProof.Rows.callWith_builtin1 (thn (ha pos s σ H _ I h) fun us s1 ⟨vs, H1, I1, r1, q1⟩ => hc pins s1 σ H1 vs us Q I1 r1 q1) he hpl
theorem pe_callTy (hc : CallR X (.type T) r) (hg : Gl X x) (hm : X.mg x = none) (hv : bootBuiltins x = some (.type T)) (ha : PA X (e :: es) t) (hn : x ≠ "__name__" := by decide) (hdb : (x == ("__debug__" : Str)) = false := by decide)
    (he : starEach (e :: es) X.env = (false, eval e X.env) :: starEach es X.env := by rfl) (hpl : (backTo pos (starEach es X.env)).any (·.1) = false := by rfl) : PE X (.Call (.Name x p) (e :: es) [] pos) (tCB r t) := by
  intro pins s σ H Q I h
  refine wpAny_Call_Name_kw (ld_blt I hg hm hv ?_ hn hdb)
  exact PyProof.Rows.callWith_type1 (thn (ha pos s σ H _ I h) fun us s1 ⟨vs, H1, I1, r1, q1⟩ => hc pins s1 σ H1 vs us Q I1 r1 q1) he hpl
end
end L2

namespace HT
open PySem PyProof.Rows

section
open PySem.SeqAt
open PySem.AutoSeq1 (wpAny_loadPart')
open PySem.MeetsSeq PySem.MeetsSeq2 PySem.MeetsSeq3

end

section
variable {prog : Program} {w : World} {A : Around} {E : Value → Shared → Prop} {s : Shared}

/-! ### t[a:b], not the whole -/
def sIx (n d : Nat) : Option Int → Nat
  | none => d
  | some v => if v < 0 then (v + (n : Int)).toNat else min v.toNat n
theorem sIx_none (n d : Nat) : sIx n d none = d := rfl
theorem sIx_nat (n d k : Nat) : sIx n d (some (k : Int)) = min k n := by
  show (if (k : Int) < 0 then ((k : Int) + (n : Int)).toNat else min (k : Int).toNat n) = min k n
  rw [if_neg (by omega), Int.toNat_natCast]
end
end HT

namespace L2
open PySem PySem.Spec PyProof.Rows

/-! ### the parts of a slice -/
abbrev TO := St → Hp → (Option Int → Hp → Prop) → Prop
def PO (X : Cx) (e : Option Expr) (t : TO) : Prop :=
  ∀ ⦃pins : List (Addr × Obj)⦄ (s : Shared) (σ : St) (H : Hp) (Q : Option Int → Hp → Prop), Inv X pins σ H s → t σ H Q →
    wpAny (model X.prog X.w) X.A (evalPart e X.env) (fun u s' => ∃ o H', Inv X pins σ H' s' ∧ IsPart u o ∧ Q o H') X.xe s
def tNoPart : TO := fun _ H Q => Q none H
def tPart (t : TE) : TO := fun σ H Q => t σ H fun x H1 => ∃ i, x = .int i ∧ Q (some i) H1

section
variable {X : Cx} {e : Expr} {te : TE} {lo hi : Option Expr} {tl th : TO} {pos p2 : Pos}

theorem po_none : PO X none tNoPart := by
  intro pins s σ H Q I h
  rw [evalPart_none]
  exact wpAny_pure ⟨none, H, I, .none, h⟩
theorem po_some (h : PE X e te) : PO X (some e) (tPart te) := by
  intro pins s σ H Q I hw
  rw [evalPart_some]
  refine thn (h s σ H _ I hw) fun u s1 ⟨x, H1, I1, r1, q1⟩ => ?_
  obtain ⟨i, rfl, q⟩ := q1
  obtain ⟨t, rfl⟩ := r1
  exact ⟨some i, H1, I1, .int i t, q⟩

def SlR (X : Cx) (r : V → Option Int → Option Int → Hp → VK → Prop) : Prop :=
  ∀ (pins : List (Addr × Obj)) (s : Shared) (σ : St) (H : Hp) (x : V) (v vl vu : Value) (lo hi : Option Int) (sl : Addr) (Q : VK), Inv X pins σ H s → RelV x v → s.heap.IsSliceOf sl vl vu .none → IsPart vl lo → IsPart vu hi → r x lo hi H Q →
    ∃ T id, typeLookup (.type T) "__getitem__" = pure (some (.builtin id)) ∧ s.TypeIs v T ∧ wpAny (model X.prog X.w) X.A (getItem v (.ref sl)) (EP X pins σ Q) X.xe s
def tSl (r : V → Option Int → Option Int → Hp → VK → Prop) (te : TE) (tl th : TO) : TE := fun σ H Q => te σ H fun x H1 => tl σ H1 fun l H2 => th σ H2 fun u H3 => r x l u H3 Q
theorem pe_slice {r : V → Option Int → Option Int → Hp → VK → Prop} (hr : SlR X r) (he : PE X e te) (hl : PO X lo tl) (hu : PO X hi th) : PE X (.Subscript e (.Slice lo hi none p2) pos) (tSl r te tl th) := by
  intro pins s σ H Q I h
  refine Subscript_ (thn (he s σ H _ I h) fun v s1 ⟨x, H1, I1, r1, q1⟩ => ?_)
  refine wpAny_Slice (thn (hl s1 σ H1 _ I1 q1) fun vl s2 ⟨l, H2, I2, pl, q2⟩ => thn (hu s2 σ H2 _ I2 q2) fun vu s3 ⟨u, H3, I3, pu, q3⟩ => ?_)
  rw [evalPart_none]
  refine wpAny_pure ?_
  have I4 : Inv X pins σ H3 { s3 with heap := s3.heap.push { cls := .type "slice", data := .fields #[vl, vu, .none] } } := I3.kept (t' := s3.toks) fun b ob q => Heap.get?_push_of_some _ q
  obtain ⟨T, id, hT, ht, hg⟩ := hr pins { s3 with heap := s3.heap.push { cls := .type "slice", data := .fields #[vl, vu, .none] } } σ H3 x v vl vu l u s3.heap.objs.size Q I4 r1 (Heap.IsSliceOf.new ..) pl pu q3
  show wpAny (model X.prog X.w) X.A (subscriptTail e (.Slice lo hi none p2) v (.ref s3.heap.objs.size)) (EP X pins σ Q) X.xe { s3 with heap := s3.heap.push { cls := .type "slice", data := .fields #[vl, vu, .none] } }
  exact tail_any (ops := [.ref s3.heap.objs.size, v]) ht hT hg (by with_unfolding_all rfl)

def cutV (xs : List V) (lo hi : Option Int) : List V := (xs.drop (HT.sIx xs.length 0 lo)).take (HT.sIx xs.length xs.length hi - HT.sIx xs.length 0 lo)
theorem cutV_length (xs : List V) (lo hi : Option Int) : (cutV xs lo hi).length ≤ xs.length := by
  unfold cutV
  rw [List.length_take, List.length_drop]
  omega
/-! ### t < u, t + u -/
end
end L2

namespace L2
open PySem PySem.Spec PyProof.Rows

/-! ### places -/
def ixN (n : Nat) (i : Int) : Option Nat := if 0 ≤ i then (if i < n then some i.toNat else none) else if -(n : Int) ≤ i then some (i + n).toNat else none
def atI {α : Type} (xs : List α) (i : Int) : Option α := (ixN xs.length i).bind fun j => xs[j]?
theorem ixN_seq {n : Nat} {i : Int} {j : Nat} (h : ixN n i = some j) : seqIndex? i n = some j ∧ j < n ∧ -(n : Int) ≤ i ∧ i < n := by
  unfold ixN at h
  by_cases h0 : 0 ≤ i
  · rw [if_pos h0] at h
    by_cases h1 : i < n
    · rw [if_pos h1] at h
      have e : i.toNat = j := Option.some.inj h
      exact ⟨by rw [seqIndex_of h0 h1, e], by omega, by omega, h1⟩
    · rw [if_neg h1] at h; cases h
  · rw [if_neg h0] at h
    by_cases h1 : -(n : Int) ≤ i
    · rw [if_pos h1] at h
      have e : (i + n).toNat = j := Option.some.inj h
      exact ⟨by rw [seqIndex_neg (by omega) h1, e], by omega, h1, by omega⟩
    · rw [if_neg h1] at h; cases h
theorem atI_get {α : Type} {xs : List α} {i : Int} {v : α} (h : atI xs i = some v) : ∃ j, seqIndex? i xs.length = some j ∧ xs[j]? = some v ∧ j < xs.length ∧ -(xs.length : Int) ≤ i ∧ i < xs.length := by
  unfold atI at h
  cases e : ixN xs.length i with
  | none => rw [e] at h; cases h
  | some j =>
    rw [e] at h
    obtain ⟨h1, h2, h3, h4⟩ := ixN_seq e
    exact ⟨j, h1, h, h2, h3, h4⟩
theorem atI_nat {α : Type} {xs : List α} {j : Nat} {v : α} (h : xs[j]? = some v) : atI xs (j : Int) = some v := by
  have hj : j < xs.length := (List.getElem?_eq_some_iff.mp h).1
  have e : ixN xs.length (j : Int) = some j := by
    unfold ixN
    rw [if_pos (by omega), if_pos (by omega)]; simp
  unfold atI; rw [e]; exact h
theorem atI_last {α : Type} (xs : List α) (v : α) : atI (xs ++ [v]) (-1) = some v := by
  have hl : (xs ++ [v]).length = xs.length + 1 := by simp
  have e : ixN (xs ++ [v]).length (-1) = some xs.length := by
    unfold ixN
    rw [hl, if_neg (by decide), if_pos (by omega)]
    congr 1
    omega
  unfold atI
  rw [e]
  show (xs ++ [v])[xs.length]? = some v
  simp

/-! ### what may be subscripted -/
def PlainIx (b : Expr) : Prop := ∀ o i, subscripted b false o i = operate [o, i] (getItem o i)
def IxR (X : Cx) (r : R2) : Prop :=
  ∀ (value slice : Expr) (pins : List (Addr × Obj)) (s : Shared) (σ : St) (H : Hp) (x y : V) (v u : Value) (Q : VK), Inv X pins σ H s → RelV x v → RelV y u → r x y H Q →
    subscripted slice false v u = operate [v, u] (getItem v u) → wpAny (model X.prog X.w) X.A (subscriptTail value slice v u) (EP X pins σ Q) X.xe s
def MtR (X : Cx) (id : String) (r : V → List V → Hp → VK → Prop) : Prop :=
  ∀ (pins : List (Addr × Obj)) (s : Shared) (σ : St) (H : Hp) (x : V) (xs : List V) (v : Value) (us : List Value) (Q : VK), Inv X pins σ H s → RelV x v → Vals xs us → r x xs H Q →
    wpAny (model X.prog X.w) X.A (call (.builtin id) (v :: us)) (EP X pins σ Q) X.xe s
section
variable {X : Cx} {a b : Expr} {ta tb : TE} {pos : Pos}
theorem pe_ix {r : R2} (hr : IxR X r) (ha : PE X a ta) (hb : PE X b tb) (hs : PlainIx b) : PE X (.Subscript a b pos) (tOp r ta tb) := by
  intro pins s σ H Q I h
  exact Subscript_ (binT ha hb I h fun v u s2 x y H2 I2 rx ry q => hr a b pins s2 σ H2 x y v u Q I2 rx ry q (hs _ _))

def rIxL (K : PySem.W.Frag) : R2 := fun x y H Q => ∃ p xs i v, x = .ref p ∧ y = .int i ∧ SqL K H p xs ∧ atI xs i = some v ∧ Q v H
def rIxT (K : PySem.W.Frag) : R2 := fun x y H Q => ∃ p xs i v, x = .ref p ∧ y = .int i ∧ SqT K H p xs ∧ atI xs i = some v ∧ Q v H
def rIxS : R2 := fun x y H Q => ∃ z i c, x = .str z ∧ y = .int i ∧ z.length ≤ sizeLine ∧ atI z.cps.toList i = some c ∧ Q (.str ⟨#[c]⟩) H
theorem ix_list : IxR X (rIxL X.K) := by
  intro value slice pins s σ H x y v u Q I rx ry h hs
  obtain ⟨p, xs, i, z, rfl, rfl, hq, he, q⟩ := h
  cases rx
  obtain ⟨t, rfl⟩ := ry
  obtain ⟨its, r, pl, hz⟩ := I.list hq
  obtain ⟨j, h1, h2, h3, h4, h5⟩ := atI_get he
  obtain ⟨w, ew, rw'⟩ := r.get h2
  have hl := r.length
  have hn := line63
  have fin : EP X pins σ Q w s := ⟨z, H, I, rw', q⟩
  by_cases h0 : 0 ≤ i
  · have hj : i.toNat = j := by
      rw [seqIndex_of h0 h5] at h1
      exact Option.some.inj h1
    exact item_listR pl.isList h0 (by omega) (by rw [hj]; simpa using ew) fin hs
  · have hj : (i + (its.toArray.size : Int)).toNat = j := by
      rw [seqIndex_neg (by omega) h4] at h1
      rw [List.size_toArray, ← hl]
      exact Option.some.inj h1
    exact subscriptTail_builtinR (x := w) pl.isList.typeIs slot_list_getitem.lookup
      (wpAny_getItem_list_neg (Q := fun r s' => r = w ∧ EP X pins σ Q r s') pl.isList (by omega) (by rw [List.size_toArray] <;> omega) (by omega) (by rw [hj]; simpa using ew) ⟨rfl, fin⟩) hs
theorem ix_tup : IxR X (rIxT X.K) := by
  intro value slice pins s σ H x y v u Q I rx ry h hs
  obtain ⟨p, xs, i, z, rfl, rfl, hq, he, q⟩ := h
  cases rx
  obtain ⟨t, rfl⟩ := ry
  obtain ⟨its, r, pl, hz⟩ := I.tuple hq
  obtain ⟨j, h1, h2, h3, h4, h5⟩ := atI_get he
  obtain ⟨w, ew, rw'⟩ := r.get h2
  have hl := r.length
  have hn := line63
  have fin : EP X pins σ Q w s := ⟨z, H, I, rw', q⟩
  exact subscriptTail_builtinR (x := w) pl.typeIs slot_tuple_getitem.lookup
    (getItem_tuple (j := j) (Q := fun r s' => r = w ∧ EP X pins σ Q r s') pl (by omega) (by omega) (by rw [List.size_toArray, ← hl]; exact h1) (by simpa using ew) ⟨rfl, fin⟩) hs
theorem ix_str : IxR X rIxS := by
  intro value slice pins s σ H x y v u Q I rx ry h hs
  obtain ⟨z, i, c, rfl, rfl, hz, he, q⟩ := h
  obtain ⟨t, rfl⟩ := rx
  obtain ⟨t', rfl⟩ := ry
  obtain ⟨j, h1, h2, h3, h4, h5⟩ := atI_get he
  have hl : z.cps.toList.length = z.length := by simp [Str.length]
  rw [hl] at h1 h4 h5
  have hn := line63
  exact tail_any (typeIs_str s z t) slot_str_getitem.lookup (getItem_str (c := c) (by
    have e1 : decide (i < -(2 ^ 63 : Int)) = false := decide_eq_false (by omega)
    have e2 : decide (i ≥ 2 ^ 63) = false := decide_eq_false (by omega)
    rw [e1, e2, Bool.or_false]) (by rw [h1]; simpa using h2) ⟨.str ⟨#[c]⟩, H, I.tok _, ⟨_, rfl⟩, q⟩) hs
/-! ### xs[i] = v, any sign -/
theorem mapSeq_set (its : List Value) (n j : Nat) (u : Value) : Obj.mapSeq (·.setIfInBounds j u) { cls := .type "list", data := .seq its.toArray n } = { cls := .type "list", data := .seq (its.set j u).toArray n } := by
  simp [Obj.mapSeq]
theorem Inv.lst {pins : List (Addr × Obj)} {σ : St} {H : Hp} {s : Shared} {p : Addr} {xs : List V} (I : Inv X pins σ H s) (h : H p = some (.lst xs)) :
    ∃ (its : List Value) (n : Nat), Vals xs its ∧ s.heap.get? p = some { cls := .type "list", data := .seq its.toArray n } ∧ xs.length ≤ sizeLine := by
  obtain ⟨z, its, n, r, e⟩ := I.hok p _ h
  exact ⟨its, n, r, e, z⟩
theorem Inv.lstUpd {pins : List (Addr × Obj)} {σ : St} {H : Hp} {s : Shared} {p : Addr} {xs ys : List V} {its its' : List Value} {n n' : Nat} {f : Obj → Obj} (I : Inv X pins σ H s) (h : H p = some (.lst xs))
    (ho : s.heap.get? p = some { cls := .type "list", data := .seq its.toArray n }) (hf : f { cls := .type "list", data := .seq its.toArray n } = { cls := .type "list", data := .seq its'.toArray n' }) (r : Vals ys its') (hz : ys.length ≤ sizeLine) (t : Nat) :
    Inv X pins σ (upd H p (.lst ys)) { s with heap := s.heap.update p f, toks := t } := by
  have e : (s.heap.update p f).get? p = some { cls := .type "list", data := .seq its'.toArray n' } := by
    rw [Heap.get?_update_self f ho (by rw [hf] <;> rfl), hf]
  refine I.write (x := p) (e := p) (by rw [h]; trivial) (.inl rfl) (fun b u hb q => (Heap.get?_update_other _ _ (Ne.symm hb)).trans q) ⟨_, e⟩ ?_
  exact ⟨hz, its', n', r, e⟩
def rSetL : V → V → V → Hp → (Hp → Prop) → Prop := fun o i v H Q => ∃ p xs k j, o = .ref p ∧ i = .int k ∧ H p = some (.lst xs) ∧ ixN xs.length k = some j ∧ Q (upd H p (.lst (xs.set j v)))
theorem set_list : PSet X rSetL := by
  intro pins s σ H o i v ov iv u Q I ro ri rv h
  obtain ⟨p, xs, k, j, rfl, rfl, hp, hj, q⟩ := h
  cases ro
  obtain ⟨t, rfl⟩ := ri
  obtain ⟨its, n, r, ho, hz⟩ := I.lst hp
  obtain ⟨h1, h2, h3, h4⟩ := ixN_seq hj
  have hl := r.length
  have hn := line63
  have I' : Inv X pins σ (upd H p (.lst (xs.set j v))) { s with heap := s.heap.update p (Obj.mapSeq (·.setIfInBounds j u)) } :=
    I.lstUpd hp ho (mapSeq_set its n j u) (r.set rv j) (by rw [List.length_set]; exact hz) s.toks
  by_cases h0 : 0 ≤ k
  · have hk : k.toNat = j := by
      rw [seqIndex_of h0 h4] at h1
      exact Option.some.inj h1
    exact PySem.W.ki_setAt ho h0 (by omega) (by rw [List.size_toArray, ← hl]; exact h4) (by rw [hk]; exact ⟨_, I', q⟩)
  · have hk : (k + (its.toArray.size : Int)).toNat = j := by
      rw [seqIndex_neg (by omega) h3] at h1
      rw [List.size_toArray, ← hl]
      exact Option.some.inj h1
    exact PySem.W.ki_setBack ho (by omega) (by rw [List.size_toArray, ← hl]; exact h3) (by omega) (by rw [hk]; exact ⟨_, I', q⟩)

/-! ### slices -/
theorem slice_bounds (lo hi : Option Int) (n : Nat) : (sliceBounds lo hi none n).1 = ((HT.sIx n 0 lo : Nat) : Int) ∧ (sliceBounds lo hi none n).2.1 = ((HT.sIx n n hi : Nat) : Int) ∧ (sliceBounds lo hi none n).2.2 = 1 := by
  refine ⟨?_, ?_, rfl⟩
  · cases lo with
    | none => simp [sliceBounds, HT.sIx]
    | some i =>
      simp only [sliceBounds, HT.sIx, Option.getD_none, show (1 : Int) > 0 by decide, if_true]
      by_cases h : i < 0
      · simp only [h, if_true] <;> omega
      · simp only [h, if_false] <;> omega
  · cases hi with
    | none => simp [sliceBounds, HT.sIx]
    | some i =>
      simp only [sliceBounds, HT.sIx, Option.getD_none, show (1 : Int) > 0 by decide, if_true]
      by_cases h : i < 0
      · simp only [h, if_true] <;> omega
      · simp only [h, if_false] <;> omega
theorem slicePick_cut (its : List Value) (lo hi : Option Int) : slicePick its.toArray lo hi none = ((its.drop (HT.sIx its.length 0 lo)).take (HT.sIx its.length its.length hi - HT.sIx its.length 0 lo)).toArray := by
  obtain ⟨h1, h2, h3⟩ := slice_bounds lo hi its.toArray.size
  unfold slicePick
  rw [h1, h2, h3]
  simp only [sliceRange_one, pick_run, List.size_toArray] <;> rfl
def rSlL (K : PySem.W.Frag) : V → Option Int → Option Int → Hp → VK → Prop := fun x lo hi H Q => ∃ a xs, x = .ref a ∧ SqL K H a xs ∧ ∀ p, H p = none → Q (.ref p) (upd H p (.lst (cutV xs lo hi)))
theorem sl_list : SlR X (rSlL X.K) := by
  intro pins s σ H x v vl vu lo hi sl Q I rx hs pl pu h
  obtain ⟨a, xs, rfl, hx, q⟩ := h
  cases rx
  obtain ⟨its, r, ht, hz⟩ := I.list hx
  have hlen := r.length
  refine ⟨"list", _, slot_list_getitem.lookup, ht.isList.typeIs, ?_⟩
  refine wpAny_getItem_list_slice ht.isList hs pl pu .none (by simp) ?_ (by rw [List.size_toArray] <;> omega)
  rw [slicePick_cut, ← hlen]
  refine ⟨.ref s.heap.objs.size, _, I.laid (t' := s.toks) (o := .lst (cutV xs lo hi)) (fun b ob q => Heap.get?_push_of_some _ q) (Nat.le_refl _) ?_, rfl, q _ (I.hok.fresh (Nat.le_refl _))⟩
  exact ⟨Nat.le_trans (cutV_length xs lo hi) hz, _, 0, (r.drop (HT.sIx xs.length 0 lo)).take (HT.sIx xs.length xs.length hi - HT.sIx xs.length 0 lo), Heap.get?_push_size _ rfl⟩

/-! ### in, not in: flat items -/
def flatV : V → Bool
  | .non => true
  | .bl _ => true
  | .int _ => true
  | .str _ => true
  | _ => false
def eqV : V → V → Bool
  | .non, .non => true
  | .bl a, .bl b => a == b
  | .bl a, .int b => (if a then 1 else 0) == b
  | .int a, .bl b => a == (if b then 1 else 0)
  | .int a, .int b => a == b
  | .str a, .str b => a == b
  | _, _ => false
theorem eqAt_V {A : Around} {s : Shared} {y x : V} {u v : Value} (ry : RelV y u) (rx : RelV x v) (fy : flatV y = true) (fx : flatV x = true) : SeqAt.EqAt A s u v (eqV y x) := by
  cases y with
  | non =>
    cases ry
    cases x with
    | non => cases rx; exact SeqAt.EqAt.same _
    | bl b => cases rx; exact SeqAt.EqAt.none_bool b
    | int b => obtain ⟨t, rfl⟩ := rx; exact SeqAt.EqAt.none_int b t
    | str b => obtain ⟨t, rfl⟩ := rx; exact SeqAt.EqAt.none_str b t
    | _ => exact absurd (show false = true from fx) Bool.false_ne_true
  | bl a =>
    cases ry
    cases x with
    | non => cases rx; exact SeqAt.EqAt.bool_none a
    | bl b => cases rx; exact SeqAt.EqAt.bool_bool a b
    | int b => obtain ⟨t, rfl⟩ := rx; exact SeqAt.EqAt.bool_int a b t
    | str b => obtain ⟨t, rfl⟩ := rx; exact SeqAt.EqAt.bool_str a b t
    | _ => exact absurd (show false = true from fx) Bool.false_ne_true
  | int a =>
    obtain ⟨t', rfl⟩ := ry
    cases x with
    | non => cases rx; exact SeqAt.EqAt.int_none a t'
    | bl b => cases rx; exact SeqAt.EqAt.int_bool a t' b
    | int b => obtain ⟨t, rfl⟩ := rx; exact SeqAt.EqAt.int_int a t' b t
    | str b => obtain ⟨t, rfl⟩ := rx; exact SeqAt.EqAt.int_str a t' b t
    | _ => exact absurd (show false = true from fx) Bool.false_ne_true
  | str a =>
    obtain ⟨t', rfl⟩ := ry
    cases x with
    | non => cases rx; exact SeqAt.EqAt.str_none a t'
    | bl b => cases rx; exact SeqAt.EqAt.str_bool a t' b
    | int b => obtain ⟨t, rfl⟩ := rx; exact SeqAt.EqAt.str_int a t' b t
    | str b => obtain ⟨t, rfl⟩ := rx; exact SeqAt.EqAt.str_str a t' b t
    | _ => exact absurd (show false = true from fx) Bool.false_ne_true
  | _ => exact absurd (show false = true from fy) Bool.false_ne_true
def eqU (x : V) (u : Value) : Bool := match u with
  | .none => eqV .non x
  | .bool b => eqV (.bl b) x
  | .int i _ => eqV (.int i) x
  | .str z _ => eqV (.str z) x
  | _ => false
theorem eqU_of {x y : V} {u : Value} (r : RelV y u) (f : flatV y = true) : eqU x u = eqV y x := by
  cases y with
  | non => cases r; rfl
  | bl b => cases r; rfl
  | int i => obtain ⟨t, rfl⟩ := r; rfl
  | str z => obtain ⟨t, rfl⟩ := r; rfl
  | _ => exact absurd (show false = true from f) Bool.false_ne_true
theorem any_eqU {x : V} : ∀ {xs : List V} {us : List Value}, Vals xs us → xs.all flatV = true → us.any (eqU x) = xs.any fun y => eqV y x
  | _, _, .nil, _ => rfl
  | y :: xs, u :: us, .cons r t, f => by
    rw [List.all_cons, Bool.and_eq_true] at f
    rw [List.any_cons, List.any_cons, eqU_of r f.1, any_eqU t f.2]
theorem mem_eqAt {A : Around} {s : Shared} {x : V} {v : Value} (rx : RelV x v) (fx : flatV x = true) : ∀ {xs : List V} {us : List Value}, Vals xs us → xs.all flatV = true → ∀ u ∈ us, SeqAt.EqAt A s u v (eqU x u)
  | _, _, .nil, _ => fun u hu => by cases hu
  | y :: xs, u :: us, .cons r t, f => fun u' hu => by
    rw [List.all_cons, Bool.and_eq_true] at f
    rcases List.mem_cons.mp hu with rfl | hu
    · rw [eqU_of r f.1]; exact eqAt_V r rx f.1 fx
    · exact mem_eqAt rx fx t f.2 u' hu
def inV (x : V) (xs : List V) : Bool := xs.any fun y => eqV y x
def rIn (K : PySem.W.Frag) (neg : Bool) : R2 := fun x y H Q => ∃ p xs, y = .ref p ∧ (SqL K H p xs ∨ SqT K H p xs) ∧ flatV x = true ∧ xs.all flatV = true ∧ Q (.bl (if neg then !inV x xs else inV x xs)) H
theorem op_in_seq : OpR X (compareOp .In) (rIn X.K false) := by
  intro pins s σ H x y v u Q I rx ry h
  obtain ⟨p, xs, rfl, hq, fx, fs, q⟩ := h
  cases ry
  rcases hq with hq | hq
  · obtain ⟨its, r, pl, hz⟩ := I.list hq
    refine SeqAt.in_listAt (eqU x) pl.isList (fun w hw => mem_eqAt rx fx r fs w (by simpa using hw)) ⟨.bl _, H, I, rfl, ?_⟩
    rw [show its.toArray.any (eqU x) = its.any (eqU x) by simp, any_eqU r fs]
    exact q
  · obtain ⟨its, r, pl, hz⟩ := I.tuple hq
    refine SeqAt.in_tupleAt (eqU x) pl (fun w hw => mem_eqAt rx fx r fs w (by simpa using hw)) ⟨.bl _, H, I, rfl, ?_⟩
    rw [show its.toArray.any (eqU x) = its.any (eqU x) by simp, any_eqU r fs]
    exact q
theorem op_notIn_seq : OpR X (compareOp .NotIn) (rIn X.K true) := by
  intro pins s σ H x y v u Q I rx ry h
  obtain ⟨p, xs, rfl, hq, fx, fs, q⟩ := h
  cases ry
  rcases hq with hq | hq
  · obtain ⟨its, r, pl, hz⟩ := I.list hq
    refine SeqAt.notIn_listAt (eqU x) pl.isList (fun w hw => mem_eqAt rx fx r fs w (by simpa using hw)) ⟨.bl _, H, I, rfl, ?_⟩
    rw [show its.toArray.any (eqU x) = its.any (eqU x) by simp, any_eqU r fs]
    exact q
  · obtain ⟨its, r, pl, hz⟩ := I.tuple hq
    refine SeqAt.notIn_tupleAt (eqU x) pl (fun w hw => mem_eqAt rx fx r fs w (by simpa using hw)) ⟨.bl _, H, I, rfl, ?_⟩
    rw [show its.toArray.any (eqU x) = its.any (eqU x) by simp, any_eqU r fs]
    exact q
/-! ### len, list(x), tuple(x) of any list or tuple that is read -/
theorem call_len_seq : CallR X (.builtin "len") (fun xs H Q => ∃ p ys, xs = [.ref p] ∧ (SqL X.K H p ys ∨ SqT X.K H p ys) ∧ Q (.int ys.length) H) := by
  intro pins s σ H xs us Q I r h
  obtain ⟨p, ys, rfl, hq, q⟩ := h
  obtain ⟨u, rfl, rx⟩ := vals1 r
  cases rx
  have hn := line63
  rcases hq with hq | hq
  · obtain ⟨its, r', pl, hz⟩ := I.list hq
    have hlen := r'.length
    exact Calls.call_len_list pl.isList (by simp only [List.size_toArray] <;> omega) ⟨.int ys.length, H, I.tok _, ⟨s.toks + 1, by rw [List.size_toArray, hlen]⟩, q⟩
  · obtain ⟨its, r', pl, hz⟩ := I.tuple hq
    have hlen := r'.length
    exact len_tuple pl (by simp only [List.size_toArray] <;> omega) ⟨.int ys.length, H, I.tok _, ⟨s.toks + 1, by rw [List.size_toArray, hlen]⟩, q⟩
theorem call_len_str : CallR X (.builtin "len") (fun xs H Q => ∃ z, xs = [.str z] ∧ z.length ≤ sizeLine ∧ Q (.int z.length) H) := by
  intro pins s σ H xs us Q I r h
  obtain ⟨z, rfl, hz, q⟩ := h
  obtain ⟨u, rfl, t, rfl⟩ := vals1 r
  have hn := line63
  exact len_str (by omega) ⟨.int z.length, H, I.tok _, ⟨_, rfl⟩, q⟩
theorem call_list_of : CallR X (.type "list") (fun xs H Q => ∃ p ys, xs = [.ref p] ∧ (SqL X.K H p ys ∨ SqT X.K H p ys) ∧ ∀ l, H l = none → Q (.ref l) (upd H l (.lst ys))) := by
  intro pins s σ H xs us Q I r h
  obtain ⟨p, ys, rfl, hq, q⟩ := h
  obtain ⟨u, rfl, rx⟩ := vals1 r
  cases rx
  have fin : ∀ (its : List Value), Vals ys its → ys.length ≤ sizeLine → ∀ (h' : Heap) (c' : Nat), (∀ b o', s.heap.get? b = some o' → h'.get? b = some o') →
      h'.get? s.heap.objs.size = some { cls := .type "list", dict := none, data := .seq its.toArray c', slots := #[] } → EP X pins σ Q (.ref s.heap.objs.size) { s with heap := h' } := fun its r' hz h' c' kp e =>
    ⟨.ref s.heap.objs.size, _, I.laid (t' := s.toks) kp (Nat.le_refl _) (show ObjOk X.prog X.w _ h' _ (.lst ys) from ⟨hz, its, c', r', e⟩), rfl, q _ (I.hok.fresh (Nat.le_refl _))⟩
  rcases hq with hq | hq
  · obtain ⟨its, r', pl, hz⟩ := I.list hq
    have hlen := r'.length
    obtain ⟨o, ho, hc, n, hd⟩ := pl.isList
    exact call_list_seq p (.inl rfl) ho hc hd (fun h' c' kp e => fin its r' hz h' c' kp e) (by simp only [List.size_toArray] <;> omega)
  · obtain ⟨its, r', pl, hz⟩ := I.tuple hq
    have hlen := r'.length
    obtain ⟨o, ho, hc, n, hd⟩ := pl
    exact call_list_seq p (.inr rfl) ho hc hd (fun h' c' kp e => fin its r' hz h' c' kp e) (by simp only [List.size_toArray] <;> omega)
theorem call_tuple_of : CallR X (.type "tuple") (fun xs H Q => ∃ p ys, xs = [.ref p] ∧ ((SqL X.K H p ys ∧ ∀ l, H l = none → Q (.ref l) (upd H l (.tup ys))) ∨ (SqT X.K H p ys ∧ Q (.ref p) H))) := by
  intro pins s σ H xs us Q I r h
  obtain ⟨p, ys, rfl, h⟩ := h
  obtain ⟨u, rfl, rx⟩ := vals1 r
  cases rx
  rcases h with ⟨hq, q⟩ | ⟨hq, q⟩
  · obtain ⟨its, r', pl, hz⟩ := I.list hq
    have hlen := r'.length
    refine call_tuple_list pl.isList (fun h' kp => ?_) (by simp only [List.size_toArray] <;> omega)
    have I1 : Inv X pins σ H { s with heap := h' } := I.kept (t' := s.toks) kp
    have I2 : Inv X pins σ (upd H h'.objs.size (.tup ys)) { s with heap := h'.push { cls := .type "tuple", data := .seq its.toArray } } :=
      I1.laid (t' := s.toks) (fun b o e => Heap.get?_push_of_some _ e) (Nat.le_refl _) (show ObjOk X.prog X.w _ _ _ (.tup ys) from ⟨hz, its, r', IsTup.new _ _⟩)
    exact ⟨.ref h'.objs.size, _, I2, rfl, q _ (I1.hok.fresh (Nat.le_refl _))⟩
  · obtain ⟨its, r', pl, hz⟩ := I.tuple hq
    exact call_tuple_same pl ⟨.ref p, H, I, rfl, q⟩

/-! ### the call of a builtin's method: o.m(..) -/
def tyV (K : PySem.W.Frag) (T : String) (x : V) (H : Hp) : Prop := match x with
  | .str _ => T = "str"
  | .int _ => T = "int"
  | .ref p => (T = "list" ∧ ∃ xs, SqL K H p xs) ∨ (T = "tuple" ∧ ∃ o, K.lookup p = some o ∧ o.cls = .type "tuple" ∧ o.dict = none) ∨
      (T = "dict" ∧ ((∃ kvs, H p = some (.dK kvs)) ∨ ∃ kvs, H p = some (.dT kvs))) ∨ (T = "set" ∧ ∃ S n, H p = some (.set S n))
  | _ => False
theorem tyV_is {pins : List (Addr × Obj)} {σ : St} {H : Hp} {s : Shared} {T : String} {x : V} {v : Value} (I : Inv X pins σ H s) (r : RelV x v) (ty : tyV X.K T x H) :
    s.TypeIs v T ∧ ∀ a, v = .ref a → ∃ ob, s.heap.get? a = some ob ∧ ob.dict = none := by
  cases x with
  | str z =>
    obtain ⟨t, rfl⟩ := r
    cases (show T = "str" from ty)
    exact ⟨typeIs_str s z t, fun _ e => nomatch e⟩
  | int i =>
    obtain ⟨t, rfl⟩ := r
    cases (show T = "int" from ty)
    exact ⟨typeIs_int s i t, fun _ e => nomatch e⟩
  | ref p =>
    cases r
    rcases ty with ⟨rfl, xs, hq⟩ | ⟨rfl, o, hk, hc, hd⟩ | ⟨rfl, hk⟩ | ⟨rfl, S, n, hk⟩
    · obtain ⟨its, _, pl, _⟩ := I.list hq
      refine ⟨pl.isList.typeIs, fun a e => ?_⟩
      cases e
      obtain ⟨o, n, e, c, hd, _⟩ := pl
      exact ⟨o, e, hd⟩
    · refine ⟨⟨o, I.kIn p o hk, hc⟩, fun a e => ?_⟩
      cases e
      exact ⟨o, I.kIn _ o hk, hd⟩
    · have z : ∃ o, s.heap.get? p = some o ∧ o.ExactDict := by
        rcases hk with ⟨kvs, hk⟩ | ⟨kvs, hk⟩
        · obtain ⟨_, _, _, _, o, _, _, e, ex, _⟩ := I.hok p _ hk
          exact ⟨o, e, ex⟩
        · obtain ⟨_, _, _, _, o, _, _, e, ex, _⟩ := I.hok p _ hk
          exact ⟨o, e, ex⟩
      obtain ⟨o, e, ex⟩ := z
      refine ⟨⟨o, e, ex.1⟩, fun a e2 => ?_⟩
      cases e2
      exact ⟨o, e, ex.2.1⟩
    · obtain ⟨o, _, _, _, e, ex, _⟩ := I.hok p _ hk
      refine ⟨⟨o, e, ex.1⟩, fun a e2 => ?_⟩
      cases e2
      exact ⟨o, e, ex.2.1⟩
  | _ => exact False.elim ty
def tBM0 (K : PySem.W.Frag) (T : String) (r : V → List V → Hp → VK → Prop) (to : TE) : TE := fun σ H Q => to σ H fun x H1 => tyV K T x H1 ∧ r x [] H1 Q
def tBM (K : PySem.W.Frag) (T : String) (r : V → List V → Hp → VK → Prop) (to : TE) (t : TA) : TE := fun σ H Q => to σ H fun x H1 => tyV K T x H1 ∧ t σ H1 fun xs H2 => r x xs H2 Q
variable {o e : Expr} {es : List Expr} {to : TE} {t : TA} {name : Str} {apos cpos : Pos} {T id : String} {r : V → List V → Hp → VK → Prop}
theorem pe_bm (pa : PlainAttrs T) (slot : Slot T name id) (hty : typeOf (.builtin id) = pure (.type "method_descriptor")) (hm : MtR X id r) (ho : PE X o to) (ha : PA X (e :: es) t)
    (hbase : attributeBase o name X.env (eval o X.env) = eval o X.env := by rfl)
    (hfew : ((backTo cpos (starEach (e :: es) X.env)).all (fun x => !x.1) && (backToKw cpos (keywordEach [] X.env)).all (fun x => x.1.isSome)
      && decide ((e :: es).length + ([] : List Keyword).length + (if ([] : List Keyword).isEmpty then 0 else 1) < 30)) = true := by rfl)
    (hline : (apos.endLine == cpos.line) = true := by rfl) (hs : starEach (e :: es) X.env = (false, eval e X.env) :: starEach es X.env := by rfl) (hplain : (backTo cpos (starEach es X.env)).any (·.1) = false := by rfl) :
    PE X (.Call (.Attribute o name apos) (e :: es) [] cpos) (tBM X.K T r to t) := by
  intro pins s σ H Q I h
  refine wpAny_Call_method_late hbase hfew hline rfl (thn (ho s σ H _ I h) fun v s1 ⟨x, H1, I1, r1, ty, q1⟩ => ?_)
  obtain ⟨h1, h2⟩ := tyV_is I1 r1 ty
  refine ⟨T, id, pa, slot, hty, h1, h2, ?_⟩
  have hA := ha cpos s1 σ H1 _ I1 q1
  rw [hs] at hA ⊢
  refine Calls.callWith_builtin (by show (false || (backTo cpos (starEach es X.env)).any (·.1)) = false; rw [hplain] <;> rfl) (Calls.evalArgs_plain ?_)
  exact thn hA fun us s2 ⟨vs, H2, I2, r2, q2⟩ => hm pins s2 σ H2 x vs v us Q I2 r1 r2 q2
/- xs.append(e), list.index on a module's tuple .. are MtR facts of 06m -/
end
end L2

namespace L2
open PySem PySem.Spec PyProof.Rows

def MtM (X : Cx) (id : String) (r : V → List V → Hp → VK → Prop) : Prop :=
  ∀ (pins : List (Addr × Obj)) (s : Shared) (σ : St) (H : Hp) (x : V) (xs : List V) (v : Value) (us : List Value) (Q : VK), Inv X pins σ H s → RelV x v → Vals xs us → r x xs H Q →
    wpAny (model X.prog X.w) X.A (call (.builtin id) (v :: us)) (EP X pins σ Q) X.xe s

/-! ### lists of values -/
theorem Vals.one : ∀ {x : V} {us : List Value}, Vals [x] us → ∃ u, us = [u] ∧ RelV x u
  | _, _, .cons r .nil => ⟨_, rfl, r⟩
theorem Vals.two : ∀ {x y : V} {us : List Value}, Vals [x, y] us → ∃ u v, us = [u, v] ∧ RelV x u ∧ RelV y v
  | _, _, _, .cons r (.cons q .nil) => ⟨_, _, rfl, r, q⟩
theorem Vals.eraseIdx : ∀ {xs : List V} {us : List Value} (i : Nat), Vals xs us → Vals (xs.eraseIdx i) (us.eraseIdx i)
  | _, _, _, .nil => .nil
  | _, _, 0, .cons _ t => t
  | _, _, i + 1, .cons r t => .cons r (Vals.eraseIdx i t)
theorem Vals.rep {xs : List V} {us : List Value} (h : Vals xs us) : ∀ k : Nat, Vals (List.replicate k xs).flatten (List.replicate k us).flatten
  | 0 => .nil
  | k + 1 => by
    rw [List.replicate_succ, List.replicate_succ, List.flatten_cons, List.flatten_cons]
    exact Vals.append h (Vals.rep h k)
theorem len_erase {α : Type} : ∀ (l : List α) (i : Nat), (l.eraseIdx i).length ≤ l.length
  | [], _ => Nat.le_refl _
  | _ :: _, 0 => Nat.le_succ _
  | _ :: r, i + 1 => Nat.succ_le_succ (len_erase r i)
theorem foldl_rep (its : List Value) : ∀ (k : Nat) (acc : List Value),
    List.foldl (fun x1 x2 => x1 ++ x2) acc.toArray (List.replicate k its.toArray) = (acc ++ (List.replicate k its).flatten).toArray
  | 0, acc => by simp
  | k + 1, acc => by
    have e : acc.toArray ++ its.toArray = (acc ++ its).toArray := by simp
    have e2 : (acc ++ its) ++ (List.replicate k its).flatten = acc ++ (List.replicate (k + 1) its).flatten := by
      rw [List.replicate_succ, List.flatten_cons, List.append_assoc]
    rw [← e2, ← foldl_rep its k (acc ++ its), ← e, List.replicate_succ, List.foldl_cons]

section
variable {X : Cx} {pins : List (Addr × Obj)} {σ : St} {H : Hp} {s : Shared} {l b : Addr} {xs ys zs : List V}

/-! ### the two steps: a tracked list is rewritten, a new list is laid -/
theorem Inv.lset {its its' : List Value} {n : Nat} {f : Array Value → Array Value} {t' : Nat} (I : Inv X pins σ H s) (hH : H l = some (.lst xs))
    (e : s.heap.get? l = some { cls := .type "list", data := .seq its.toArray n }) (hf : f its.toArray = its'.toArray) (hv : Vals ys its') (hz : ys.length ≤ sizeLine) :
    Inv X pins σ (upd H l (.lst ys)) { s with heap := s.heap.update l (Obj.mapSeq f), toks := t' } := by
  have q := PySem.IsL.update e f
  rw [hf] at q
  refine I.write (x := l) (e := l) (by rw [hH]; exact trivial) (.inl rfl) (fun b' u hb hu => (Heap.get?_update_other s.heap (Obj.mapSeq f) (Ne.symm hb)).trans hu) ⟨_, q⟩ ?_
  exact ⟨hz, its', _, hv, q⟩
theorem Inv.lnew {its : List Value} {t' : Nat} (I : Inv X pins σ H s) (hv : Vals ys its) (hz : ys.length ≤ sizeLine) :
    Inv X pins σ (upd H s.heap.objs.size (.lst ys)) { s with heap := s.heap.push { cls := .type "list", data := .seq its.toArray }, toks := t' } :=
  I.laid (fun _ _ q => Heap.get?_push_of_some _ q) (Nat.le_refl _) ⟨hz, its, 0, hv, Heap.get?_push_size _ rfl⟩
theorem Inv.fresh (I : Inv X pins σ H s) : H s.heap.objs.size = none := I.hok.fresh (Nat.le_refl _)
theorem Inv.lstM (I : Inv X pins σ H s) (hH : H l = some (.lst xs)) : xs.length ≤ sizeLine ∧ ∃ (its : List Value) (n : Nat), Vals xs its ∧ xs.length = its.length ∧ s.heap.get? l = some { cls := .type "list", data := .seq its.toArray n } := by
  obtain ⟨z, its, n, r, e⟩ := I.hok l _ hH
  exact ⟨z, its, n, r, r.length, e⟩

theorem notLongL {n : Nat} (h : n ≤ sizeLine) : Builtin.List.listTooLong n = false := by
  unfold Builtin.List.listTooLong
  exact decide_eq_false (by omega)
end

section
variable {X : Cx}

/-! ### methods -/
def rAppend : V → List V → Hp → VK → Prop := fun x vs H Q => ∃ l xs y, x = .ref l ∧ vs = [y] ∧ H l = some (.lst xs) ∧ xs.length < sizeLine ∧ Q .non (upd H l (.lst (xs ++ [y])))
theorem mt_append : MtM X "list.append" rAppend := by
  intro pins s σ H x vs v us Q I rx rv h
  obtain ⟨l, xs, y, rfl, rfl, hH, hz, q⟩ := h
  cases rx
  obtain ⟨u, rfl, ru⟩ := rv.one
  obtain ⟨z, its, n, r, hl, e⟩ := I.lstM hH
  refine call_meets F.slot_list_append ⟨_, e, rfl⟩ F.entry_list_append (F.args_list_append_2 _ _) (PySem.list_append l its.toArray n u (by rw [List.size_toArray]; omega)) ⟨e, ?_⟩
  refine ⟨.non, _, I.lset (its' := its ++ [u]) hH e (by simp) (r.append (.cons ru .nil)) ?_, rfl, q⟩
  rw [List.length_append, List.length_singleton]
  omega

def rExtend : V → List V → Hp → VK → Prop := fun x vs H Q => ∃ l b xs zs, x = .ref l ∧ vs = [.ref b] ∧ H l = some (.lst xs) ∧ H b = some (.lst zs) ∧ xs.length + zs.length ≤ sizeLine ∧ Q .non (upd H l (.lst (xs ++ zs)))
theorem mt_extend : MtM X "list.extend" rExtend := by
  intro pins s σ H x vs v us Q I rx rv h
  obtain ⟨l, b, xs, zs, rfl, rfl, hH, hB, hz, q⟩ := h
  cases rx
  obtain ⟨u, rfl, ru⟩ := rv.one
  cases ru
  obtain ⟨z, its, n, r, hl, e⟩ := I.lstM hH
  obtain ⟨z2, its2, n2, r2, hl2, e2⟩ := I.lstM hB
  have hsz : its.toArray.size + its2.toArray.size ≤ sizeLine := by rw [List.size_toArray, List.size_toArray]; omega
  have hlong : ¬ (!its.toArray.isEmpty && Builtin.List.listTooLong (its.toArray.size + its2.toArray.size)) = true := by
    rw [notLongL hsz, Bool.and_false]
    exact Bool.false_ne_true
  refine call_meets F.slot_list_extend ⟨_, e, rfl⟩ F.entry_list_extend (F.args_list_extend_2 _ _)
    (AutoSeq1.list_extend_list_list_0 l its.toArray n b its2.toArray n2 hlong (by rw [List.size_toArray]; omega) (by omega)) ⟨e, e2, ?_⟩
  refine ⟨.non, _, I.lset (its' := its ++ its2) hH e (by simp) (r.append r2) ?_, rfl, q⟩
  rw [List.length_append]
  omega

def rPopAt : V → List V → Hp → VK → Prop := fun x vs H Q => ∃ l xs i k y, x = .ref l ∧ vs = [.int i] ∧ H l = some (.lst xs) ∧ -(2 ^ 63) ≤ i ∧ i < 2 ^ 63 ∧ seqIndex? i xs.length = some k ∧ xs[k]? = some y ∧ Q y (upd H l (.lst (xs.eraseIdx k)))
theorem mt_popAt : MtM X "list.pop" rPopAt := by
  intro pins s σ H x vs v us Q I rx rv h
  obtain ⟨l, xs, i, k, y, rfl, rfl, hH, h1, h2, hk, hy, q⟩ := h
  cases rx
  obtain ⟨u, rfl, ru⟩ := rv.one
  obtain ⟨t, rfl⟩ := ru
  obtain ⟨z, its, n, r, hl, e⟩ := I.lstM hH
  obtain ⟨w, hw, rw'⟩ := r.get hy
  refine call_meets F.slot_list_pop ⟨_, e, rfl⟩ F.entry_list_pop (F.args_list_pop_2 _ _)
    (MeetsSeq.list_pop_at l its.toArray n i t k w (fitsIndex_both h1 h2) (by rw [List.size_toArray, ← hl]; exact hk) (by rw [← Array.getElem?_toList]; exact hw) (by rw [List.size_toArray]; omega)) ⟨e, ?_⟩
  refine ⟨y, _, I.lset (its' := its.eraseIdx k) hH e ?_ (r.eraseIdx k) ?_, rw', q⟩
  · show its.toArray.eraseIdxIfInBounds k = (its.eraseIdx k).toArray
    rw [List.eraseIdxIfInBounds_toArray]
  · have := len_erase xs k
    omega

/-! ### list + list, list += list, list * int -/
def rCat : R2 := fun x y H Q => ∃ l b xs zs, x = .ref l ∧ y = .ref b ∧ H l = some (.lst xs) ∧ H b = some (.lst zs) ∧ xs.length + zs.length ≤ sizeLine ∧ ∀ p, H p = none → Q (.ref p) (upd H p (.lst (xs ++ zs)))
theorem op_cat : OpR X (binaryOp .Add) rCat := by
  intro pins s σ H x y v u Q I rx ry h
  obtain ⟨l, b, xs, zs, rfl, rfl, hH, hB, hz, q⟩ := h
  cases rx
  cases ry
  obtain ⟨z, its, n, r, hl, e⟩ := I.lstM hH
  obtain ⟨z2, its2, n2, r2, hl2, e2⟩ := I.lstM hB
  refine PySem.P.add_list e e2 ?_ (by rw [List.size_toArray, List.size_toArray]; omega)
  have ea : its.toArray ++ its2.toArray = (its ++ its2).toArray := by simp
  rw [ea]
  exact ⟨.ref _, _, I.lnew (t' := s.toks) (r.append r2) (by rw [List.length_append]; omega), rfl, q _ I.fresh⟩
def rRep : R2 := fun x y H Q => ∃ l k xs, x = .ref l ∧ y = .int k ∧ H l = some (.lst xs) ∧ -(2 ^ 63) ≤ k ∧ k < 2 ^ 63 ∧ xs.length * k.toNat ≤ sizeLine ∧
  ∀ p, H p = none → Q (.ref p) (upd H p (.lst (List.replicate k.toNat xs).flatten))
theorem len_rep {α : Type} (xs : List α) (k : Nat) : (List.replicate k xs).flatten.length = k * xs.length := by
  induction k with
  | zero => simp
  | succ k ih => rw [List.replicate_succ, List.flatten_cons, List.length_append, ih, Nat.succ_mul, Nat.add_comm]
theorem op_rep : OpR X (binaryOp .Mult) rRep := by
  intro pins s σ H x y v u Q I rx ry h
  obtain ⟨l, k, xs, rfl, rfl, hH, h1, h2, hz, q⟩ := h
  cases rx
  obtain ⟨t, rfl⟩ := ry
  obtain ⟨z, its, n, r, hl, e⟩ := I.lstM hH
  have hlen : its.toArray.size * k.toNat ≤ sizeLine := by rw [List.size_toArray, ← hl]; exact hz
  have hcap : ¬ its.toArray.size * k.toNat > (2 ^ 63 - 1) / 8 := by
    have : (sizeLine : Nat) ≤ (2 ^ 63 - 1) / 8 := by decide
    omega
  have hfit : ¬ (!Builtin.List.listFitsIndex k) = true := by
    rw [fitsIndex_both h1 h2]
    exact Bool.false_ne_true
  have hlong : ¬ Builtin.List.listTooLong (its.toArray.size * k.toNat) = true := by
    rw [notLongL hlen]
    exact Bool.false_ne_true
  have hnew : List.foldl (fun x1 x2 => x1 ++ x2) #[] (List.replicate (if its.toArray.isEmpty = true then 0 else k.toNat) its.toArray) = (List.replicate k.toNat its).flatten.toArray := by
    have f0 : ∀ m : Nat, List.foldl (fun x1 x2 => x1 ++ x2) #[] (List.replicate m its.toArray) = (List.replicate m its).flatten.toArray := fun m => by
      have := foldl_rep its m []
      rw [List.nil_append] at this
      exact this
    rw [f0]
    cases its with
    | nil => simp
    | cons a r' => rw [if_neg (by simp)]
  refine wpAny_binaryOp_repeat_ref (T := "list") (U := "int") (by decide) ⟨_, e, rfl⟩ (fun s' => typeIs_int s' k t) noFill_list_mul F.fills_int_mul F.slot_int_rmul repeat_list F.slot_int_index.lookup
    (call_meets F.slot_int_rmul (typeIs_int s k t) F.entry_int_rmul (F.args_int_rmul_2 _ _) (int___rmul___int_list k t l its.toArray n)
      ⟨e, rfl, ⟨_, e, rfl⟩, call_meets F.slot_list_mul ⟨_, e, rfl⟩ F.entry_list_mul (F.args_list_mul_2 _ _) (AutoListH.list___mul___list_int_3 l its.toArray n k t hfit hcap hlong) ⟨e, ?_⟩⟩)
  rw [hnew]
  exact ⟨.ref _, _, I.lnew (t' := s.toks) (r.rep k.toNat) (by rw [len_rep, Nat.mul_comm]; exact hz), rfl, q _ I.fresh⟩

/-! ### del xs[i] -/
end

/-! ### xs[a:b] = ys -/
section
variable {prog : Program} {w : World} {A : Around} {E : Value → Shared → Prop} {s : Shared}
set_option maxRecDepth 100000 in
end

section
variable {X : Cx}
end
end L2

namespace L2
open PySem PySem.Spec PyProof.Rows

/-! ### lists of pairs as tables -/
section
variable {κ : Type} [DecidableEq κ]
def valV (kvs : List (κ × V)) (k : κ) : Option V := (kvs.find? fun kv => decide (kv.1 = k)).map (·.2)
def putK (kvs : List (κ × V)) (k : κ) (v : V) : List (κ × V) :=
  if (kvs.any fun kv => decide (kv.1 = k)) = true then kvs.map (fun kv => if kv.1 = k then (kv.1, v) else kv) else kvs ++ [(k, v)]
theorem valV_pos {p : κ × V} {r : List (κ × V)} {k : κ} (e : p.1 = k) : valV (p :: r) k = some p.2 := by simp [valV, List.find?_cons, e]
theorem valV_neg {p : κ × V} {r : List (κ × V)} {k : κ} (e : ¬ p.1 = k) : valV (p :: r) k = valV r k := by simp [valV, List.find?_cons, e]
theorem valV_any (k : κ) : ∀ kvs : List (κ × V), (kvs.any fun kv => decide (kv.1 = k)) = (valV kvs k).isSome
  | [] => rfl
  | p :: r => by
    rw [List.any_cons]
    by_cases e : p.1 = k
    · simp only [valV_pos e, decide_eq_true e, Bool.true_or, Option.isSome_some]
    · rw [valV_neg e, decide_eq_false e, Bool.false_or]; exact valV_any k r
theorem valV_snoc (k j : κ) (y : V) : ∀ kvs : List (κ × V), valV kvs k = none → valV (kvs ++ [(k, y)]) j = if j = k then some y else valV kvs j
  | [], _ => by
    by_cases e : k = j
    · rw [if_pos e.symm]; exact valV_pos (p := (k, y)) e
    · rw [if_neg (fun z => e z.symm)]; exact valV_neg (p := (k, y)) e
  | p :: r, hn => by
    rw [List.cons_append]
    have hk : ¬ p.1 = k := fun z => by rw [valV_pos z] at hn; cases hn
    rw [valV_neg hk] at hn
    have ih := valV_snoc k j y r hn
    by_cases e : p.1 = j
    · rw [valV_pos e, valV_pos e, if_neg (fun z => hk (e.trans z))]
    · rw [valV_neg e, valV_neg e, ih]
theorem length_putK (kvs : List (κ × V)) (k : κ) (v : V) : (putK kvs k v).length ≤ kvs.length + 1 := by
  unfold putK
  split
  · rw [List.length_map]; omega
  · rw [List.length_append, List.length_cons, List.length_nil]; omega
theorem putK_new {kvs : List (κ × V)} {k : κ} (v : V) (h : valV kvs k = none) : putK kvs k v = kvs ++ [(k, v)] := by
  unfold putK
  rw [valV_any, h]
  exact if_neg (by decide)

theorem RelO.isSome_eq {o : Option V} {u : Option Value} (r : RelO o u) : o.isSome = u.isSome := by
  cases o with
  | none => cases u with
    | none => rfl
    | some _ => exact (show False from r).elim
  | some _ => cases u with
    | none => exact (show False from r).elim
    | some _ => rfl
theorem KV.val {kvs : List (κ × V)} {vs : List (κ × Value)} (r : KV kvs vs) (k : κ) : RelO (valV kvs k) (valueAt vs k) := by
  unfold KV at r
  induction r with
  | nil => exact True.intro
  | @cons p q ps qs h t ih =>
    obtain ⟨h1, h2⟩ := h
    by_cases e : p.1 = k
    · have e' : q.1 = k := h1.symm.trans e
      have b : valueAt (q :: qs) k = some q.2 := by simp [valueAt, List.find?_cons, e']
      rw [valV_pos e, b]; exact h2
    · have e' : ¬ q.1 = k := fun z => e (h1.trans z)
      have b : valueAt (q :: qs) k = valueAt qs k := by simp [valueAt, List.find?_cons, e']
      rw [valV_neg e, b]; exact ih
theorem KV.any {kvs : List (κ × V)} {vs : List (κ × Value)} (r : KV kvs vs) (k : κ) : (kvs.any fun kv => decide (kv.1 = k)) = vs.any fun kv => decide (kv.1 = k) := by
  unfold KV at r
  induction r with
  | nil => rfl
  | cons h t ih => rw [List.any_cons, List.any_cons, ih, h.1]
theorem KV.repl {kvs : List (κ × V)} {vs : List (κ × Value)} (r : KV kvs vs) (k : κ) {y : V} {u : Value} (ry : RelV y u) :
    KV (kvs.map fun kv => if kv.1 = k then (kv.1, y) else kv) (vs.map fun kv => if kv.1 = k then (kv.1, u) else kv) := by
  unfold KV at r ⊢
  induction r with
  | nil => exact .nil
  | @cons p q ps qs h t ih =>
    rw [List.map_cons, List.map_cons]
    refine .cons ?_ ih
    obtain ⟨h1, h2⟩ := h
    by_cases e : p.1 = k
    · rw [if_pos e, if_pos (h1.symm.trans e)]; exact ⟨h1, ry⟩
    · rw [if_neg e, if_neg (fun z => e (h1.trans z))]; exact ⟨h1, h2⟩
theorem KV.put {kvs : List (κ × V)} {vs : List (κ × Value)} (r : KV kvs vs) (k : κ) {y : V} {u : Value} (ry : RelV y u) : KV (putK kvs k y) (stored vs k u) := by
  unfold putK stored
  rw [r.any k]
  by_cases e : (vs.any fun kv => decide (kv.1 = k)) = true
  · rw [if_pos e, if_pos e]; exact r.repl k ry
  · rw [if_neg e, if_neg e]; exact Paired.snoc r ⟨rfl, ry⟩
theorem KV.keys {kvs : List (κ × V)} {vs : List (κ × Value)} (r : KV kvs vs) : kvs.map (·.1) = vs.map (·.1) := by
  unfold KV at r
  induction r with
  | nil => rfl
  | cons h t ih => rw [List.map_cons, List.map_cons, ih, h.1]
theorem KV.length {kvs : List (κ × V)} {vs : List (κ × Value)} (r : KV kvs vs) : kvs.length = vs.length := Paired.length r
end

/-! ### a tracked dict, its keys ints and texts or tuples of these -/
theorem kV_is {P : Program} {w : World} {k : Key} {u : Value} (r : RelV (kV k) u) : (mixKind P w).is k u = true := by
  cases k with
  | inl i => obtain ⟨t, e⟩ := (show ∃ t, u = Value.int i t from r); subst e; exact mixKind_int P w i t
  | inr x => obtain ⟨t, e⟩ := (show ∃ t, u = Value.str x t from r); subst e; exact mixKind_str P w x t
theorem items_are {P : Program} {w : World} : ∀ {ks : List Key} {us : List Value}, Vals (ks.map kV) us → ItemsAre (mixKind P w) ks us
  | [], _, r => by rw [List.map_nil] at r; cases r; exact .nil
  | k :: ks, _, r => by
    rw [List.map_cons] at r
    cases r with
    | cons h t => exact .cons (kV_is h) (items_are t)

abbrev KT (H : Hp) : List (List Key × V) → List (List Key × Addr × Value) → Prop := Paired fun p q => p.1 = q.1 ∧ H q.2.1 = some (.tup (p.1.map kV)) ∧ RelV p.2 q.2.2
theorem KT.val {H : Hp} {kvs : List (List Key × V)} {xs : List (List Key × Addr × Value)} (r : KT H kvs xs) (k : List Key) : RelO (valV kvs k) ((atKey xs k).map (·.2)) := by
  induction r with
  | nil => exact True.intro
  | @cons p q ps qs h t ih =>
    obtain ⟨h1, _, h2⟩ := h
    by_cases e : p.1 = k
    · have e' : q.1 = k := h1.symm.trans e
      have b : atKey (q :: qs) k = some q.2 := by simp [atKey, List.find?_cons, e']
      rw [valV_pos e, b]; exact h2
    · have e' : ¬ q.1 = k := fun z => e (h1.trans z)
      have b : atKey (q :: qs) k = atKey qs k := by simp [atKey, List.find?_cons, e']
      rw [valV_neg e, b]; exact ih
theorem KT.repl {H : Hp} {kvs : List (List Key × V)} {xs : List (List Key × Addr × Value)} (r : KT H kvs xs) (k : List Key) {y : V} {u : Value} (ry : RelV y u) :
    KT H (kvs.map fun kv => if kv.1 = k then (kv.1, y) else kv) (xs.map (putAt k u)) := by
  induction r with
  | nil => exact .nil
  | @cons p q ps qs h t ih =>
    rw [List.map_cons, List.map_cons]
    refine .cons ?_ ih
    obtain ⟨h1, h2, h3⟩ := h
    unfold putAt
    by_cases e : p.1 = k
    · rw [if_pos e, if_pos (h1.symm.trans e)]; exact ⟨h1, h2, ry⟩
    · rw [if_neg e, if_neg (fun z => e (h1.trans z))]; exact ⟨h1, h2, h3⟩
theorem KT.put {H : Hp} {kvs : List (List Key × V)} {xs : List (List Key × Addr × Value)} (r : KT H kvs xs) (k : List Key) {b : Addr} {y : V} {u : Value} (hb : H b = some (.tup (k.map kV))) (ry : RelV y u) :
    KT H (putK kvs k y) (storedH xs k b u) := by
  have e : (kvs.any fun kv => decide (kv.1 = k)) = (atKey xs k).isSome := by
    rw [valV_any, (r.val k).isSome_eq, Option.isSome_map]
  unfold putK storedH
  rw [e]
  by_cases q : (atKey xs k).isSome = true
  · rw [if_pos q, if_pos q]; exact r.repl k ry
  · rw [if_neg q, if_neg q]; exact Paired.snoc r ⟨rfl, hb, ry⟩
theorem KT.keeps {H H' : Hp} {kvs : List (List Key × V)} {xs : List (List Key × Addr × Value)} (r : KT H kvs xs) (ht : ∀ b ys, H b = some (.tup ys) → H' b = some (.tup ys)) : KT H' kvs xs :=
  Paired.mapP r fun _ _ z => ⟨z.1, ht _ _ z.2.1, z.2.2⟩

section
variable {P : Program} {w : World} {H : Hp} {h : Heap} {a : Addr}
theorem rd_of {u : HO} (ok : HOk P w H h) (e : Rd H a u) : ObjOk P w H h a u := e.ok ok
theorem dk_rd {kvs : List (Key × V)} (ok : HOk P w H h) (e : Rd H a (.dK kvs)) : kvs.length ≤ sizeLine ∧ (a == sysModules) = false ∧ ∃ vs, KV kvs vs ∧ h.DictOf (mixKind P w) a vs :=
  show ObjOk P w H h a (.dK kvs) from rd_of ok e
theorem dk_of {kvs : List (Key × V)} (ok : HOk P w H h) (e : H a = some (.dK kvs)) : kvs.length ≤ sizeLine ∧ (a == sysModules) = false ∧ ∃ vs, KV kvs vs ∧ h.DictOf (mixKind P w) a vs := dk_rd ok (.inl e)
theorem key_of {ks : List Key} (ok : HOk P w H h) (e : H a = some (.tup (ks.map kV))) : (tupleKind (mixKind P w)).is h ks a := by
  obtain ⟨_, its, r, o, h1, h2, n, h3⟩ := (show ObjOk P w H h a (.tup (ks.map kV)) from ok a _ e)
  exact ⟨o, its.toArray, n, h1, h2, h3, by simpa using items_are r⟩
theorem dt_rd {kvs : List (List Key × V)} (ok : HOk P w H h) (e : Rd H a (.dT kvs)) : kvs.length ≤ sizeLine ∧ (a == sysModules) = false ∧
    ∃ xs, KT H kvs xs ∧ h.DictOfH (tupleKind (mixKind P w)) a xs := by
  obtain ⟨z, y, xs, r, o, es, ep, h1, h2, h3, h4, h5⟩ := (show ObjOk P w H h a (.dT kvs) from rd_of ok e)
  refine ⟨z, y, xs, r, o, es, ep, h1, h2, h3, h4, fun x hx => ?_, h5⟩
  have all : ∀ {l : List (List Key × V)} {m : List (List Key × Addr × Value)}, KT H l m → ∀ x ∈ m, (tupleKind (mixKind P w)).is h x.1 x.2.1 := by
    intro l m q
    induction q with
    | nil => intro x hx; exact nomatch hx
    | @cons p q ps qs hq t ih =>
      intro x hx
      rcases List.mem_cons.mp hx with e | hx
      · subst e
        exact key_of ok (by rw [← hq.1]; exact hq.2.1)
      · exact ih x hx
  exact all r x hx
theorem dt_of {kvs : List (List Key × V)} (ok : HOk P w H h) (e : H a = some (.dT kvs)) : kvs.length ≤ sizeLine ∧ (a == sysModules) = false ∧
    ∃ xs, KT H kvs xs ∧ h.DictOfH (tupleKind (mixKind P w)) a xs := dt_rd ok (.inl e)
end

def DGet (H : Hp) (a : Addr) (y : V) (r : Option V) : Prop :=
  (∃ kvs k, Rd H a (.dK kvs) ∧ y = kV k ∧ r = valV kvs k) ∨ ∃ kvs k b, Rd H a (.dT kvs) ∧ y = .ref b ∧ H b = some (.tup (k.map kV)) ∧ r = valV kvs k
def DPut (H : Hp) (a : Addr) (y v : V) (H' : Hp) : Prop :=
  (∃ kvs k, H a = some (.dK kvs) ∧ y = kV k ∧ kvs.length < sizeLine ∧ H' = upd H a (.dK (putK kvs k v))) ∨
  ∃ kvs k b, H a = some (.dT kvs) ∧ y = .ref b ∧ H b = some (.tup (k.map kV)) ∧ kvs.length < sizeLine ∧ H' = upd H a (.dT (putK kvs k v))
theorem DGet.t {H : Hp} {a b : Addr} {kvs : List (List Key × V)} {k : List Key} (e : H a = some (.dT kvs)) (eb : H b = some (.tup (k.map kV))) : DGet H a (.ref b) (valV kvs k) := .inr ⟨kvs, k, b, .inl e, rfl, eb, rfl⟩
theorem DPut.t {H : Hp} {a b : Addr} {kvs : List (List Key × V)} {k : List Key} {v : V} (e : H a = some (.dT kvs)) (eb : H b = some (.tup (k.map kV))) (hl : kvs.length < sizeLine) :
    DPut H a (.ref b) v (upd H a (.dT (putK kvs k v))) := .inr ⟨kvs, k, b, e, rfl, eb, hl, rfl⟩

section
variable {X : Cx} {pins : List (Addr × Obj)} {σ : St} {H : Hp} {s : Shared} {a : Addr} {y v : V} {u r : Value} {o : Option V} {A : Around} {E : Value → Shared → Prop}

theorem Inv.big (I : Inv X pins σ H s) : sysModules < s.heap.objs.size := by
  have h : mainGlobals < s.heap.objs.size := (I.mod.glob.keeps I.bk).lt
  exact Nat.lt_trans (by decide) h

theorem d_getItem {Q : Value → Shared → Prop} (hu : A.units + 1 < cLine) (I : Inv X pins σ H s) (g : DGet H a y (some v)) (ry : RelV y u) (h : ∀ w' s', Inv X pins σ H s' → RelV v w' → Q w' s') :
    wpAny (model X.prog X.w) A (getItem (.ref a) u) Q E s := by
  rcases g with ⟨kvs, k, e, ey, l⟩ | ⟨kvs, k, b, e, ey, eb, l⟩
  · subst ey
    obtain ⟨z, hd, vs, rel, dd⟩ := dk_rd I.hok e
    obtain ⟨w', hw, rw'⟩ := RelO.some_of (v := v) (o := valueAt vs k) (by rw [l]; exact rel.val k)
    exact wpAny_getItem_of (kV_is ry) dd.mapOf hw (h w' _ (I.tok _) rw')
  · subst ey
    cases (show u = Value.ref b from ry)
    obtain ⟨z, hd, xs, rel, dd⟩ := dt_rd I.hok e
    obtain ⟨w', hw, rw'⟩ := RelO.some_of (v := v) (o := (atKey xs k).map (·.2)) (by rw [l]; exact rel.val k)
    obtain ⟨p, hp, hp2⟩ := Option.map_eq_some_iff.mp hw
    refine wpAny_getItem_heap (tupleKind_room_in1 hu) (key_of I.hok eb) dd hp ?_
    rw [hp2]
    exact h w' _ (I.tok _) rw'
theorem d_in {Q : Value → Shared → Prop} (hu : A.units + 1 < cLine) (I : Inv X pins σ H s) (g : DGet H a y o) (ry : RelV y u) (h : ∀ s', Inv X pins σ H s' → Q (.bool o.isSome) s') :
    wpAny (model X.prog X.w) A (compareOp .In u (.ref a)) Q E s := by
  rcases g with ⟨kvs, k, e, ey, l⟩ | ⟨kvs, k, b, e, ey, eb, l⟩
  · subst ey
    obtain ⟨z, hd, vs, rel, dd⟩ := dk_rd I.hok e
    refine wpAny_in_of (kV_is ry) hd dd.mapOf ?_
    rw [← (rel.val k).isSome_eq, ← l]
    exact h _ (I.tok _)
  · subst ey
    cases (show u = Value.ref b from ry)
    obtain ⟨z, hd, xs, rel, dd⟩ := dt_rd I.hok e
    refine wpAny_in_heap (tupleKind_room_in1 hu) (key_of I.hok eb) hd dd ?_
    have q := (rel.val k).isSome_eq
    rw [Option.isSome_map] at q
    rw [← q, ← l]
    exact h _ (I.tok _)
theorem d_notIn {Q : Value → Shared → Prop} (hu : A.units + 1 < cLine) (I : Inv X pins σ H s) (g : DGet H a y o) (ry : RelV y u) (h : ∀ s', Inv X pins σ H s' → Q (.bool (!o.isSome)) s') :
    wpAny (model X.prog X.w) A (compareOp .NotIn u (.ref a)) Q E s := by
  rcases g with ⟨kvs, k, e, ey, l⟩ | ⟨kvs, k, b, e, ey, eb, l⟩
  · subst ey
    obtain ⟨z, hd, vs, rel, dd⟩ := dk_rd I.hok e
    refine wpAny_notIn_of (kV_is ry) hd dd.mapOf ?_
    rw [← (rel.val k).isSome_eq, ← l]
    exact h _ (I.tok _)
  · subst ey
    cases (show u = Value.ref b from ry)
    obtain ⟨z, hd, xs, rel, dd⟩ := dt_rd I.hok e
    refine wpAny_notIn_heap (tupleKind_room_in1 hu) (key_of I.hok eb) hd dd ?_
    have q := (rel.val k).isSome_eq
    rw [Option.isSome_map] at q
    rw [← q, ← l]
    exact h _ (I.tok _)
theorem d_write {h' : Heap} {t' : Nat} {ob : HO} (I : Inv X pins σ H s) (mu : Mut (H a)) (hs : Heap.SameBut a s.heap h') (he : ∃ q, h'.get? a = some q) (new : ObjOk X.prog X.w (upd H a ob) h' a ob) :
    Inv X pins σ (upd H a ob) { s with heap := h', toks := t' } :=
  I.write (x := a) (e := a) mu (.inl rfl) (fun b q hb z => (hs.2 b hb).trans z) he new
theorem dk_new {P : Program} {w : World} {H' : Hp} {h' : Heap} {kvs : List (Key × V)} {vs : List (Key × Value)} (z : kvs.length ≤ sizeLine) (hd : (a == sysModules) = false) (rel : KV kvs vs) (dd : h'.DictOf (mixKind P w) a vs) :
    ObjOk P w H' h' a (.dK kvs) := ⟨z, hd, vs, rel, dd⟩
theorem d_setItem {H' : Hp} {Q : Unit → Shared → Prop} (hu : A.units + 1 < cLine) (I : Inv X pins σ H s) (g : DPut H a y v H') (ry : RelV y u) (rv : RelV v r) (h : ∀ s', Inv X pins σ H' s' → Q () s') :
    wpAny (model X.prog X.w) A (setItem (.ref a) u r) Q E s := by
  rcases g with ⟨kvs, k, e, ey, l, eH⟩ | ⟨kvs, k, b, e, ey, eb, l, eH⟩
  · subst ey eH
    obtain ⟨z, hd, vs, rel, dd⟩ := dk_of I.hok e
    have hz : vs.length ≤ sizeLine := by rw [← rel.length]; exact z
    have hl : (putK kvs k v).length ≤ sizeLine := by have := length_putK kvs k v; omega
    refine wpAny_setItem_pairs (hsz := hz) (kV_is ry) dd fun h' dd' hs => h _ ?_
    have he : ∃ q, h'.get? a = some q := let ⟨q, _, _, hq, _⟩ := dd'; ⟨q, hq⟩
    exact d_write I (by rw [e]; exact True.intro) hs he (dk_new hl hd (rel.put k rv) dd')
  · subst ey eH
    cases (show u = Value.ref b from ry)
    obtain ⟨z, hd, xs, rel, dd⟩ := dt_of I.hok e
    have hz : xs.length ≤ sizeLine := by rw [← Paired.length rel]; exact z
    have hl : (putK kvs k v).length ≤ sizeLine := by have := length_putK kvs k v; omega
    refine wpAny_setItem_heap (hsz := hz) (tupleKind_room_in1 hu) (key_of I.hok eb) dd fun h' dd' hs => h _ ?_
    obtain ⟨q, es, ep, hq, h2, h3, h4, _, h5⟩ := dd'
    refine d_write I (by rw [e]; exact True.intro) hs ⟨q, hq⟩ ⟨hl, hd, _, (rel.put k eb rv).keeps fun c ys ec => ?_, q, es, ep, hq, h2, h3, h4, h5⟩
    rw [upd_ne (ne_of ec e (fun z => nomatch z))]
    exact ec
end

section
variable {X : Cx} {pins : List (Addr × Obj)} {σ : St} {H : Hp} {s : Shared} {a : Addr} {kvs : List (Key × V)} {k : Key} {u : Value} {A : Around} {E : Value → Shared → Prop}
theorem d_len {Q : Value → Shared → Prop} (I : Inv X pins σ H s) (e : Rd H a (.dK kvs)) (h : ∀ t s', Inv X pins σ H s' → Q (.int kvs.length t) s') : wpAny (model X.prog X.w) A (call (.builtin "len") [.ref a]) Q E s := by
  obtain ⟨z, hd, vs, rel, dd⟩ := dk_rd I.hok e
  refine call_len_dict hd dd (by rw [← rel.length]; rw [sizeLine_eq] at z; omega) ?_
  rw [← rel.length]
  exact h _ _ (I.tok _)
end

/-! ### readings and rules -/
def NoSl (i : Expr) : Prop := ∀ ov iv, subscripted i false ov iv = operate [ov, iv] (getItem ov iv)
theorem subD_of {prog : Program} {w : World} {A : Around} {E : Value → Shared → Prop} {s : Shared} {env : Env} {value slice : Expr} {pos : Pos} {T id : String} {Q : Value → Shared → Prop}
    (hl : typeLookup (.type T) "__getitem__" = pure (some (.builtin id))) (hs : NoSl slice)
    (h : wpAny (model prog w) A (eval value env) (fun o s₁ => wpAny (model prog w) A (eval slice env) (fun i s₂ => s₂.TypeIs o T ∧ wpAny (model prog w) A (getItem o i) Q E s₂) E s₁) E s) :
    wpAny (model prog w) A (eval (.Subscript value slice pos) env) Q E s := by
  refine Subscript_ (wpAny_mono h (fun o s₁ h₁ => wpAny_mono h₁ (fun i s₂ h₂ => ?_) fun _ _ x => x) fun _ _ x => x)
  obtain ⟨hT, h₂⟩ := h₂
  unfold subscriptTail
  refine wpAny_bind ?_
  rw [getitemInPython_of_ne hT.not_modules]
  refine wpAny_bind (wpAny_specialOf hT hl ?_)
  have fin : wpAny (model prog w) A (subscripted slice false o i) (fun r s₃ => wpAny (model prog w) A (letTemporaryGo value o r >>= fun _ => pure r) Q E s₃) E s₂ := by
    rw [hs o i]
    exact wpAny_operating (wpAny_mono h₂ (fun r s₃ h₃ => wpAny_bind (wpAny_letTemporaryGo (wpAny_pure h₃))) fun _ _ x => x)
  first
    | exact wpAny_pure (wpAny_bind fin)
    | exact wpAny_bind (wpAny_pure (wpAny_bind fin))
    | exact wpAny_bind fin

theorem dict_typeIs {X : Cx} {pins : List (Addr × Obj)} {σ : St} {H : Hp} {s : Shared} {a : Addr} {y : V} {o : Option V} (I : Inv X pins σ H s) (g : DGet H a y o) : s.TypeIs (.ref a) "dict" := by
  rcases g with ⟨kvs, k, e, _, _⟩ | ⟨kvs, k, b, e, _, _, _⟩
  · obtain ⟨_, _, vs, _, dd⟩ := dk_rd I.hok e
    exact dd.typeIs
  · obtain ⟨_, _, xs, _, dd⟩ := dt_rd I.hok e
    exact dd.typeIs
def tDGet (td ty : TE) : TE := fun σ H Q => td σ H fun x H1 => ty σ H1 fun y H2 => ∃ a v, x = .ref a ∧ DGet H2 a y (some v) ∧ Q v H2
def tDIn (ty td : TE) : TE := fun σ H Q => ty σ H fun y H1 => td σ H1 fun x H2 => ∃ a o, x = .ref a ∧ DGet H2 a y o ∧ Q (.bl o.isSome) H2
def tDNotIn (ty td : TE) : TE := fun σ H Q => ty σ H fun y H1 => td σ H1 fun x H2 => ∃ a o, x = .ref a ∧ DGet H2 a y o ∧ Q (.bl (!o.isSome)) H2
def sDPut (td ty tv : TE) : TS := fun D σ H => tv σ H fun v H1 => td σ H1 fun x H2 => ty σ H2 fun y H3 => ∃ a H4, x = .ref a ∧ DPut H3 a y v H4 ∧ D.nx σ H4
section
variable {X : Cx} {o i e value : Expr} {pos pos' tpos : Pos} {td ty tv : TE}
theorem pe_dget (hu : X.A.units + 1 < cLine) (ho : PE X o td) (hi : PE X i ty) (hs : NoSl i) : PE X (.Subscript o i pos) (tDGet td ty) := by
  intro pins s σ H Q I h
  refine subD_of PySem.F.slot_dict_getitem.lookup hs (thn (ho s σ H _ I h) fun u s1 ⟨x, H1, I1, rx, q1⟩ => thn (hi s1 σ H1 _ I1 q1) fun iv s2 ⟨y, H2, I2, ry, a, v, ex, g, q2⟩ => ?_)
  subst ex
  obtain rfl : u = Value.ref a := rx
  exact ⟨dict_typeIs I2 g, d_getItem hu I2 g ry fun w' s3 I3 rw' => ⟨v, H2, I3, rw', q2⟩⟩
theorem pc_din (hu : X.A.units + 1 < cLine) (hi : PE X i ty) (ho : PE X o td) : PC X .In i o (tDIn ty td) := by
  intro pins s σ H Q I h
  refine thn (hi s σ H _ I h) fun iv s1 ⟨y, H1, I1, ry, q1⟩ => thn (ho s1 σ H1 _ I1 q1) fun u s2 ⟨x, H2, I2, rx, a, ov, ex, g, q2⟩ => ?_
  subst ex
  obtain rfl : u = Value.ref a := rx
  exact d_in hu I2 g ry fun s3 I3 => ⟨.bl ov.isSome, H2, I3, rfl, q2⟩
theorem pc_dnotin (hu : X.A.units + 1 < cLine) (hi : PE X i ty) (ho : PE X o td) : PC X .NotIn i o (tDNotIn ty td) := by
  intro pins s σ H Q I h
  refine thn (hi s σ H _ I h) fun iv s1 ⟨y, H1, I1, ry, q1⟩ => thn (ho s1 σ H1 _ I1 q1) fun u s2 ⟨x, H2, I2, rx, a, ov, ex, g, q2⟩ => ?_
  subst ex
  obtain rfl : u = Value.ref a := rx
  exact d_notIn hu I2 g ry fun s3 I3 => ⟨.bl (!ov.isSome), H2, I3, rfl, q2⟩
theorem ps_dput (hu : X.A.units + 1 < cLine) (ho : PE X o td) (hi : PE X i ty) (hv : PE X value tv) (hs : swapsWith value (some (.Subscript o i pos')) pos.line X.env = pure false) :
    PS X (.Assign [.Subscript o i pos'] value pos) (sDPut td ty tv) := by
  intro pins s σ H D I h
  refine wpAny_Assign_Subscript (thn (hv s σ H _ I h) fun r s1 ⟨v, H1, I1, rv, q1⟩ => thn (ho s1 σ H1 _ I1 q1) fun u s2 ⟨x, H2, I2, rx, q2⟩ => thn (hi s2 σ H2 _ I2 q2) fun iv s3 ⟨y, H3, I3, ry, a, H4, ex, g, q3⟩ => ?_) hs
  subst ex
  obtain rfl : u = Value.ref a := rx
  exact d_setItem hu I3 g ry rv fun s4 I4 => ⟨σ, H4, I4, q3⟩
end

/-! ### displays -/
theorem dk_empty {P : Program} {w : World} {H : Hp} (h : Heap) (hb : sysModules < h.objs.size) : ObjOk P w H (h.push { cls := .type "dict", data := .dict #[] }) h.objs.size (.dK []) :=
  ⟨Nat.zero_le _, beq_eq_false_iff_ne.mpr (Ne.symm (Nat.ne_of_lt hb)), [], .nil, Heap.DictOf.new h⟩
theorem dt_empty {P : Program} {w : World} {H : Hp} (h : Heap) (hb : sysModules < h.objs.size) : ObjOk P w H (h.push { cls := .type "dict", data := .dict #[] }) h.objs.size (.dT []) :=
  ⟨Nat.zero_le _, beq_eq_false_iff_ne.mpr (Ne.symm (Nat.ne_of_lt hb)), [], .nil, _, #[], 0, Heap.get?_push_size _ rfl, ⟨rfl, rfl, rfl⟩, rfl, rfl, List.nodup_nil⟩
def tDNewK : TE := fun _ H Q => ∀ p, H p = none → Q (.ref p) (upd H p (.dK []))
def tDNewT : TE := fun _ H Q => ∀ p, H p = none → Q (.ref p) (upd H p (.dT []))
section
variable {X : Cx} {pos : Pos}
theorem pe_dnewK : PE X (.Dict [] [] pos) tDNewK := fun pins s σ H Q I h =>
  wpAny_Dict_empty ⟨.ref s.heap.objs.size, _, I.laid (a := s.heap.objs.size) (o := .dK []) (t' := s.toks) (fun _ _ q => Heap.get?_push_of_some _ q) (Nat.le_refl _) (dk_empty s.heap I.big), rfl, h _ (I.hok.fresh (Nat.le_refl _))⟩
theorem pe_dnewT : PE X (.Dict [] [] pos) tDNewT := fun pins s σ H Q I h =>
  wpAny_Dict_empty ⟨.ref s.heap.objs.size, _, I.laid (a := s.heap.objs.size) (o := .dT []) (t' := s.toks) (fun _ _ q => Heap.get?_push_of_some _ q) (Nat.le_refl _) (dt_empty s.heap I.big), rfl, h _ (I.hok.fresh (Nat.le_refl _))⟩
end

def tPairs : List (TE × TE) → St → Hp → (List (V × V) → Hp → Prop) → Prop
  | [], _, H, Q => Q [] H
  | (tk, tv) :: r, σ, H, Q => tk σ H fun x H1 => tv σ H1 fun y H2 => tPairs r σ H2 fun ps H3 => Q ((x, y) :: ps) H3
abbrev VV : List (V × V) → List (Value × Value) → Prop := Paired fun p q => RelV p.1 q.1 ∧ RelV p.2 q.2
def PPs (X : Cx) (pos : Pos) (keys : List (Option Expr)) (values : List Expr) (trs : List (TE × TE)) : Prop :=
  ∀ (pins : List (Addr × Obj)) (s : Shared) (σ : St) (H : Hp) (Q : List (V × V) → Hp → Prop), Inv X pins σ H s → tPairs trs σ H Q →
    wpAny (model X.prog X.w) X.A (evalPairs (pairTrees keys values X.env pos)) (fun vs s' => ∃ ps H', Inv X pins σ H' s' ∧ VV ps vs ∧ Q ps H') X.xe s
theorem pps_nil {X : Cx} {pos : Pos} : PPs X pos [] [] [] := fun pins s σ H Q I h => pairTrees_nil_walk ⟨[], H, I, .nil, h⟩
theorem pps_cons {X : Cx} {pos : Pos} {k v : Expr} {ks : List (Option Expr)} {vs : List Expr} {tk tv : TE} {trs : List (TE × TE)} (hk : PE X k tk) (hv : PE X v tv) (hr : PPs X pos ks vs trs) :
    PPs X pos (some k :: ks) (v :: vs) ((tk, tv) :: trs) := fun pins s σ H Q I h =>
  pairTrees_cons_walk (thn (hk s σ H _ I h) fun u s1 ⟨x, H1, I1, rx, q1⟩ => thn (hv s1 σ H1 _ I1 q1) fun w2 s2 ⟨y, H2, I2, ry, q2⟩ =>
    thn (hr pins s2 σ H2 _ I2 q2) fun ws s3 ⟨ps, H3, I3, rel, q3⟩ => ⟨(x, y) :: ps, H3, I3, .cons ⟨rx, ry⟩ rel, q3⟩)

def mergeK (kvs more : List (Key × V)) : List (Key × V) := more.foldl (fun acc kv => putK acc kv.1 kv.2) kvs
theorem KV.merge : ∀ {more : List (Key × V)} {rs : List (Key × Value)} {kvs : List (Key × V)} {vs : List (Key × Value)}, KV more rs → KV kvs vs → KV (mergeK kvs more) (merged vs rs) := by
  intro more rs kvs vs r
  unfold KV at r
  induction r generalizing kvs vs with
  | nil => intro q; exact q
  | @cons p q ps qs h t ih =>
    intro r0
    have e : KV (putK kvs p.1 p.2) (stored vs q.1 q.2) := by
      have := r0.put p.1 h.2
      rw [← h.1]; exact this
    exact ih e
theorem length_mergeK : ∀ (more kvs : List (Key × V)), (mergeK kvs more).length ≤ kvs.length + more.length
  | [], kvs => by show kvs.length ≤ kvs.length + 0; omega
  | p :: r, kvs => by
    have h1 := length_mergeK r (putK kvs p.1 p.2)
    have h2 := length_putK kvs p.1 p.2
    show (mergeK (putK kvs p.1 p.2) r).length ≤ _
    rw [List.length_cons]; omega
theorem carries_of {P : Program} {w : World} : ∀ {kvs : List (Key × V)} {ws : List (Value × Value)}, VV (kvs.map fun kv => (kV kv.1, kv.2)) ws → ∃ rs, Carries (mixKind P w) ws rs ∧ KV kvs rs
  | [], _, r => by rw [List.map_nil] at r; cases r; exact ⟨[], True.intro, .nil⟩
  | p :: kvs, _, r => by
    rw [List.map_cons] at r
    cases r with
    | @cons a b as bs h t =>
      obtain ⟨rs, c, q⟩ := carries_of (P := P) (w := w) t
      obtain ⟨b1, b2⟩ := b
      exact ⟨(p.1, b2) :: rs, ⟨kV_is h.1, rfl, c⟩, .cons ⟨rfl, h.2⟩ q⟩
def tDisp (trs : List (TE × TE)) : TE := fun σ H Q => ∀ p, H p = none → tPairs trs σ (upd H p (.dK [])) fun ps H2 => H2 p = some (.dK []) ∧ ∃ kvs : List (Key × V), ps = kvs.map (fun kv => (kV kv.1, kv.2)) ∧ kvs.length ≤ 15 ∧ Q (.ref p) (upd H2 p (.dK (mergeK [] kvs)))
theorem pe_disp {X : Cx} {pos : Pos} {keys : List (Option Expr)} {values : List Expr} {trs : List (TE × TE)} (h : PPs X pos keys values trs) (hall : keys.all (·.isSome) = true) (hl : keys.length = values.length) (h0 : keys ≠ [])
    (h15 : keys.length ≤ 15) : PE X (.Dict keys values pos) (tDisp trs) := by
  intro pins s σ H Q I q
  have hn := I.hok.fresh (Nat.le_refl s.heap.objs.size)
  have I1 := I.laid (a := s.heap.objs.size) (o := .dK []) (h' := s.heap.push { cls := .type "dict", data := .dict #[] }) (t' := s.toks) (fun _ _ q => Heap.get?_push_of_some _ q) (Nat.le_refl _) (dk_empty s.heap I.big)
  refine wpAny_Dict_walk (knd := mixKind X.prog X.w) hall hl h0 h15 (thn (h pins _ σ _ _ I1 (q _ hn)) fun ws s2 ⟨ps, H2, I2, rel, e, kvs, ep, lk, q2⟩ => ?_)
  subst ep
  obtain ⟨rs, c, rk⟩ := carries_of (P := X.prog) (w := X.w) rel
  obtain ⟨z, hd, vs0, r0, dd⟩ := dk_of I2.hok e
  cases r0
  refine ⟨rs, c, dd, fun h' dd' hs => ⟨.ref s.heap.objs.size, _, ?_, rfl, q2⟩⟩
  have hz : (mergeK [] kvs).length ≤ sizeLine := by
    have h1 := length_mergeK kvs []
    rw [List.length_nil] at h1
    rw [sizeLine_eq]; omega
  have he : ∃ q, h'.get? s.heap.objs.size = some q := let ⟨q, _, _, hq, _⟩ := dd'; ⟨q, hq⟩
  exact d_write I2 (by rw [e]; exact True.intro) hs he (dk_new hz hd (rk.merge .nil) dd')

/-! ### methods -/
section
variable {X : Cx} {pins : List (Addr × Obj)} {σ : St} {H : Hp} {s : Shared} {a : Addr} {y d : V} {u r : Value} {o : Option V} {A : Around} {E : Value → Shared → Prop}
end

section
variable {X : Cx} {o e f : Expr} {apos cpos : Pos} {td ty tx : TE}
end

/-! ### dict(d): a copy -/
section
variable {X : Cx} {pins : List (Addr × Obj)} {σ : St} {H : Hp} {s : Shared} {a : Addr} {kvs : List (Key × V)} {A : Around} {E : Value → Shared → Prop}
end

section
variable {X : Cx} {pins : List (Addr × Obj)} {σ : St} {H : Hp} {s : Shared} {a : Addr} {y : V} {u : Value} {A : Around} {E : Value → Shared → Prop}
end
end L2

namespace Att
open PySem PySem.W PySem.Calls PyProof.Rows

/-! ### the script -/
theorem ints_of_wellAll {P : Params} {h : Heap} : ∀ (ns : List Int) (vs : List Value), WellAll P h vs (ns.map WData.int) → IntsAre vs ns := by
  intro ns
  induction ns with
  | nil =>
    intro vs w
    rw [List.map_nil] at w
    cases w
    exact .nil
  | cons n ns ih =>
    intro vs w
    rw [List.map_cons] at w
    cases w with
    | cons a b =>
      cases a
      exact .cons _ _ (ih _ b)

theorem script_of {l : OpenLaw} {n : Nat} (hn : l.most = some n) {P : Params} {h : Heap} {args : List WData} {vals : List Value}
    (hpre : l.row.toRowW.claim.pre args = true) (hwl : WellAll P h vals args) :
    ∃ a vs ns, vals = [Value.ref a] ∧ args = [WData.list (ns.map WData.int)] ∧ h.get? a = some { cls := .type "list", data := .seq vs.toArray } ∧ IntsAre vs ns ∧ ns.length ≤ n := by
  have hsh : WShape.hasAll [] args [.list .int] = true := (pre_splitW hpre).1
  have hc : l.pre.holds [] { args := args } = true := (pre_splitW hpre).2
  obtain ⟨d, r, rfl, h1, h2⟩ := hasAllW_cons hsh
  obtain rfl := hasAllW_nil h2
  obtain ⟨xs, rfl, h3⟩ := hasW_list h1
  obtain ⟨ns, rfl⟩ := items_int h3
  have hlen : ns.length ≤ n := by
    unfold OpenLaw.pre at hc
    have h4 : (WTm.not (.lt (.lit (.int (n : Int))) (.len (.arg 0)))).holds [] { args := [.list (ns.map .int)] } = true := by
      have h4 := (holds_andW hc).1
      rw [hn] at h4
      exact h4
    have h5 := condW_of h4 (w_not (w_lt w_lit (w_len_list (w_arg rfl))))
    rw [List.length_map] at h5
    refine Nat.le_of_not_lt fun q => ?_
    have q' : (n : Int) < ((ns.length : Nat) : Int) := by omega
    first
      | (rw [decide_eq_true q'] at h5; exact absurd h5 (by decide))
      | (simp at h5; omega)
  cases hwl with
  | cons w1 w2 =>
    cases w2
    cases w1 with
    | list ho hall => exact ⟨_, _, ns, rfl, rfl, ho, ints_of_wellAll ns _ hall, hlen⟩

theorem post_true (l : OpenLaw) (args : List WData) : l.row.toRowW.claim.post args (.bool true) args = true :=
  postW_of (r := l.row.toRowW) (X := (true == true))
    (show WShape.has [] (.bool true) .bool = true by first | rfl | decide | simp [WShape.has, WShape.arms, WShape.armsAll])
    (show (WTm.eq .res (.lit (.bool true))).value [] { args := args, res := some (.bool true), after := args } = some (.bool (true == true)) from w_eq_bool (w_res rfl) w_lit) rfl

/-! ### the attachment: holds_open's last premise (the goal 'hc' behind k_head) from a wpAny of the law's body -/
theorem attach_call {l : OpenLaw} {n : Nat} {q : Program} {loose : List Str} {XP : (Str → Option Value) → Heap → Prop} {YP : World → Heap → Prop} {d : DefRec}
    (hn : l.most = some n) (hdf : d.params.defaults = [])
    (call : ∀ (w : World) (s₀ s₁ : Shared) (mg mb : Str → Option Value) (fa : Addr) (o : Obj) (pm cd doc : Value) (a : Addr) (vs : List Value) (ns : List Int),
      Ground q loose [] XP w s₀ mg mb s₁.heap → YP w s₁.heap →
      s₁.heap.get? fa = some o → o.data = .func (docDef d.name d.params d.body d.scope pm cd doc) → s₁.heap.CodeRec cd d.name → mg d.name = some (.ref fa) →
      s₁.heap.get? a = some { cls := .type "list", data := .seq vs.toArray } → IntsAre vs ns → ns.length ≤ n → s₁.gens = #[] →
      codeAny (model l.prog w) callerA (.call (.ref fa) ⟨[.ref a], []⟩) (fun r s' => r = .ok (.ret (.bool true)) ∧ OldK s₁.heap s'.heap ∧ s'.os = s₁.os ∧ AllBare s'.gens) s₁) :
    WalkO q loose XP YP l.row.toRowW d [] (fun f vs => PySem.call f vs) := by
  intro w s₀ s₁ mg mb G Y fa o pm cd doc dV kV ho hd hcd hD hmg hg args vals as hpre hlay hrd hwl hlo
  obtain rfl : dV = .none := Dflts.none hD hdf
  obtain rfl : kV = .none := Dflts.noKw hD
  obtain ⟨a, vs, ns, rfl, rfl, hobj, hints, hlen⟩ := script_of hn hpre hwl
  refine enter_call (codeAny_mono (call w s₀ s₁ mg mb fa o pm cd doc a vs ns G Y ho (fd_plain hd) hcd hmg hobj hints hlen hg) fun r s' hq => ?_)
  obtain ⟨rfl, h2, h3, h4⟩ := hq
  exact ⟨.inl ⟨.bool true, .bool true, [], rfl, fun _ => rfl, .bool true, post_true l _, fun _ => ⟨List.Pairwise.nil, fun _ hm => (nomatch hm)⟩⟩, h2, h3, h4⟩

/-! ### rules over ANY heap (no ledger) from facts about the written part K: the library's own take a ledger (News) for what they write -/
section
variable {prog : Program} {w : World} {A : Around} {E : Value → Shared → Prop} {s : Shared} {K : Frag}

/-! the whole heap as the ledger: makes every rule that writes through a ledger a rule over any heap -/
def ledger (h : Heap) (L d : Addr) : List (Addr × Obj) := (List.range h.objs.size).filterMap fun a => if a = L ∨ a = d then none else (h.get? a).map fun o => (a, o)
end
end Att

namespace L2
open PySem PySem.Spec PyProof.Rows

theorem vals_ints : ∀ {vs : List Value} {ns : List Int}, IntsAre vs ns → Vals (ns.map V.int) vs
  | _, _, .nil => .nil
  | _, _, .cons n t h => .cons ⟨t, rfl⟩ (vals_ints h)

def Only (H : Hp) : Prop := ∀ b, H b = none ∨ ∃ o xs, H b = some (.frz o (.lst xs))

theorem law_call {P : Program} {w : World} {K : PySem.W.Frag} {mg mb : Str → Option Value} {CX : CXT} {k : Nat} {fa a : Addr} {fd : FuncData} {x : Str} {sp : Sp} {s₁ : Shared} {vs : List Value} {ns : List Int}
    (KX : K.In s₁.heap) (hns : s₁.heap.Ns mainGlobals mg) (hb : s₁.heap.Ns builtinsNs mb) (hbb : ∀ x : Str, x ≠ "__name__" → mb x = bootBuiltins x) (hlim : s₁.heap.NoLimit) (hg : s₁.gens = #[])
    (ha : s₁.heap.get? a = some { cls := .type "list", data := .seq vs.toArray }) (hi : IntsAre vs ns) (hl : ns.length ≤ sizeLine) (hr : Room k callerA)
    (F : ∀ base : Heap, K.In base → base.Ns mainGlobals mg → FnOk P w K mg base CX k fa fd [x] sp) (hbind : ∀ (s : Shared) (u : Value), BindsTo s fd ⟨[u], []⟩ [(x, u)])
    (hsp : ∀ H : Hp, Only H → SqL K H a (ns.map V.int) → sp [.ref a] H (fun v _ => v = .bl true) fun _ _ _ => False)
    (hCX : ∀ H e s', CX [] H s₁ (fun _ _ _ => False) e s' → False) :
    codeAny (model P w) callerA (.call (.ref fa) ⟨[.ref a], []⟩) (fun r s' => r = .ok (.ret (.bool true)) ∧ OldK s₁.heap s'.heap ∧ s'.os = s₁.os ∧ AllBare s'.gens) s₁ := by
  have rv := vals_ints hi
  have lenV := hi.length
  have core : ∀ H : Hp, Only H → SqL K H a (ns.map V.int) → HOk P w H s₁.heap → (∀ b, H b ≠ none → b = a) → (H a ≠ none → K.lookup a = none) →
      codeAny (model P w) callerA (.call (.ref fa) ⟨[.ref a], []⟩) (fun r s' => r = .ok (.ret (.bool true)) ∧ OldK s₁.heap s'.heap ∧ s'.os = s₁.os ∧ AllBare s'.gens) s₁ := by
    intro H hO hS hok hA hK
    have base_of : ∀ {b : Addr} {o : Obj}, s₁.heap.get? b = some o → H b = none → (hidT s₁.heap H).get? b = some o := fun e n => hidT_get e n
    have noA : ∀ {b : Addr} {o : Obj} {es : Array DictEntry} {ep : Nat}, s₁.heap.get? b = some o → o.data = .dict es ep → H b = none := fun {b o es ep} e d => by
      cases q : H b with
      | none => rfl
      | some u =>
        have e' : b = a := hA b (by rw [q]; simp)
        subst e'
        rw [ha] at e; cases e
        have d' : Data.seq vs.toArray _ = Data.dict es ep := d
        cases d'
    have nsK : ∀ {b : Addr} {m : Str → Option Value}, s₁.heap.Ns b m → (hidT s₁.heap H).Ns b m := fun {b m} ⟨o, es, ep, e, d, r⟩ => ⟨o, es, ep, base_of e (noA e d), d, r⟩
    have hKb : K.In (hidT s₁.heap H) := fun b o e => base_of (KX b o e) (by
      cases q : H b with
      | none => rfl
      | some u =>
        have e' : b = a := hA b (by rw [q]; simp)
        subst e'
        rw [hK (by rw [q]; simp)] at e; cases e)
    have hM : Mod K mg (hidT s₁.heap H) := ⟨hKb, nsK hns, ⟨mb, nsK hb, hbb⟩, let ⟨mc, h1, h2⟩ := hlim; ⟨mc, nsK h1, h2⟩⟩
    have e0 : Env0 P w K mg (hidT s₁.heap H) callerA [] s₁ H := ⟨rfl, hM, fun b o e => of_hidT e, Nat.le_of_eq (hidT_size _ _), trivial, fun b hb => absurd (show b ∈ ([] : List Addr) from hb) (by simp), hok, .of_eq hg⟩
    refine codeAny_mono ((F _ hKb (nsK hns)).run callerA [] s₁ H ⟨[.ref a], []⟩ [.ref a] [.ref a] _ _ hr e0 (hbind s₁ (.ref a)) (.cons rfl .nil) (hsp H hO hS)) fun r s' h => ?_
    cases r with
    | error e => exact (hCX H e s' h).elim
    | ok fl =>
      cases fl with
      | next => exact False.elim h
      | brk => exact False.elim h
      | cont => exact False.elim h
      | ret u =>
        obtain ⟨v, H', os, bare, un, hok', r', q⟩ := h
        have q' : v = .bl true := q
        subst q'
        obtain rfl : u = Value.bool true := r'
        refine ⟨rfl, OldK.of_keep fun b o e => ?_, os, bare⟩
        cases q : H b with
        | none => exact un.keep b o e q (by intro z; exact absurd (show b ∈ ([] : List Addr) from z) (by simp)) (by simp)
        | some u =>
          rcases hO b with z | ⟨ob, xs, z⟩
          · rw [q] at z; cases z
          · have z2 := un.frzs b ob _ z
            obtain ⟨e1, _⟩ := hok b _ z
            obtain ⟨e2, _⟩ := hok' b _ z2
            rw [e] at e1; cases e1
            exact e2
  cases hk : K.lookup a with
  | some o =>
    have e := KX a o hk
    rw [ha] at e
    cases e
    refine core (fun _ => none) (fun _ => .inl rfl) (.inr ⟨_, vs.toArray, _, hk, rfl, rfl, rfl, by rw [List.size_toArray, lenV]; exact hl, by simpa using rv⟩) (fun b u z => by have z' : (none : Option HO) = some u := z; cases z') (fun b z => absurd rfl z) fun z => absurd rfl z
  | none =>
    refine core (fun b => if b = a then some (.frz { cls := .type "list", data := .seq vs.toArray } (.lst (ns.map V.int))) else none) (fun b => ?_) (.inl (.inr ⟨{ cls := .type "list", data := .seq vs.toArray }, if_pos rfl⟩)) (fun b u z => ?_) (fun b z => ?_) fun _ => hk
    · by_cases hb : b = a
      · exact .inr ⟨_, _, if_pos hb⟩
      · exact .inl (if_neg hb)
    · by_cases hb : b = a
      · have z' := (if_pos hb).symm.trans z
        cases z'
        subst hb
        exact ⟨ha, by rw [List.length_map]; exact hl, vs, _, rv, ha⟩
      · have z' := (if_neg hb).symm.trans z
        cases z'
    · by_cases hb : b = a
      · exact hb
      · exact absurd (if_neg hb) z
end L2

namespace L2
open PySem PySem.Spec PyProof.Rows

theorem walk_of {l : PySem.W.OpenLaw} {n k : Nat} {q : Program} {loose : List Str} {XP : (Str → Option Value) → Heap → Prop} {YP : World → Heap → Prop} {d : DefRec} {K : Params → PySem.W.Frag} {CX : World → CXT} {sp : World → Sp} {x : Str}
    (hn : l.most = some n) (hn2 : n ≤ sizeLine) (hdf : d.params.defaults = []) (hr : Room k callerA)
    (hY : ∀ (w : World) (h : Heap), YP w h → (K w.params).In h)
    (F : ∀ (w : World) (mg : Str → Option Value) (fa : Addr) (h : Heap), (K w.params).In h → h.Ns mainGlobals mg → mg d.name = some (.ref fa) →
      ∃ fd : FuncData, (∀ (s : Shared) (u : Value), BindsTo s fd ⟨[u], []⟩ [(x, u)]) ∧
        ∀ base : Heap, (K w.params).In base → base.Ns mainGlobals mg → FnOk l.prog w (K w.params) mg base (CX w) k fa fd [x] (sp w))
    (hsp : ∀ (w : World) (H : Hp) (a : Addr) (ns : List Int), ns.length ≤ n → Only H → SqL (K w.params) H a (ns.map V.int) → sp w [.ref a] H (fun v _ => v = .bl true) fun _ _ _ => False)
    (hCX : ∀ (w : World) (H : Hp) (s : Shared) (e : Value) (s' : Shared), CX w [] H s (fun _ _ _ => False) e s' → False) :
    PySem.W.WalkO q loose XP YP l.row.toRowW d [] (fun f vs => PySem.call f vs) := by
  refine Att.attach_call hn hdf fun w s₀ s₁ mg mb fa o pm cd doc a vs ns G Y ho hd hcd hmg hobj hints hlen hg => ?_
  have KX := hY w _ Y
  obtain ⟨fd, hb, hF⟩ := F w mg fa _ KX G.T.g hmg
  exact law_call KX G.T.g G.T.b G.T.builtins G.T.nolimit hg hobj hints (Nat.le_trans hlen hn2) hr hF hb (fun H hO hS => hsp w H a ns hlen hO hS) fun H e s' => hCX w H s₁ e s'
end L2

/- THE LAST THEOREM (shape; LID, My.* are yours):
   My.Adr: a structure of the addresses that your layer names (classes, functions); My.Txt K t: a structure (Prop) of the equations over K;
   My.txt_mk : {K} {implicit addresses ..} (e1 : nsIn K mainGlobals "law" = some (some (.ref f))) (e2 : K.lookup f = some ⟨oc, od, .func (fnOf "law" "law" params body scope dV kV doc pm an cdv ct), sl⟩) (e3 : codeIn K cdv "law" = true) .. : ∃ t, My.Txt K t

set_option maxRecDepth 100000 in
set_option maxHeartbeats 0 in
(the tactic k_is has no namespace: write k_is) -/

/-! SHORT WORDS over the layer: a def of the text, its body, what a loop and a test want. -/
namespace L2
open PySem PySem.Spec PyProof.Rows

/-! ### the text by places -/
def inClass (s : Stmt) (j : Nat) : Stmt := match s with
  | .ClassDef _ _ _ body _ _ _ _ _ _ _ => body.getD j (.Pass ⟨0, 0, 0, 0⟩)
  | _ => .Pass ⟨0, 0, 0, 0⟩
def defArgs (s : Stmt) : Arguments := match s with
  | .FunctionDef _ a _ _ _ _ _ _ _ _ => a
  | _ => { posonlyargs := [], args := [], vararg := none, kwonlyargs := [], kw_defaults := [], kwarg := none, defaults := [] }
def defBody (s : Stmt) : List Stmt := match s with
  | .FunctionDef _ _ b _ _ _ _ _ _ _ => b
  | _ => []
def defScope (s : Stmt) : Scope := match s with
  | .FunctionDef _ _ _ _ _ _ sc _ _ _ => sc
  | _ => { kind := .function, names := [], isGenerator := false, isCoroutine := false }

/-! ### no exception leaves a def -/
abbrev CX0 : CXT := fun _ _ _ _ _ _ => False
abbrev E0 : XK := fun _ _ _ => False
theorem pass0 {X : Cx} : Passes CX0 X E0 := fun _ _ _ _ _ _ _ h => h.elim

/-! ### a def (or method) of the text as it stands behind the top -/
structure Fun (K : PySem.W.Frag) (x qual : Str) (st : Stmt) (f : Addr) (fd : FuncData) : Prop where
  ex : ∃ (oc : Value) (od : Option Addr) (kV doc pm : Value) (an : Option Addr) (cdv ct : Value) (osl : Array (Option Value)),
    fd = PySem.W.fnOf x qual (defArgs st) (defBody st) (defScope st) .none kV doc pm an cdv ct ∧ K.lookup f = some ⟨oc, od, .func fd, osl⟩ ∧ PySem.W.codeIn K cdv qual = true
  kp : PySem.W.keepIn K (.ref f) = true
section
variable {P : Program} {w : World} {K : PySem.W.Frag} {mg : Str → Option Value} {base : Heap}
theorem Fun.ok {x qual : Str} {st : Stmt} {f : Addr} {fd : FuncData} {N ps : List Str} {k : Nat} {sp : Sp} (F : Fun K x qual st f fd) (S : FnScope N ps (defScope st)) (len : ∀ vs H Q E, sp vs H Q E → vs.length = ps.length)
    (hbody : ∀ (cdv : Value) (A : Around) (outer : List Env) (s : Shared) (H : Hp) (vs : List V) (Q : VK) (E : XK), Room k (A.deeper (envOfC qual (defScope st) s.heap.objs.size f cdv)) → sp vs H Q E →
      ∃ t, PSs (cxOf CX0 P w K mg base N qual (defScope st) f cdv A outer s H E).nox (defBody st) t ∧ t { nx := fun _ H' => Q .non H', rt := Q } (start N vs) H) : FnOk P w K mg base CX0 (k + 1) f fd ps sp := by
  obtain ⟨oc, od, kV, doc, pm, an, cdv, ct, osl, rfl, lk, hcd⟩ := F.ex
  refine fn_of lk hcd S len fun A outer s H vs Q E hr hsp => ?_
  obtain ⟨t, h, q⟩ := hbody cdv A outer s H vs Q E hr hsp
  exact ⟨t, h.nox, q⟩
theorem Fun.binds {x qual : Str} {st : Stmt} {f : Addr} {fd : FuncData} {ps : List Str} (F : Fun K x qual st f fd)
    (h : ∀ (kV doc pm : Value) (an : Option Addr) (cdv ct : Value) (us : List Value), us.length = ps.length → bindArgs (PySem.W.fnOf x qual (defArgs st) (defBody st) (defScope st) .none kV doc pm an cdv ct) ⟨us, []⟩ = pure (ps.zip us)) : Binds K fd ps [] := by
  obtain ⟨oc, od, kV, doc, pm, an, cdv, ct, osl, rfl, lk, hcd⟩ := F.ex
  exact .all (h kV doc pm an cdv ct)
theorem fun_mk {x qual : Str} {st : Stmt} {f : Addr} {oc : Value} {od an : Option Addr} {osl : Array (Option Value)} {kV doc pm cdv ct : Value} (l : K.lookup f = some ⟨oc, od, .func (PySem.W.fnOf x qual (defArgs st) (defBody st) (defScope st) .none kV doc pm an cdv ct), osl⟩)
    (c : PySem.W.codeIn K cdv qual = true) (k : PySem.W.keepIn K (.ref f) = true) : Fun K x qual st f (PySem.W.fnOf x qual (defArgs st) (defBody st) (defScope st) .none kV doc pm an cdv ct) := ⟨⟨oc, od, kV, doc, pm, an, cdv, ct, osl, rfl, l, c⟩, k⟩
end
/-! ### expressions in short: the name that stands in the i-th slot -/
section
variable {X : Cx}
theorem pv (i : Nat) {x : Str} {pos : Pos} (hN : X.N[i]? = some x := by rfl) (hv : Vis X.env.scope x := by first | exact Or.inl rfl | exact Or.inr (Or.inl rfl) | exact Or.inr (Or.inr rfl)) (hd : (x == ("__debug__" : Str)) = false := by decide)
    (hcd : (x == ("__classdict__" : Str)) = false := by decide) : PE X (.Name x pos) (tVar i) := pe_var hN hv hd hcd
theorem call_lenD : CallR X (.builtin "len") (fun xs H Q => ∃ a kvs, xs = [V.ref a] ∧ H a = some (.dK kvs) ∧ Q (.int kvs.length) H) := by
  intro pins s σ H xs us Q I r h
  obtain ⟨a, kvs, rfl, ha, q⟩ := h
  obtain ⟨u, rfl, ru⟩ := vals1 r
  cases ru
  exact d_len I (.inl ha) fun t s' I' => ⟨.int kvs.length, H, I', ⟨t, rfl⟩, q⟩
end

/-! ### tests -/
theorem ite2 {c A B : Prop} [Decidable c] (h1 : c → A) (h2 : ¬ c → B) : if c then A else B := by
  by_cases h : c
  · rw [if_pos h]
    exact h1 h
  · rw [if_neg h]
    exact h2 h
/-! ### heaps -/
def Same (H H' : Hp) : Prop := ∀ b o, H b = some o → H' b = some o
theorem Same.refl (H : Hp) : Same H H := fun _ _ h => h
theorem Same.trans {H H1 H2 : Hp} (a : Same H H1) (b : Same H1 H2) : Same H H2 := fun c o h => b c o (a c o h)
theorem Same.free {H H' : Hp} (e : Same H H') {l : Addr} (h : H' l = Option.none) : H l = Option.none := by
  cases q : H l with
  | none => rfl
  | some o =>
    rw [e l o q] at h
    cases h
theorem Same.seq {K : PySem.W.Frag} {H H' : Hp} {a : Addr} {xs : List V} (e : Same H H') (h : SqL K H a xs) : SqL K H' a xs := by
  rcases h with (h | ⟨o, h⟩) | h
  · exact .inl (.inl (e _ _ h))
  · exact .inl (.inr ⟨o, e _ _ h⟩)
  · exact .inr h

/-! ### a dict's pairs: keys that differ -/
section
variable {κ : Type} [DecidableEq κ]
theorem nd_snoc : ∀ {l : List κ} {k : κ}, l.Nodup → ¬ k ∈ l → (l ++ [k]).Nodup
  | [], k, _, _ => by simp
  | a :: r, k, h, hk => by
    obtain ⟨h1, h2⟩ := List.nodup_cons.mp h
    show (a :: (r ++ [k])).Nodup
    refine List.nodup_cons.mpr ⟨fun m => ?_, nd_snoc h2 fun m => hk (List.mem_cons.mpr (Or.inr m))⟩
    rcases List.mem_append.mp m with q | q
    · exact h1 q
    · exact hk (List.mem_cons.mpr (Or.inl (List.mem_singleton.mp q).symm))
end
end L2

set_option Elab.async false
set_option linter.all false
set_option maxRecDepth 100000
set_option maxHeartbeats 4000000
namespace L2
open PySem PySem.Spec PyProof.Rows

/-! ### list comprehensions of one clause without a test -/
def clGo (cells : List (Str × Addr)) : List (Str × NameKind) → List (Str × Addr) → List (Str × Addr)
  | [], acc => acc
  | (n, k) :: r, acc => clGo cells r (if (k == .free) = true then (n, (cells.lookup n).getD 0) :: acc else acc)
def clOf (scope : Scope) (env : Env) : List (Str × Addr) := clGo env.cells scope.names []
theorem closure_go {env : Env} : ∀ (names : List (Str × NameKind)) (acc : List (Str × Addr)), (∀ y ∈ names, y.2 = .free → ∃ c, env.cells.lookup y.1 = some c) →
    (forIn names acc (fun (x : Str × NameKind) (r : List (Str × Addr)) => if (x.2 == .free) = true then (do let c ← cellOf env x.1; pure (ForInStep.yield ((x.1, c) :: r))) else pure (ForInStep.yield r)) : Sem (List (Str × Addr))) = pure (clGo env.cells names acc)
  | [], acc, _ => by simp [clGo]
  | (n, k) :: r, acc, h => by
    have hr : ∀ y ∈ r, y.2 = .free → ∃ c, env.cells.lookup y.1 = some c := fun y hy => h y (List.mem_cons_of_mem _ hy)
    by_cases hk : (k == NameKind.free) = true
    · obtain ⟨c, hc⟩ := h (n, k) List.mem_cons_self (by simpa using hk)
      have e : cellOf env n = pure c := by unfold cellOf; rw [show env.cells.lookup n = some c from hc]
      simp only [List.forIn_cons, hk, if_true, e, pure_bind, clGo, hc, Option.getD_some]
      exact closure_go r _ hr
    · simp only [List.forIn_cons, hk, Bool.false_eq_true, if_false, pure_bind, clGo]
      exact closure_go r _ hr
theorem closure_of {env : Env} {scope : Scope} (h : ∀ y ∈ scope.names, y.2 = .free → ∃ c, env.cells.lookup y.1 = some c) : closureFor scope env = pure (clOf scope env) := by
  unfold closureFor clOf
  have := closure_go scope.names [] h
  simpa using this
end L2

set_option Elab.async false
set_option linter.all false
set_option maxRecDepth 100000
set_option maxHeartbeats 4000000
namespace L2
open PySem PySem.Spec PyProof.Rows

theorem clGo_mem {cells : List (Str × Addr)} {n : Str} {c : Addr} : ∀ (names : List (Str × NameKind)) (acc : List (Str × Addr)), (n, c) ∈ clGo cells names acc → (n, c) ∈ acc ∨ ((n, NameKind.free) ∈ names ∧ c = (cells.lookup n).getD 0)
  | [], acc, h => .inl h
  | (y, k) :: r, acc, h => by
    have h' : (n, c) ∈ clGo cells r (if (k == .free) = true then (y, (cells.lookup y).getD 0) :: acc else acc) := h
    rcases clGo_mem r _ h' with q | ⟨q1, q2⟩
    · by_cases hk : (k == NameKind.free) = true
      · rw [if_pos hk] at q
        rcases List.mem_cons.mp q with e | q
        · injection e with e1 e2
          subst e1
          have hk' : k = .free := by simpa using hk
          subst hk'
          exact .inr ⟨List.mem_cons_self, e2⟩
        · exact .inl q
      · rw [if_neg hk] at q
        exact .inl q
    · exact .inr ⟨List.mem_cons_of_mem _ q1, q2⟩
theorem clGo_keep {cells : List (Str × Addr)} {p : Str × Addr} : ∀ (names : List (Str × NameKind)) (acc : List (Str × Addr)), p ∈ acc → p ∈ clGo cells names acc
  | [], acc, h => h
  | (y, k) :: r, acc, h => by
    show p ∈ clGo cells r (if (k == .free) = true then (y, (cells.lookup y).getD 0) :: acc else acc)
    refine clGo_keep r _ ?_
    split
    · exact List.mem_cons_of_mem _ h
    · exact h
theorem clGo_has {cells : List (Str × Addr)} {n : Str} : ∀ (names : List (Str × NameKind)) (acc : List (Str × Addr)), (n, NameKind.free) ∈ names → (n, (cells.lookup n).getD 0) ∈ clGo cells names acc
  | (y, k) :: r, acc, h => by
    show _ ∈ clGo cells r (if (k == .free) = true then (y, (cells.lookup y).getD 0) :: acc else acc)
    rcases List.mem_cons.mp h with e | h
    · injection e with e1 e2
      subst e1 e2
      exact clGo_keep r _ (by rw [if_pos (by rfl)]; exact List.mem_cons_self)
    · exact clGo_has r _ h
theorem lookup_of_mem_all {n : Str} {c : Addr} : ∀ {l : List (Str × Addr)}, (n, c) ∈ l → (∀ d, (n, d) ∈ l → d = c) → l.lookup n = some c
  | (y, d) :: r, h, ha => by
    by_cases e : n = y
    · subst e
      have hd : d = c := ha d List.mem_cons_self
      simp [List.lookup_cons, hd]
    · have e' : (n == y) = false := by simpa using e
      rw [List.lookup_cons, e']
      refine lookup_of_mem_all ?_ fun d hd => ha d (List.mem_cons_of_mem _ hd)
      rcases List.mem_cons.mp h with z | z
      · injection z with z1 _
        exact absurd z1 e
      · exact z
theorem clOf_lookup {env : Env} {scope : Scope} {n : Str} {c : Addr} (h : (n, NameKind.free) ∈ scope.names) (hc : env.cells.lookup n = some c) : (clOf scope env).lookup n = some c := by
  unfold clOf
  have h1 := clGo_has (cells := env.cells) scope.names [] h
  rw [hc] at h1
  refine lookup_of_mem_all h1 fun d hd => ?_
  rcases clGo_mem _ _ hd with q | ⟨_, q⟩
  · cases q
  · rw [hc] at q; exact q
theorem clOf_of {env : Env} {scope : Scope} {n : Str} {c : Addr} (hf : ∀ y ∈ scope.names, y.2 = .free → ∃ c, env.cells.lookup y.1 = some c) (h : (clOf scope env).lookup n = some c) : (n, NameKind.free) ∈ scope.names ∧ env.cells.lookup n = some c := by
  have hm := PySem.mem_of_lookup h
  unfold clOf at hm
  rcases clGo_mem _ _ hm with q | ⟨q1, q2⟩
  · cases q
  · obtain ⟨d, hd⟩ := hf _ q1 rfl
    have hd : env.cells.lookup n = some d := hd
    rw [hd] at q2
    have e : c = d := q2
    subst e
    exact ⟨q1, hd⟩

def cxB (X : Cx) (N : List Str) (scope : Scope) (s : Shared) (H : Hp) (ex : List Addr) : Cx where
  prog := X.prog
  w := X.w
  K := X.K
  mg := X.mg
  base := X.base
  A := X.A
  N := N
  s₀ := s
  H₀ := H
  env := compEnvC scope (clOf scope X.env) s.heap.objs.size X.env
  outer := X.stack
  stack := X.stack
  ex := ex
  calm := X.calm
  fn := fun _ => false
  pn := []
  xe := fun _ _ => False

def pickS (pk : List (Option Nat)) (σ : St) : St := pk.map fun o => o.bind fun j => (σ[j]?).bind id

structure BlkOk (N : List Str) (env : Env) (scope : Scope) (N' : List Str) (pk : List (Option Nat)) : Prop where
  kind : scope.kind = .function
  nocell : ∀ y ∈ scope.names, y.2 ≠ .cell
  names : ∀ y ∈ scope.names, y.2 = .local → scope.names.lookup y.1 = some .local
  free : ∀ y ∈ scope.names, y.2 = .free → (env.scope.names.lookup y.1 = some .cell ∨ env.scope.names.lookup y.1 = some .free)
  len : pk.length = N'.length
  cap : ∀ (i : Nat) (x : Str), N'[i]? = some x → ∀ (j : Nat), pk[i]? = some (some j) → N[j]? = some x ∧ scope.names.lookup x = some .free

theorem lookup_rl {env : Env} {x : Str} {k : NameKind} : ∀ {names : List (Str × NameKind)}, (names.map fun (n, k) => if (k == NameKind.free && env.scope.kind == .function && env.kindOf n == some .cell) then (n, NameKind.cell) else (n, k)).lookup x = some k → k = .cell ∨ k = .free →
    (∀ y ∈ names, y.2 ≠ .cell) → (x, NameKind.free) ∈ names
  | [], h, _, _ => by simp at h
  | (n, k') :: r, h, hk, hc => by
    have hc' : ∀ y ∈ r, y.2 ≠ .cell := fun y hy => hc y (List.mem_cons_of_mem _ hy)
    have h' : List.lookup x ((if (k' == NameKind.free && env.scope.kind == .function && env.kindOf n == some .cell) = true then (n, NameKind.cell) else (n, k')) :: (r.map fun (n, k) => if (k == NameKind.free && env.scope.kind == .function && env.kindOf n == some .cell) then (n, NameKind.cell) else (n, k))) = some k := h
    by_cases e : x = n
    · subst e
      by_cases hq : (k' == NameKind.free && env.scope.kind == .function && env.kindOf x == some .cell) = true
      · have : k' = .free := by
          rw [Bool.and_eq_true, Bool.and_eq_true] at hq
          simpa using hq.1.1
        rw [← this]; exact List.mem_cons_self
      · rw [if_neg hq] at h'
        simp [List.lookup_cons] at h'
        subst h'
        rcases hk with hk | hk
        · exact absurd hk (hc _ List.mem_cons_self)
        · rw [← hk]; exact List.mem_cons_self
    · have e' : (x == n) = false := by simpa using e
      have h2 : List.lookup x (r.map fun (n, k) => if (k == NameKind.free && env.scope.kind == .function && env.kindOf n == some .cell) then (n, NameKind.cell) else (n, k)) = some k := by
        split at h' <;> (rw [List.lookup_cons, e'] at h'; exact h')
      exact List.mem_cons_of_mem _ (lookup_rl h2 hk hc')
theorem lookup_rl2 {env : Env} {x : Str} : ∀ {names : List (Str × NameKind)}, names.lookup x = some .free →
    (names.map fun (n, k) => if (k == NameKind.free && env.scope.kind == .function && env.kindOf n == some .cell) then (n, NameKind.cell) else (n, k)).lookup x = some .cell ∨
    (names.map fun (n, k) => if (k == NameKind.free && env.scope.kind == .function && env.kindOf n == some .cell) then (n, NameKind.cell) else (n, k)).lookup x = some .free
  | [], h => by simp at h
  | (n, k') :: r, h => by
    show List.lookup x ((if (k' == NameKind.free && env.scope.kind == .function && env.kindOf n == some .cell) = true then (n, NameKind.cell) else (n, k')) :: (r.map fun (n, k) => if (k == NameKind.free && env.scope.kind == .function && env.kindOf n == some .cell) then (n, NameKind.cell) else (n, k))) = _ ∨
      List.lookup x ((if (k' == NameKind.free && env.scope.kind == .function && env.kindOf n == some .cell) = true then (n, NameKind.cell) else (n, k')) :: (r.map fun (n, k) => if (k == NameKind.free && env.scope.kind == .function && env.kindOf n == some .cell) then (n, NameKind.cell) else (n, k))) = _
    by_cases e : x = n
    · subst e
      have hk : k' = .free := by simpa [List.lookup_cons] using h
      subst hk
      split
      · left; simp [List.lookup_cons]
      · right; simp [List.lookup_cons]
    · have e' : (x == n) = false := by simpa using e
      rw [List.lookup_cons, e'] at h
      have ih := lookup_rl2 (env := env) (x := x) (names := r) h
      split <;> (simp only [List.lookup_cons, e']; exact ih)
section
variable {X : Cx} {pins : List (Addr × Obj)} {σ : St} {H : Hp} {s : Shared} {scope : Scope} {N' : List Str} {pk : List (Option Nat)} {fp : List Addr}

theorem blk_has (I : Inv X pins σ H s) (B : BlkOk X.N X.env scope N' pk) : ∀ y ∈ scope.names, y.2 = .free → ∃ c, X.env.cells.lookup y.1 = some c := fun y hy hf => I.ok.has y.1 (B.free y hy hf)

theorem blk_inv {h₁ : Heap} {t : Nat} (I : Inv X pins σ H s) (B : BlkOk X.N X.env scope N' pk) (hf : ∀ b ∈ fp, FpOk X pins H b) (ho : ∀ b ∈ fp, ∃ o, s.heap.get? b = some o)
    (hn : h₁.Ns s.heap.objs.size (fun _ => none)) (hs : ∀ b o, s.heap.get? b = some o → h₁.get? b = some o) :
    Inv (cxB X N' scope s H fp) [] (pickS pk σ) H { s with heap := h₁, toks := t } := by
  have bh := blk_has I B
  have clx : ∀ x c, (clOf scope X.env).lookup x = some c → (x, NameKind.free) ∈ scope.names ∧ X.env.cells.lookup x = some c := fun x c h => clOf_of bh h
  refine ⟨⟨I.ok.mod, ?_, I.ok.glob, I.ok.blt, Nat.le_refl _, fun x y c h1 h2 => ?_, fun x hx => ?_, fun x c h _ => ?_, I.ok.hd, I.ok.frames, .inl rfl, fun b hb => ⟨?_, fun x c h => ?_⟩, I.bs, Nat.le_trans I.ok.bsz I.sz, fun b o e hb => ?_, fun b hb hfs => ?_, I.stack, I.stkFree⟩,
    rfl, I.bare, Un.kept hs, ⟨_, hn, fun i x v h1 h2 h3 => ?_⟩, fun x c h => ?_, I.hok.fresh (Nat.le_refl _), fun x c h => ?_, fun p hp => absurd (show p ∈ ([] : List (Addr × Obj)) from hp) (by simp), I.hok.kept hs, ?_⟩
  · exact B.kind
  · exact I.ok.inj x y c (clx x c h1).2 (clx y c h2).2
  · have hx' : (relabel scope X.env).names.lookup x = some .cell ∨ (relabel scope X.env).names.lookup x = some .free := hx
    have hm : (x, NameKind.free) ∈ scope.names := by
      rcases hx' with z | z
      · exact lookup_rl z (.inl rfl) B.nocell
      · exact lookup_rl z (.inr rfl) B.nocell
    obtain ⟨c, hc⟩ := bh _ hm rfl
    exact ⟨c, clOf_lookup hm hc⟩
  · exact absurd (show false = true from h) Bool.false_ne_true
  · obtain ⟨o, e⟩ := ho b hb
    exact Nat.ne_of_lt (Heap.lt_size e)
  · exact (hf b hb).2.2.2.2.1 x c (clx x c h).2
  · have := (hf b hb)
    obtain ⟨_, _, _, h4, _⟩ := this
    rcases h4 with q | q
    · exact I.ok.noex b o e q
    · exact absurd (Nat.lt_of_lt_of_le (Heap.lt_size e) (Nat.le_trans I.ok.bsz q)) (Nat.lt_irrefl _)
  · obtain ⟨_, h2, h3, _⟩ := hf b hb
    rcases List.mem_cons.mp (I.stkSub b hfs) with q | q
    · exact h2 q
    · exact h3 q
  · -- a captured name
    have h2' : (pk.map fun o => o.bind fun j => (σ[j]?).bind id)[i]? = some (some v) := h2
    rw [List.getElem?_map] at h2'
    cases ep : pk[i]? with
    | none => rw [ep] at h2'; cases h2'
    | some o =>
      rw [ep] at h2'
      have h2' : o.bind (fun j => (σ[j]?).bind id) = some v := Option.some.inj h2'
      cases o with
      | none => cases h2'
      | some j =>
        have h2' : (σ[j]?).bind id = some v := h2'
        have hj : σ[j]? = some (some v) := by
          cases q : σ[j]? with
          | none => rw [q] at h2'; cases h2'
          | some w => rw [q] at h2'; exact congrArg some h2'
        obtain ⟨hN, hlk⟩ := B.cap i x h1 j ep
        have hm := PySem.mem_of_lookup hlk
        obtain ⟨m, _, hl⟩ := I.loc
        have hv : Vis X.env.scope x := by
          rcases B.free _ hm rfl with z | z
          · exact .inr (.inl z)
          · exact .inr (.inr z)
        obtain ⟨u, r, l⟩ := hl j x v hN hj hv
        refine ⟨u, r, ?_⟩
        rcases l with ⟨k, _⟩ | ⟨k, c, hc, hcell⟩
        · have k' : X.env.scope.names.lookup x = some .local := k
          rcases B.free _ hm rfl with z | z
          · rw [show X.env.scope.names.lookup x = some .cell from z] at k'; cases k'
          · rw [show X.env.scope.names.lookup x = some .free from z] at k'; cases k'
        · refine .inr ⟨?_, c, clOf_lookup hm hc, ?_⟩
          · rcases h3 with z | z
            · have z' : (relabel scope X.env).names.lookup x = some .local := z
              rcases lookup_rl2 (env := X.env) hlk with y | y
              · have y' : (relabel scope X.env).names.lookup x = some .cell := y
                rw [y'] at z'; cases z'
              · have y' : (relabel scope X.env).names.lookup x = some .free := y
                rw [y'] at z'; cases z'
            · exact z
          · obtain ⟨o, ho, hd⟩ := hcell
            exact ⟨o, hs _ _ ho, hd⟩
  · obtain ⟨v, o, ho, hd⟩ := I.cell x c (clx x c h).2
    exact ⟨v, o, hs _ _ ho, hd⟩
  · exact I.freeC x c (clx x c h).2
  · show (pickS pk σ).length = N'.length
    unfold pickS
    rw [List.length_map]
    exact B.len
end
end L2

set_option Elab.async false
set_option linter.all false
set_option maxRecDepth 100000
set_option maxHeartbeats 4000000
namespace L2
open PySem PySem.Spec PyProof.Rows

theorem compLoop_own {prog : Program} {w : World} {A : Around} {R : Result → Shared → Prop} {s : Shared} {elt target iter : Expr} {scope : Scope} {pos : Pos} {it acc : Value} {env : Env} (I : Nat → Shared → Prop)
    (turn : ∀ n s, I n s → ∀ E : Value → Shared → Prop, wpAny (model prog w) A (pyNext it) (fun r s₁ => match r with
      | none => R (.ok .next) s₁
      | some v => wpAny (model prog w) A (letOwnedTupleGo target it v) (fun _ s₁' => wpAny (model prog w) A (assign target env v) (fun _ s₂ => wpAny (model prog w) A (eval elt env) (fun x s₃ =>
          wpAny (model prog w) A (call (.builtin "list.append") [acc, x]) (fun _ s₄ => ∃ m, m < n ∧ I m s₄) E s₃) E s₂) E s₁') E s₁) E s)
    (n : Nat) (h : I n s) :
    codeAny (model prog w) A (.compLoop (.ListComp elt [⟨target, iter, [], 0⟩] scope pos) 0 it acc env) R s := by
  refine codeAny_loop rfl I (fun n s hI => ?_) n h
  show wpAny _ _ ((compTurn (.ListComp elt [⟨target, iter, [], 0⟩] scope pos) 0 it acc env).onRaise (fun x => do noteFrame x env; theTreesLotGoes x)) _ _ s
  refine wpAny_noted ?_
  rw [compTurn_list1]
  refine wpAny_bind (wpAny_standAt (wpAny_bind (wpAny_mono (turn n s hI _) (fun r s₁ h₁ => ?_) fun _ _ h' => h')))
  cases r with
  | none => exact wpAny_pure h₁
  | some v =>
    refine wpAny_bind (wpAny_mono h₁ (fun _ s₁' h₁ => ?_) fun _ _ h' => h')
    exact wpAny_bind (wpAny_mono h₁ (fun _ s₂ h₂ => wpAny_bind (wpAny_bind (wpAny_mono h₂ (fun x s₃ h₃ => wpAny_bind (wpAny_mono h₃
      (fun _ s₄ h₄ => wpAny_pure (wpAny_pure ⟨rfl, h₄⟩)) fun _ _ h' => h')) fun _ _ h' => h'))) fun _ _ h' => h')

def CompW (J : It) (g : TG) (te : TE) (D : Addr) (Q : Hp → Prop) (σ : St) (H : Hp) : Prop :=
  ∃ W : Nat → Nat → St → Hp → Prop, (∃ m, W 0 m σ H) ∧ ∀ i m σ' H', W i m σ' H' →
    (J.stop i H' ∧ Q H') ∨ (J.go i H' ∧ ∃ N : St → Hp → Prop, (∀ σ'' H'', N σ'' H'' → ∃ m', m' < m ∧ W (i + 1) m' σ'' H'') ∧
      ∀ x H2, J.yld i H' x H2 → g x σ' H2 fun σ2 H3 => te σ2 H3 fun v H4 => ∃ xs, H4 D = some (.lst xs) ∧ xs.length < sizeLine ∧ N σ2 (upd H4 D (.lst (xs ++ [v]))))

section
variable {X : Cx} {pins : List (Addr × Obj)} {σ : St} {H : Hp} {s : Shared} {scope : Scope} {N' : List Str} {pk : List (Option Nat)} {fp : List Addr}

theorem comp_run {elt tg iter : Expr} {g : TG} {te : TE} {J : It} {it : Addr} {tn : Nat → Heap → Prop} {pos : Pos} {QD : Addr → Hp → Prop} {E : Value → Shared → Prop} {RR : Value → Addr → Result → Shared → Prop}
    (I : Inv X pins σ H s) (B : BlkOk X.N X.env scope N' pk) (hc : X.calm = true) (T : Turn X.prog X.w X.K tg J fp it tn) (st : tn 0 s.heap) (hf : ∀ b ∈ fp, FpOk X pins H b)
    (hg : ∀ s H ex, PG (cxB X N' scope s H ex) tg g) (he : ∀ s H ex, PE (cxB X N' scope s H ex) elt te)
    (hW : ∀ D, H D = none → CompW J g te D (QD D) (pickS pk σ) (upd H D (.lst [])))
    (fin : ∀ D C s' H' m, Inv X pins σ H' s' → FpOk X pins H' C → s'.heap.Ns C m → QD D H' → RR (.ref D) C (.ok .next) s') :
    wpAny (model X.prog X.w) X.A (newList []) (fun acc s₃ => wpAny (model X.prog X.w) X.A (newFunctionEnv scope X.env.globals (clOf scope X.env) [] X.env.qual none .none (some X.env)) (fun cenv s₄ =>
      codeAny (model X.prog X.w) X.A (.compStart (.ListComp elt [⟨tg, iter, [], 0⟩] scope pos) 0 (.ref it) acc { cenv with scope := relabel scope X.env }) (RR acc cenv.locals) s₄) E s₃) E s := by
  have hD0 : H s.heap.objs.size = none := I.hok.fresh (Nat.le_refl _)
  refine wpAny_newObj_type (wpAny_newFunctionEnv B.nocell (by intro y hy; simp at hy) (fun h₁ hns₁ hsb₁ => ?_) B.kind)
  dsimp only at hns₁ hsb₁ ⊢
  have I3 : Inv X pins σ (upd H s.heap.objs.size (.lst [])) { s with heap := s.heap.push { cls := .type "list", dict := none, data := .seq ([] : List Value).toArray } } := I.lnew (t' := s.toks) .nil (Nat.zero_le _)
  obtain ⟨W, ⟨m0, w0⟩, turn⟩ := hW _ hD0
  generalize hs3 : ({ s with heap := s.heap.push { cls := .type "list", dict := none, data := .seq ([] : List Value).toArray } } : Shared) = s3 at I3
  have eh : s.heap.push { cls := .type "list", dict := none, data := .seq ([] : List Value).toArray } = s3.heap := by rw [← hs3]
  have hold : ∀ b o, s.heap.get? b = some o → s3.heap.get? b = some o := fun b o e => by rw [← eh]; exact Heap.get?_push_of_some _ e
  rw [eh] at hns₁ hsb₁
  have hs : ∀ b o, s3.heap.get? b = some o → h₁.get? b = some o := fun b o e => hsb₁.extBut b o (Nat.ne_of_lt (Heap.lt_size e)) (Heap.get?_push_of_some _ e)
  have hf3 : ∀ b ∈ fp, FpOk X pins (upd H s.heap.objs.size (.lst [])) b := fun b hb => by
    refine ⟨?_, (hf b hb).2⟩
    obtain ⟨o, e, _⟩ := T.obj 0 _ st b hb
    rw [upd_ne (Nat.ne_of_lt (Heap.lt_size e))]
    exact (hf b hb).1
  have ho3 : ∀ b ∈ fp, ∃ o, s3.heap.get? b = some o := fun b hb => by
    obtain ⟨o, e, _⟩ := T.obj 0 _ st b hb
    exact ⟨o, hold _ _ e⟩
  have st1 : tn 0 h₁ := T.keep 0 _ _ st fun b hb o e => hs b o (hold b o e)
  have esh : ∀ t, ({ s with heap := h₁, toks := t } : Shared) = { s3 with heap := h₁, toks := t } := fun t => by rw [← hs3]
  have loop : ∀ t, codeAny (model X.prog X.w) X.A (.compLoop (.ListComp elt [⟨tg, iter, [], 0⟩] scope pos) 0 (.ref it) (.ref s.heap.objs.size) (compEnvC scope (clOf scope X.env) s3.heap.objs.size X.env))
      (RR (.ref s.heap.objs.size) s3.heap.objs.size) { s with heap := h₁, toks := t } := fun t => by
    rw [esh t]
    have IB : Inv (cxB X N' scope s3 (upd H s.heap.objs.size (.lst [])) fp) [] (pickS pk σ) (upd H s.heap.objs.size (.lst [])) { s3 with heap := h₁, toks := t } := blk_inv I3 B hf3 ho3 hns₁ hs
    have f2 : ∀ b ∈ fp, FpOk (cxB X N' scope s3 (upd H s.heap.objs.size (.lst [])) fp) [] (upd H s.heap.objs.size (.lst [])) b := fun b hb =>
      ⟨(hf3 b hb).1, (IB.ok.exf b hb).1, IB.ok.exfs b hb, .inl hb, (IB.ok.exf b hb).2, fun p hp => absurd (show p ∈ ([] : List (Addr × Obj)) from hp) (by simp)⟩
    have stat : ∀ {H' : Hp}, (∀ b ∈ fp, H' b = none) → ∀ b ∈ fp, FpOk (cxB X N' scope s3 (upd H s.heap.objs.size (.lst [])) fp) [] H' b := fun hn b hb => ⟨hn b hb, (f2 b hb).2⟩
    refine compLoop_own (fun n s' => ∃ i σ' H', Inv (cxB X N' scope s3 (upd H s.heap.objs.size (.lst [])) fp) [] σ' H' s' ∧ tn i s'.heap ∧ (∀ b ∈ fp, H' b = none) ∧ W i n σ' H') ?_ m0 ⟨0, _, _, IB, st1, fun b hb => (f2 b hb).1, w0⟩
    rintro n s4 ⟨i, σ4, H4, I4, st4, fr4, w4⟩ E'
    rcases turn i n σ4 H4 w4 with ⟨stop, qn⟩ | ⟨go, N, hN, step⟩
    · refine thn (T.done (cxB X N' scope s3 (upd H s.heap.objs.size (.lst [])) fp) rfl rfl rfl hc i [] s4 σ4 H4 E' I4 (stat fr4) st4 stop) fun r s5 ⟨hr, I5⟩ => ?_
      subst hr
      obtain ⟨m5, hn5, _⟩ := I5.loc
      have IX : Inv X pins σ H4 s5 := I3.call' (ch := fp) I5.os I5.base I5.hok I5.bare fun b hb => ⟨(hf3 b hb).2.2.2.1, (hf3 b hb).2.1, (hf3 b hb).2.2.2.2.1, (hf3 b hb).2.2.2.2.2⟩
      exact fin _ _ s5 H4 m5 IX (I3.fpOk (Nat.le_refl _) I5.free) hn5 qn
    · refine thn (T.item (cxB X N' scope s3 (upd H s.heap.objs.size (.lst [])) fp) rfl rfl rfl hc i [] s4 σ4 H4 E' I4 (stat fr4) st4 go) fun r s5 ⟨u, hr, h5⟩ => ?_
      subst hr
      refine thn h5 fun _ s6 ⟨x, H6, I6, r6, y6, st6, fr6⟩ => ?_
      have I6' := I6.pinned (stat fr6) (T.obj _ _ st6)
      refine wpAny_mono (hg _ _ _ s6 σ4 H6 x u _ I6' r6 (step x H6 y6)) (fun _ s7 ⟨σ7, H7, I7, q7⟩ => ?_) fun _ _ z => False.elim z
      refine wpAny_mono (he _ _ _ s7 σ7 H7 _ I7 q7) (fun w s8 ⟨v, H8, I8, r8, xs, hx8, hl8, n8⟩ => ?_) fun _ _ z => False.elim z
      refine wpAny_mono (mt_append (X := cxB X N' scope s3 (upd H s.heap.objs.size (.lst [])) fp) _ s8 σ7 H8 (.ref s.heap.objs.size) [v] (.ref s.heap.objs.size) [w] (fun _ H9 => N σ7 H9) I8 rfl (.cons r8 .nil) ⟨_, xs, v, rfl, rfl, hx8, hl8, n8⟩) (fun _ s9 ⟨_, H9, I9, _, n9⟩ => ?_) fun _ _ z => False.elim z
      obtain ⟨m', hm, w9⟩ := hN σ7 H9 n9
      refine ⟨m', hm, i + 1, σ7, H9, I9.unpinned, T.keep _ _ _ st6 fun b hb o e => (I9.pin (b, o) (List.mem_append_right _ (List.mem_append_right _ (mem_pinsAt hb e)))).1, fun b hb => ?_, w9⟩
      obtain ⟨o, e, d⟩ := T.obj _ _ st6 b hb
      exact (I9.pin (b, o) (List.mem_append_right _ (List.mem_append_right _ (mem_pinsAt hb e)))).2.1
  rw [← eh] at loop
  exact codeAny_compStart_list (loop _) (T.self _ _ _ _ _ st1 (loop _))

theorem Inv.gone {h' : Heap} {C : Addr} (I : Inv X pins σ H s) (f : FpOk X pins H C) (hs : Heap.SameBut C s.heap h') : Inv X pins σ H { s with heap := h' } :=
  I.turned (t' := s.toks) (it := C) (fun b o hb e => hs.extBut b o hb e) f.1 f.2.1 f.2.2.2.1 f.2.2.2.2.1 f.2.2.2.2.2

def tComp (pk : List (Option Nat)) (wi : TI) (g : TG) (te : TE) : TE := fun σ H Q => wi σ H fun J H1 => ∀ D, H1 D = none → CompW J g te D (fun H' => Q (.ref D) H') (pickS pk σ) (upd H1 D (.lst []))

theorem pe_comp {elt tg iter : Expr} {wi : TI} {g : TG} {te : TE} {pos : Pos} (hc : X.calm = true) (B : BlkOk X.N X.env scope N' pk) (hi : PI X tg iter wi)
    (hg : ∀ s H ex, PG (cxB X N' scope s H ex) tg g) (he : ∀ s H ex, PE (cxB X N' scope s H ex) elt te) (hs : ∀ x, foldedSetIterable iter X.env x = pure x := by intro _; rfl) :
    PE X (.ListComp elt [⟨tg, iter, [], 0⟩] scope pos) (tComp pk wi g te) := by
  intro pins s σ H Q I h
  rw [eval_ListComp]
  have hclos := closure_of (blk_has I B)
  refine wpAny_comprehension_free (use := none) rfl hs hclos B.kind B.names (thn (hi s σ H _ I h) fun v s1 h1 => thn h1 fun itv s2 h2 => ?_)
  obtain ⟨it, fp, tn, J, H2, e, I2, T, st2, f2, hW⟩ := h2
  subst e
  refine comp_run (QD := fun D H' => Q (.ref D) H') (RR := fun acc C => compPost (model X.prog X.w) X.A X.xe none (EP X pins σ Q) acc C) I2 B hc T st2 f2 hg he hW fun D C s' H' m I' f' hn q => ?_
  exact ⟨m, hn, fun h' hs' => ⟨.ref D, H', I'.gone f' hs', rfl, q⟩⟩

theorem ps_setc {i : Nat} {y : Str} {elt tg iter : Expr} {wi : TI} {g : TG} {te : TE} {pos spos py : Pos} (hN : X.N.Nodup) (hiy : X.N[i]? = some y) (hy : Loc X.env.scope y) (hc : X.calm = true) (B : BlkOk X.N X.env scope N' pk) (hi : PI X tg iter wi)
    (hg : ∀ s H ex, PG (cxB X N' scope s H ex) tg g) (he : ∀ s H ex, PE (cxB X N' scope s H ex) elt te)
    (hsw : swapsWith (.ListComp elt [⟨tg, iter, [], 0⟩] scope pos) (some (.Name y py)) spos.line X.env = pure true := by rfl)
    (hs : ∀ x, foldedSetIterable iter X.env x = pure x := by intro _; rfl) (hf : X.fn y = true ∨ X.env.scope.names.lookup y = some .local := by first | exact .inl rfl | exact .inr rfl | assumption) :
    PS X (.Assign [.Name y py] (.ListComp elt [⟨tg, iter, [], 0⟩] scope pos) spos) (tAsg (tComp pk wi g te) (gName i)) := by
  intro pins s σ H D0 I h
  rw [exec_Assign_Name_used _ _ _ _ hsw]
  have hclos := closure_of (blk_has I B)
  refine wpAny_bind (wpAny_standAt (wpAny_bind ?_))
  show wpAny _ X.A (do let _ ← comprehension (.ListComp elt [⟨tg, iter, [], 0⟩] scope pos) scope X.env _ (newList []) false (eval iter X.env) (some (assign (.Name y py) X.env))) _ _ s
  refine wpAny_bind (wpAny_mono (wpAny_comprehension_free (use := some (assign (.Name y py) X.env)) (Q := fun _ s' => SP X pins D0 .next s') rfl hs hclos B.kind B.names
    (thn (hi s σ H _ I h) fun v s1 h1 => thn h1 fun itv s2 h2 => ?_)) (fun _ s' hq => wpAny_pure (wpAny_pure hq)) fun _ _ e => e)
  obtain ⟨it, fp, tn, J, H2, e, I2, T, st2, f2, hW⟩ := h2
  subst e
  refine comp_run (QD := fun D H' => D0.nx (σ.set i (some (.ref D))) H') (RR := fun acc C => compPost (model X.prog X.w) X.A X.xe (some (assign (.Name y py) X.env)) (fun _ s' => SP X pins D0 .next s') acc C) I2 B hc T st2 f2 hg he hW fun D C s' H' m I' f' hn q => ?_
  show wpAny _ X.A (assign (.Name y py) X.env (.ref D)) _ _ _
  refine wpAny_assign_Name (store_ok2 (v := .ref D) I' hN hiy hy rfl (fun s3 I3 ⟨a, hsa, ha⟩ => ?_) hf)
  have hCa : C ≠ a := by
    rcases ha with z | z
    · rw [z]; exact f'.2.1
    · exact fun e => f'.2.2.2.2.1 _ _ z e.symm
  exact ⟨m, hn.sameBut hsa hCa, fun h' hs' => ⟨_, H', I3.gone f' hs', q⟩⟩
end
end L2

set_option Elab.async false
set_option linter.all false
set_option maxRecDepth 100000
set_option maxHeartbeats 4000000
namespace L2
open PySem PySem.Spec PyProof.Rows

/-! ### iterators by the library's Walks: n values, given by what stands at each place -/
def Itw (n : Nat) (vs : Nat → V → Prop) : It := ⟨fun i _ => i < n, fun i H x H' => H' = H ∧ vs i x, fun i _ => i = n⟩
theorem turn_walk {P : Program} {w : World} {K : PySem.W.Frag} {tg : Expr} {it : Addr} {n : Nat} {PV : Nat → Value → Prop} {St : Nat → Heap → Prop} {vs : Nat → V → Prop}
    (W : ∀ A' : Around, A'.handled = none → Walks P w A' it [it] [it] n PV St)
    (hobj : ∀ i h, St i h → ∃ o nm fv, h.get? it = some o ∧ o.cls = .type nm ∧ o.data = .fields fv ∧ ["enumerate", "zip", "dict_itemiterator", "dict_reverseitemiterator", "odict_iterator", "itertools.zip_longest", "itertools.pairwise"].contains nm = false)
    (hv : ∀ i v, PV i v → ∃ x, vs i x ∧ RelV x v) (hself : ∀ (A : Around) (i : Nat) (s : Shared) (Q : Value → Shared → Prop) (E : Value → Shared → Prop), St i s.heap → Q (.ref it) s → wpAny (model P w) A (pyIter (.ref it)) Q E s) : Turn P w K tg (Itw n vs) [it] it St where
  mem := by simp
  obj := fun i h st b hb => by
    have e : b = it := by simpa using hb
    subst e
    obtain ⟨o, nm, fv, e, _, hd, _⟩ := hobj i h st
    exact ⟨o, e, fun v z => by rw [hd] at z; cases z⟩
  keep := fun i h h' st k => (W { depth := 0, units := 0, handled := none, frames := none } rfl).frame i h h' st k
  item := by
    intro X hP hw hK hc i pins s σ H E I hf st hg
    subst hP hw hK
    obtain ⟨f0, f1, f2, f3, f4, f5⟩ := hf it (by simp)
    refine (W X.A (I.ok.hd hc)).item i s _ _ hg st fun v h' tk hv' st' kk => ?_
    have I1 : Inv X pins σ H { s with heap := h', toks := tk } := I.turned (fun b o hb e => kk b o (by simpa using hb) e) f0 f1 f3 f4 f5
    obtain ⟨o, nm, fv, e, hcl, hd, hnm⟩ := hobj _ _ st'
    obtain ⟨x, hx, rx⟩ := hv i v hv'
    exact ⟨_, rfl, go_of (s := { s with heap := h', toks := tk }) e hcl hd hnm ⟨x, H, I1, rx, ⟨rfl, hx⟩, st', fun b hb => (hf b hb).1⟩⟩
  done := by
    intro X hP hw hK hc i pins s σ H E I hf st hg
    subst hP hw hK
    obtain ⟨f0, f1, f2, f3, f4, f5⟩ := hf it (by simp)
    have e : i = n := hg
    subst e
    exact (W X.A (I.ok.hd hc)).done s _ _ st fun h' tk kk => ⟨rfl, I.turned (fun b o hb e => kk b o (by simpa using hb) e) f0 f1 f3 f4 f5⟩
  self := hself

/-! ### for c in text -/
def sgn (c : Nat) : V := .str ⟨#[c]⟩
def iStr (tl : TE) : TI := fun σ H R => tl σ H fun x H1 => ∃ z : Str, x = .str z ∧ R (Itw z.cps.size fun i v => ∃ c, z.cps[i]? = some c ∧ v = sgn c) H1
theorem pi_str {X : Cx} {tg l : Expr} {tl : TE} (hl : PE X l tl) : PI X tg l (iStr tl) := by
  intro pins s σ H R I h
  refine thn (hl s σ H _ I h) fun v s1 ⟨x, H1, I1, r1, q1⟩ => ?_
  obtain ⟨z, e, q⟩ := q1
  subst e
  obtain ⟨t, rfl⟩ := r1
  have fp : ∀ o : Obj, ∀ b ∈ [s1.heap.objs.size], FpOk X pins H1 b := fun o b hb => by
    have e : b = s1.heap.objs.size := by simpa using hb
    subst e
    exact I1.fpOk (Nat.le_refl _) (I1.hok.fresh (Nat.le_refl _))
  cases ha : z.cps.all (· < 128)
  · refine wpAny_pyIter_wide ha ?_
    refine ⟨s1.heap.objs.size, [s1.heap.objs.size], _, _, H1, rfl, I1.kept (t' := s1.toks) fun b o e => Heap.get?_push_of_some _ e, turn_walk (fun A' hA => Walks.strWide hA _ z t) ?_ ?_ ?_, ⟨_, Heap.get?_push_size _ rfl, rfl, rfl⟩, fp default, q⟩
    · rintro i h ⟨o, e, hc, hd⟩
      exact ⟨o, _, _, e, hc, hd, by decide⟩
    · rintro i v ⟨c, u, hc, rfl⟩
      exact ⟨sgn c, ⟨c, hc, rfl⟩, ⟨u, rfl⟩⟩
    · exact fun A i s Q E st hq => wpAny_pyIter_striter_wide st hq
  · refine wpAny_pyIter_ascii ha ?_
    refine ⟨s1.heap.objs.size, [s1.heap.objs.size], _, _, H1, rfl, I1.kept (t' := s1.toks) fun b o e => Heap.get?_push_of_some _ e, turn_walk (fun A' hA => Walks.strAscii hA _ z t) ?_ ?_ ?_, ⟨_, Heap.get?_push_size _ rfl, rfl, rfl⟩, fp default, q⟩
    · rintro i h ⟨o, e, hc, hd⟩
      exact ⟨o, _, _, e, hc, hd, by decide⟩
    · rintro i v ⟨c, u, hc, rfl⟩
      exact ⟨sgn c, ⟨c, hc, rfl⟩, ⟨u, rfl⟩⟩
    · exact fun A i s Q E st hq => wpAny_pyIter_striter_ascii st hq

/-! ### texts and bools in lists -/
theorem strsAre_of {ss : List Str} : ∀ {us : List Value}, Vals (ss.map V.str) us → StrsAre us ss := by
  induction ss with
  | nil => intro us r; rw [List.map_nil] at r; cases r; exact .nil
  | cons n ns ih =>
    intro us r
    rw [List.map_cons] at r
    cases r with
    | cons r1 r2 =>
      obtain ⟨t, e⟩ := r1
      subst e
      exact .cons n t (ih r2)
theorem vals_strs {ss : List Str} {us : List Value} (h : StrsAre us ss) : Vals (ss.map V.str) us := by
  induction h with
  | nil => exact .nil
  | cons y t r ih => exact .cons ⟨t, rfl⟩ ih
theorem mt_join {X : Cx} : MtR X "str.join" (fun x vs H Q => ∃ (z : Str) (a : Addr) (ss : List Str), x = .str z ∧ vs = [.ref a] ∧ SqL X.K H a (ss.map V.str) ∧ (ss.map (·.length)).sum + ss.length * z.length ≤ 16777216 ∧ Q (.str (Txt.join z ss)) H) := by
  intro pins s σ H x xs v us Q I rx rs h
  obtain ⟨z, a, ss, rfl, rfl, ha, hz, q⟩ := h
  obtain ⟨t, rfl⟩ := rx
  obtain ⟨u, rfl, ru⟩ := rs.one
  cases ru
  obtain ⟨its, r, pl, _⟩ := I.list ha
  exact join_list pl.isList (by simpa using strsAre_of r) hz fun t' k => ⟨.str _, H, I.tok _, ⟨t', rfl⟩, q⟩
theorem boolsOf {bs : List Bool} : ∀ {us : List Value} {i : Nat} {v : Value}, Vals (bs.map V.bl) us → us[i]? = some v → ∃ b, bs[i]? = some b ∧ v = .bool b := by
  induction bs with
  | nil => intro us i v r h; rw [List.map_nil] at r; cases r; simp at h
  | cons b bs ih =>
    intro us i v r h
    rw [List.map_cons] at r
    cases r with
    | cons r1 r2 =>
      cases i with
      | zero => simp at h; subst h; exact ⟨b, rfl, r1⟩
      | succ i => obtain ⟨c, h1, h2⟩ := ih r2 (by simpa using h); exact ⟨c, by simpa using h1, h2⟩
theorem call_all {X : Cx} (hc : X.calm = true) : CallR X (.builtin "all") (fun xs H Q => ∃ (a : Addr) (bs : List Bool), xs = [.ref a] ∧ SqL X.K H a (bs.map V.bl) ∧ Q (.bl (bs.all id)) H) := by
  intro pins s σ H xs us Q I r h
  obtain ⟨a, bs, rfl, ha, q⟩ := h
  obtain ⟨u, rfl, ru⟩ := vals1 r
  cases ru
  obtain ⟨its, rv, pl, _⟩ := I.list ha
  have hl := pl.isList
  have hlt : a < s.heap.objs.size := by obtain ⟨_, e, _⟩ := hl; exact Heap.lt_size e
  refine call_all_walk (wpAny_pyIter_list hl ?_)
  refine ⟨s.heap.objs.size, [s.heap.objs.size, a], [s.heap.objs.size], its.toArray.size, _, _, fun i => (bs[i]?).getD true, rfl, Walks.list (A := X.A.in1) (I.ok.hd hc) _ a (Nat.ne_of_lt hlt) its.toArray,
    ⟨⟨_, Heap.get?_push_size _ rfl, rfl, rfl⟩, hl.push _⟩, fun i v s' Q' E' hP hQ => ?_, fun h' tk hk => ?_⟩
  · obtain ⟨b, e, rfl⟩ := boolsOf rv (by simpa using hP)
    simp only [e, Option.getD_some] at hQ
    exact wpAny_truthy_bool hQ
  · have hn := rv.length
    rw [List.length_map] at hn
    have e : ((List.range its.toArray.size).all fun i => (bs[i]?).getD true) = bs.all id := by
      rw [List.size_toArray, ← hn]; exact LSm.range_all bs
    rw [e]
    exact ⟨.bl _, H, I.kept (LSm.kept_iter hk), rfl, q⟩
theorem call_isi {X : Cx} : CallR X (.builtin "isinstance") (fun xs H Q => ∃ x c t b, xs = [x, .ty c] ∧ TyOf X.K H x t ∧ PySem.W.kitOne X.K t (.type c) = some b ∧ Q (.bl b) H) := by
  intro pins s σ H xs us Q I r h
  obtain ⟨x, c, t, b, rfl, ty, e, q⟩ := h
  obtain ⟨u, w', rfl, r1, r2⟩ := vals2 r
  cases r2
  exact isinst_ok I r1 ty e fun tk => ⟨.bl b, H, I.tok _, rfl, q⟩
theorem op_fdivB {X : Cx} : OpR X (binaryOp .FloorDiv) (rI (fun _ j => 0 < j ∧ j < 2 ^ 64) fun i j => .int (i / j)) := opI fun i j _ _ _ _ _ hc q => by
  obtain ⟨h1, h2⟩ := hc
  refine floordiv_int (by omega) (by rw [Int.fdiv_eq_ediv_of_nonneg i (by omega)]; exact q) (.inl (PyProof.noPylong_of_log2 ?_))
  have h0 : j.natAbs ≠ 0 := by omega
  have : j.natAbs.log2 < 64 := (Nat.log2_lt h0).mpr (by omega)
  omega
end L2

set_option Elab.async false
set_option linter.all false
set_option maxRecDepth 100000
set_option maxHeartbeats 4000000
namespace L2
open PySem PySem.Spec PyProof.Rows

/-! ### what yields n values and leaves the heap as it is -/
structure Steady (J : It) (H1 : Hp) (n : Nat) (vs : Nat → V → Prop) : Prop where
  go : ∀ i H', i < n → Same H1 H' → J.go i H'
  yld : ∀ i H' x H2, i < n → Same H1 H' → J.yld i H' x H2 → H2 = H' ∧ vs i x
  stop : ∀ H', Same H1 H' → J.stop n H'
theorem steady_walk {H1 : Hp} {n : Nat} {vs : Nat → V → Prop} : Steady (Itw n vs) H1 n vs := ⟨fun _ _ h _ => h, fun _ _ _ _ _ _ h => h, fun _ _ => rfl⟩
theorem steady_range {H1 : Hp} {lo : Int} {n : Nat} : Steady (Itr lo n) H1 n (fun i x => x = .int (lo + i)) := ⟨fun _ _ h _ => h, fun _ _ _ _ _ _ h => h, fun _ _ => Nat.le_refl _⟩
theorem steady_list {K : PySem.W.Frag} {H1 : Hp} {a : Addr} {xs : List V} (h : SqL K H1 a xs) : Steady (Itl K a) H1 xs.length (fun i x => xs[i]? = some x) :=
  ⟨fun i H' hi s => ⟨xs, xs[i], s.seq h, by simp [hi]⟩, fun i H' x H2 hi s y => ⟨y.1, y.2 xs (s.seq h)⟩, fun H' s => ⟨xs, s.seq h, Nat.le_refl _⟩⟩
theorem Same.sqT {K : PySem.W.Frag} {H H' : Hp} {a : Addr} {xs : List V} (e : Same H H') (h : SqT K H a xs) : SqT K H' a xs := by
  rcases h with (h | ⟨o, h⟩) | h
  · exact .inl (.inl (e _ _ h))
  · exact .inl (.inr ⟨o, e _ _ h⟩)
  · exact .inr h
theorem steady_tup {K : PySem.W.Frag} {H1 : Hp} {a : Addr} {xs : List V} (h : SqT K H1 a xs) : Steady (Itt K a) H1 xs.length (fun i x => xs[i]? = some x) :=
  ⟨fun i H' hi s => ⟨xs, xs[i], s.sqT h, by simp [hi]⟩, fun i H' x H2 hi s y => ⟨y.1, y.2 xs (s.sqT h)⟩, fun H' s => ⟨xs, s.sqT h, Nat.le_refl _⟩⟩
theorem Same.updN {H : Hp} {D : Addr} {o : HO} (h : H D = none) : Same H (upd H D o) := fun b u e => by rw [upd_ne (ne_of_none e h)]; exact e
theorem Same.step {H0 H : Hp} {D : Addr} {o : HO} (s : Same H0 H) (h : H0 D = none) : Same H0 (upd H D o) := fun b u e => by rw [upd_ne (ne_of_none e h)]; exact s b u e

theorem comp_by {J : It} {n : Nat} {vs : Nat → V → Prop} {g : TG} {te : TE} {D : Addr} {Q : Hp → Prop} {σ : St} {H0 H : Hp} (S : Steady J H0 n vs) (hn : n ≤ sizeLine) (Pv : Nat → List V → St → Hp → Prop)
    (h0 : Pv 0 [] σ H) (hsame : ∀ i xs σ' H', Pv i xs σ' H' → Same H0 H' ∧ xs.length = i)
    (step : ∀ i xs σ' H' x, i < n → vs i x → Pv i xs σ' H' → ∀ R : V → St → Hp → Prop, (∀ v σ2 H4, H4 D = some (.lst xs) → Pv (i + 1) (xs ++ [v]) σ2 (upd H4 D (.lst (xs ++ [v]))) → R v σ2 H4) → g x σ' H' fun σ2 H3 => te σ2 H3 fun v H4 => R v σ2 H4)
    (fin : ∀ xs σ' H', Pv n xs σ' H' → Q H') : CompW J g te D Q σ H := by
  refine ⟨fun i m σ' H' => m = n - i ∧ i ≤ n ∧ ∃ xs, Pv i xs σ' H', ⟨n, by simp, Nat.zero_le _, [], h0⟩, ?_⟩
  rintro i m σ' H' ⟨rfl, hi, xs, p⟩
  obtain ⟨sm, hl⟩ := hsame _ _ _ _ p
  by_cases hlt : i < n
  · refine .inr ⟨S.go i H' hlt sm, fun σ2 H2 => ∃ ys, Pv (i + 1) ys σ2 H2, fun σ2 H2 ⟨ys, p'⟩ => ⟨n - (i + 1), by omega, rfl, hlt, ys, p'⟩, fun x H2 y => ?_⟩
    obtain ⟨e, hv⟩ := S.yld i H' x H2 hlt sm y
    subst e
    exact step i xs σ' _ x hlt hv p (fun v σ2 H4 => ∃ xs, H4 D = some (.lst xs) ∧ xs.length < sizeLine ∧ ∃ ys, Pv (i + 1) ys σ2 (upd H4 D (.lst (xs ++ [v])))) fun v σ2 H4 a b => ⟨xs, a, by omega, _, b⟩
  · have e : i = n := by omega
    subst e
    exact .inl ⟨S.stop H' sm, fin xs σ' H' p⟩
theorem comp_pure {J : It} {n : Nat} {vs : Nat → V → Prop} {g : TG} {te : TE} {D : Addr} {Q : Hp → Prop} {σ : St} {H : Hp} (S : Steady J H n vs) (hn : n ≤ sizeLine) (hD : H D = none) (Pσ : St → Prop) (out : Nat → V)
    (h0 : Pσ σ) (step : ∀ i x σ' H', i < n → vs i x → Pσ σ' → Same H H' → ∀ R : V → St → Hp → Prop, (∀ σ2, Pσ σ2 → R (out i) σ2 H') → g x σ' H' fun σ2 H3 => te σ2 H3 fun v H4 => R v σ2 H4)
    (fin : Q (upd H D (.lst ((List.range n).map out)))) : CompW J g te D Q σ (upd H D (.lst [])) := by
  refine ⟨fun i m σ' H' => m = n - i ∧ i ≤ n ∧ Pσ σ' ∧ H' = upd H D (.lst ((List.range i).map out)), ⟨n, by simp, Nat.zero_le _, h0, rfl⟩, ?_⟩
  rintro i m σ' H' ⟨rfl, hi, p, rfl⟩
  have sm : Same H (upd H D (.lst ((List.range i).map out))) := Same.updN hD
  by_cases hlt : i < n
  · refine .inr ⟨S.go i _ hlt sm, fun σ2 H2 => Pσ σ2 ∧ H2 = upd H D (.lst ((List.range (i + 1)).map out)), fun σ2 H2 ⟨p', e⟩ => ⟨n - (i + 1), by omega, rfl, hlt, p', e⟩, fun x H2 y => ?_⟩
    obtain ⟨e, hv⟩ := S.yld i _ x H2 hlt sm y
    subst e
    refine step i x σ' _ hlt hv p sm (fun v σ2 H4 => ∃ xs, H4 D = some (.lst xs) ∧ xs.length < sizeLine ∧ Pσ σ2 ∧ upd H4 D (.lst (xs ++ [v])) = upd H D (.lst ((List.range (i + 1)).map out))) fun σ2 p2 => ?_
    refine ⟨(List.range i).map out, upd_same, by rw [List.length_map, List.length_range]; omega, p2, ?_⟩
    rw [upd_upd, List.range_succ, List.map_append, List.map_singleton]
  · have e : i = n := by omega
    subst e
    exact .inl ⟨S.stop _ sm, fin⟩
def ForW (J : It) (g : TG) (tb : TS) (D : Ends) (σ : St) (H : Hp) : Prop :=
  ∃ W : Nat → Nat → St → Hp → Prop, (∃ m, W 0 m σ H) ∧ ∀ i m σ H, W i m σ H →
    (J.stop i H ∧ D.nx σ H) ∨ (J.go i H ∧ ∃ N : St → Hp → Prop, (∀ σ' H', N σ' H' → ∃ m', m' < m ∧ W (i + 1) m' σ' H') ∧ ∀ x H', J.yld i H x H' → g x σ H' fun σ2 H2 => tb { D with nx := N, ct := N, bk := D.nx } σ2 H2)
theorem tFor_eq (wi : TI) (g : TG) (tb : TS) (D : Ends) (σ : St) (H : Hp) : tFor wi g tb D σ H = wi σ H fun J H1 => ForW J g tb D σ H1 := rfl
theorem for_steady {J : It} {H0 : Hp} {n : Nat} {vs : Nat → V → Prop} {g : TG} {tb : TS} {D : Ends} {σ : St} {H : Hp} (S : Steady J H0 n vs) (Pv : Nat → St → Hp → Prop) (h0 : Pv 0 σ H) (hsame : ∀ i σ H, i ≤ n → Pv i σ H → Same H0 H)
    (hs : ∀ i x σ H, i < n → vs i x → Pv i σ H → g x σ H fun σ2 H2 => tb { D with nx := Pv (i + 1), ct := Pv (i + 1), bk := D.nx } σ2 H2) (hd : ∀ σ H, Pv n σ H → D.nx σ H) : ForW J g tb D σ H := by
  refine ⟨fun i m σ H => m = n - i ∧ i ≤ n ∧ Pv i σ H, ⟨n, by simp, Nat.zero_le _, h0⟩, ?_⟩
  rintro i m σ H ⟨rfl, hi, p⟩
  have sm := hsame i σ H hi p
  by_cases hlt : i < n
  · refine .inr ⟨S.go i H hlt sm, Pv (i + 1), fun σ' H' p' => ⟨n - (i + 1), by omega, rfl, hlt, p'⟩, fun x H' y => ?_⟩
    obtain ⟨e, hv⟩ := S.yld i H x H' hlt sm y
    subst e
    exact hs i x σ _ hlt hv p
  · have e : i = n := by omega
    subst e
    exact .inl ⟨S.stop H sm, hd σ H p⟩

/-! ### a cut between two statements -/
def tCut (t u : TS) : TS := fun D σ H => ∃ Pv : St → Hp → Prop, t { D with nx := Pv } σ H ∧ ∀ σ' H', Pv σ' H' → u D σ' H'
theorem pss_cut {X : Cx} {st : Stmt} {rest : List Stmt} {t u : TS} (h1 : PS X st t) (h2 : PSs X rest u) : PSs X (st :: rest) (tCut t u) := by
  intro pins s σ H D I h
  obtain ⟨Pv, h, k⟩ := h
  refine wpAny_execs_cons (thn (h1 s σ H { D with nx := Pv } I h) fun f s1 q => ?_)
  cases f with
  | next =>
    obtain ⟨σ', H', I', q⟩ := q
    exact h2 s1 σ' H' D I' (k _ _ q)
  | ret v => exact q
  | brk => exact q
  | cont => exact q
theorem cut {t u : TS} {D : Ends} {σ : St} {H : Hp} (Pv : St → Hp → Prop) (h : t { D with nx := Pv } σ H) (k : ∀ σ' H', Pv σ' H' → u D σ' H') : tCut t u D σ H := ⟨Pv, h, k⟩

/-! ### what must be seen of a block's scope, by computation -/
def blkB (N : List Str) (on : List (Str × NameKind)) (sc : Scope) (N' : List Str) (pk : List (Option Nat)) : Bool :=
  (sc.kind == .function) && (sc.names.all fun y => !(y.2 == .cell)) && (sc.names.all fun y => !(y.2 == .local) || (sc.names.lookup y.1 == some .local)) &&
  (sc.names.all fun y => !(y.2 == .free) || (on.lookup y.1 == some .cell) || (on.lookup y.1 == some .free)) && (pk.length == N'.length) &&
  ((List.range pk.length).all fun i => match pk[i]? with
    | some (some j) => (match N'[i]? with | some x => (N[j]? == some x) && (sc.names.lookup x == some .free) | none => false)
    | _ => true)
theorem BlkOk.of {N : List Str} {env : Env} {sc : Scope} {N' : List Str} {pk : List (Option Nat)} (h : blkB N env.scope.names sc N' pk = true) : BlkOk N env sc N' pk := by
  unfold blkB at h
  simp only [Bool.and_eq_true] at h
  obtain ⟨⟨⟨⟨⟨h1, h2⟩, h3⟩, h4⟩, h5⟩, h6⟩ := h
  refine ⟨by simpa using h1, fun y hy e => ?_, fun y hy e => ?_, fun y hy e => ?_, by simpa using h5, fun i x hx j hj => ?_⟩
  · have := List.all_eq_true.mp h2 y hy
    rw [e] at this
    exact absurd this (by decide)
  · have := List.all_eq_true.mp h3 y hy
    rw [e] at this
    simpa using this
  · have := List.all_eq_true.mp h4 y hy
    rw [e] at this
    simpa [Bool.or_eq_true] using this
  · have hi : i < pk.length := (List.getElem?_eq_some_iff.mp hj).1
    have := List.all_eq_true.mp h6 i (List.mem_range.mpr hi)
    rw [hj, hx] at this
    simpa [Bool.and_eq_true] using this
theorem cxOf_K {CX : CXT} {P : Program} {w : World} {K : PySem.W.Frag} {mg : Str → Option Value} {base : Heap} {N : List Str} {qual : Str} {scope : Scope} {f : Addr} {cd : Value} {A : Around} {outer : List Env} {s : Shared} {H : Hp} {E : XK} : (cxOf CX P w K mg base N qual scope f cd A outer s H E).K = K := rfl
theorem cxB_K {X : Cx} {N : List Str} {scope : Scope} {s : Shared} {H : Hp} {ex : List Addr} : (cxB X N scope s H ex).K = X.K := rfl
theorem start_eq (N : List Str) (vs : List V) : L2.start N vs = vs.map some ++ List.replicate (N.length - vs.length) none := rfl
theorem sgn_eq (c : Nat) : sgn c = .str ⟨#[c]⟩ := rfl
end L2

set_option Elab.async false
set_option linter.all false
set_option maxRecDepth 100000
set_option maxHeartbeats 8000000
namespace L2
open PySem PySem.Spec PyProof.Rows

/-! ### set(list of texts) -/
def addS (acc : List Str) (x : Str) : List Str := if x ∈ acc then acc else acc ++ [x]
def metS (l : List Str) : List Str := l.foldl addS []
theorem metS_snoc (l : List Str) (x : Str) : metS (l ++ [x]) = addS (metS l) x := by unfold metS; rw [List.foldl_append]; rfl
theorem addS_len (acc : List Str) (x : Str) : (addS acc x).length ≤ acc.length + 1 := by unfold addS; split <;> simp
theorem metS_take_len (l : List Str) : ∀ i, (metS (l.take i)).length ≤ i
  | 0 => by simp [metS]
  | i + 1 => by
    have ih := metS_take_len l i
    cases h : l[i]? with
    | none =>
      have : l.length ≤ i := List.getElem?_eq_none_iff.mp h
      rw [List.take_of_length_le (by omega)]
      rw [List.take_of_length_le this] at ih
      omega
    | some x =>
      rw [List.take_succ, h]
      show (metS (l.take i ++ [x])).length ≤ i + 1
      rw [metS_snoc]
      have := addS_len (metS (l.take i)) x
      omega

section
variable {prog : Program} {w : World}
theorem set_step {h : Heap} {S : Addr} {acc : List Str} {x : Str} (hs : h.SetOf (strKind prog w) S (fun k => decide (k ∈ acc) || decide (k = x)) (if decide (x ∈ acc) = true then acc.length else acc.length + 1)) :
    h.SetOf (strKind prog w) S (fun k => decide (k ∈ addS acc x)) (addS acc x).length := by
  refine SetOf_congr hs (fun k => ?_) ?_
  · unfold addS
    by_cases hx : x ∈ acc
    · rw [if_pos hx]
      by_cases hk : k = x
      · subst hk; simp [hx]
      · simp [hk]
    · rw [if_neg hx]
      rw [Bool.eq_iff_iff]
      simp
  · unfold addS
    by_cases hx : x ∈ acc
    · rw [if_pos hx, if_pos (by simpa using hx)]
    · rw [if_neg hx, if_neg (by simpa using hx), List.length_append]; rfl

theorem set_loop {A : Around} {R : Result → Shared → Prop} {I S l : Addr} {items : Array Value} {ss : List Str} (hh : A.in1.handled = none) (hIl : l ≠ I) (hSI : S ≠ I) (hSl : S ≠ l) (hss : StrsAre items.toList ss) (hb : items.size + 1 < scanBound) :
    ∀ (k i : Nat) (s : Shared), items.size - i = k → i ≤ items.size → s.heap.IsListIter I l i → s.heap.IsList l items → s.heap.SetOf (strKind prog w) S (fun x => decide (x ∈ metS (ss.take i))) (metS (ss.take i)).length →
      (∀ h' tk, (∀ b o, b ≠ S → b ≠ I → s.heap.get? b = some o → h'.get? b = some o) → h'.SetOf (strKind prog w) S (fun x => decide (x ∈ metS ss)) (metS ss).length → R (.ok (.ret .none)) { s with heap := h', toks := tk }) →
      codeAny (model prog w) A (.builtin "set.update.loop" ⟨[.ref S, .ref I], []⟩) R s := by
  have hlen : items.size = ss.length := by rw [← hss.length]; simp
  intro k
  induction k with
  | zero =>
    intro i s hk hi hit hl hS hR
    have e : i = items.size := by omega
    subst e
    refine codeAny_builtin PyProof.Rows.F.entry_set_update_loop ?_
    rw [Around.under_plainId PyProof.Rows.F.plain_set_update_loop _]
    refine wpAny_bind (wpAny_pyNext_list_end hh hit hl (by simp) fun h' eb => ?_)
    rw [hlen, List.take_length] at hS
    refine wpAny_pure (hR h' s.toks (fun b o _ hb e => eb b o hb e) ?_)
    obtain ⟨o, es, ep, t, ho, rest⟩ := hS
    exact ⟨o, es, ep, t, eb S o hSI ho, rest⟩
  | succ k ih =>
    intro i s hk hi hit hl hS hR
    have hlt : i < items.size := by omega
    obtain ⟨x, hx⟩ : ∃ x, ss[i]? = some x := ⟨ss[i]'(by omega), List.getElem?_eq_getElem (by omega)⟩
    obtain ⟨t, ht⟩ : ∃ t, items[i]? = some (.str x t) := by
      obtain ⟨u, hu, r⟩ := (vals_strs hss).get (i := i) (x := V.str x) (by rw [List.getElem?_map, hx]; rfl)
      obtain ⟨t, rfl⟩ := r
      exact ⟨t, by simpa using hu⟩
    refine codeAny_builtin PyProof.Rows.F.entry_set_update_loop ?_
    rw [Around.under_plainId PyProof.Rows.F.plain_set_update_loop _]
    refine wpAny_bind (wpAny_pyNext_list_item hit hl ht fun h' hit' sb => ?_)
    have hS' : h'.SetOf (strKind prog w) S (fun x => decide (x ∈ metS (ss.take i))) (metS (ss.take i)).length := by
      obtain ⟨o, es, ep, tb, ho, rest⟩ := hS
      exact ⟨o, es, ep, tb, (sb.2 S hSI).trans ho, rest⟩
    show wpAny _ A.in1 (holding [Value.str x t] (setAdd S (.str x t)) >>= _) _ _ _
    refine wpAny_bind (wpAny_holding ?_)
    unfold setAdd
    refine wpAny_holding (wpAny_bind ((strKind prog w).pyHash (k := x) (strKind_is _ _ _ _) ?_))
    have hroom : (metS (ss.take i)).length + 1 < scanBound := by have := metS_take_len ss i; omega
    refine wpAny_setAddHashed_of (knd := strKind prog w) (strKind_is _ _ _ _) rfl hS' hroom fun h2 hsb hS2 => ?_
    have hS3 := set_step hS2
    have et : metS (ss.take (i + 1)) = addS (metS (ss.take i)) x := by rw [List.take_succ, hx]; exact metS_snoc _ _
    rw [← et] at hS3
    refine wpAny_pure ⟨plainId_quiet PyProof.Rows.F.plain_set_update_loop _, ih (i + 1) _ (by omega) hlt ?_ ?_ hS3 fun h3 tk kk hS4 => ?_⟩
    · exact hit'.at fun o e => (hsb.2 I (Ne.symm hSI)).trans e
    · exact hl.at fun o e => (hsb.2 l (Ne.symm hSl)).trans ((sb.2 l hIl).trans e)
    · exact hR h3 tk (fun b o h1 h2' e => kk b o h1 h2' ((hsb.2 b h1).trans ((sb.2 b h2').trans e))) hS4
end
end L2

set_option Elab.async false
set_option linter.all false
set_option maxRecDepth 100000
set_option maxHeartbeats 8000000
namespace L2
open PySem PySem.Spec PyProof.Rows
section
variable {prog : Program} {w : World} {A : Around} {E : Value → Shared → Prop} {s : Shared}
theorem type_made {T newId initId : String} {Bi : Builtin} {args : List Value} {Q Q1 : Value → Shared → Prop} (ft : TypeCalled T newId initId) (hct : checkTypeCall T ⟨args, []⟩ = pure ()) (hI : entryFor table initId = some Bi)
    (hnew : codeAny (model prog w) A.in1 (.call (.builtin newId) ⟨.type T :: args, []⟩) (wants Q1 E) s)
    (hinit : ∀ obj s1, Q1 obj s1 → s1.TypeIs obj T ∧ ∀ E' : Value → Shared → Prop, wpAny (model prog w) A.in1.in1 (checkBuiltinCall initId ⟨obj :: args, []⟩) (fun _ s2 => s2 = s1) E' s1)
    (hbody : ∀ obj s1, Q1 obj s1 → wpAny (model prog w) A.in1.in1 (Bi ⟨obj :: args, []⟩)
        (fun fin s' => match fin with | .done f => wants (fun r s2 => r = .none ∧ Q obj s2) E (.ok f) s' | .again c' => c'.quiet = true ∧ codeAny (model prog w) A.in1 c' (wants (fun r s2 => r = .none ∧ Q obj s2) E) s')
        (fun e s' => wants (fun r s2 => r = .none ∧ Q obj s2) E (.error e) s') s1) : wpAny (model prog w) A (call (.type T) args) Q E s := by
  have hmade := ft.made; have hsub := ft.sub; obtain ⟨c, tl, hmro⟩ := ft.mro; have h1 := ft.notType; have h2 := ft.canCreate
  refine wpAny_call (codeAny_of_tree (show wpAny _ _ (callAny (.type T) _) _ _ _ from wpAny_pure ⟨Code.quiet_builtin _ (by decide +kernel), codeAny_builtin F.entry_type_call ?_⟩))
  rw [Around.under_plain (weight_type_call_type T args []) rfl]
  repeat (any_goals (first | assumption | wp_step))
  refine codeAny_mono hnew fun r s1 hr => ?_
  rcases r with e | fl
  · exact hr
  cases fl with
  | ret obj =>
    obtain ⟨hT, hck⟩ := hinit _ _ hr
    have hli := ft.init.lookup; have hbi := ft.init.bind obj
    repeat (any_goals (first | assumption | wp_step))
    refine codeAny_mono (codeAny_call_builtin (R := wants (fun r s2 => r = .none ∧ Q obj s2) E) ft.init.plain hI (wpAny_mono (hck _) (fun _ s2 e => by subst e; exact hbody _ _ hr) fun _ _ h' => h')) fun r2 s2 hr2 => ?_
    rcases r2 with e | f2
    · exact hr2
    cases f2 with
    | ret r =>
      obtain ⟨rfl, hq⟩ := hr2
      repeat (any_goals (first | assumption | wp_step))
    | _ => exact hr2.elim
  | _ => exact hr.elim

theorem set_made {l : Addr} {items : Array Value} {ss : List Str} {Q : Value → Shared → Prop} (hh : A.handled = none) (hl : s.heap.IsList l items) (hss : StrsAre items.toList ss) (hb : items.size + 1 < scanBound)
    (h : ∀ h' tk, (∀ b o, s.heap.get? b = some o → h'.get? b = some o) → h'.SetOf (strKind prog w) s.heap.objs.size (fun x => decide (x ∈ metS ss)) (metS ss).length → Q (.ref s.heap.objs.size) { s with heap := h', toks := tk }) :
    wpAny (model prog w) A (call (.type "set") [.ref l]) Q E s := by
  refine type_made (Q1 := fun obj s1 => ∃ led : Bool, obj = .ref s.heap.objs.size ∧ s1 = { s with heap := s.heap.push { cls := .type "set", dict := none, data := .set #[] 0 (.fresh 0 0 led) } }) F.called_set (F.typeCall_set_1 _) F.entry_set_init (code_set_new_1 (.ref l) fun led => ⟨led, rfl, rfl⟩) ?_ ?_
  · rintro obj s1 ⟨led, rfl, rfl⟩
    have hT : Shared.TypeIs { s with heap := s.heap.push { cls := .type "set", dict := none, data := .set #[] 0 (.fresh 0 0 led) } } (.ref s.heap.objs.size) "set" := ⟨_, Heap.get?_push_size _ rfl, rfl⟩
    exact ⟨hT, fun E' => check_set_init_1 hT rfl⟩
  · rintro obj s1 ⟨led, rfl, rfl⟩
    have hlt : l < s.heap.objs.size := by obtain ⟨_, e, _⟩ := hl; exact Heap.lt_size e
    obtain ⟨⟨oc, od, odt, osl⟩, hol, hcl, nl, hdl⟩ := id hl
    simp only at hcl hdl
    subst hcl; subst hdl
    have hol' : (s.heap.push { cls := .type "set", dict := none, data := .set #[] 0 (.fresh 0 0 led) }).get? l = some { cls := .type "list", dict := od, data := .seq items nl, slots := osl } := Heap.get?_push_of_some _ hol
    have hS : (s.heap.push { cls := .type "set", dict := none, data := .set #[] 0 (.fresh 0 0 led) }).get? s.heap.objs.size = some { cls := .type "set", dict := none, data := .set #[] 0 (.fresh 0 0 led) } := Heap.get?_push_size _ rfl
    have hl1 : (s.heap.push { cls := .type "set", dict := none, data := .set #[] 0 (.fresh 0 0 led) }).IsList l items := ⟨_, hol', rfl, nl, rfl⟩
    have hsls := F.sub_list_set; have hslf := F.sub_list_frozenset
    have hne : (Value.type "list" == Value.type "dict") = false := by decide
    unfold Builtin.«set.__init__» noKeywords Builtin.Frozenset.updateFrom
    generalize hPI : pyIter = PI
    wp_walk
    subst hPI
    refine wpAny_pyIter_list hl1 (wpAny_bind (wpAny_runValue ?_))
    have hz : (s.heap.push { cls := .type "set", dict := none, data := .set #[] 0 (.fresh 0 0 led) }).objs.size = s.heap.objs.size + 1 := Heap.size_push ..
    refine set_loop (l := l) (items := items) (ss := ss) (by simp [hh]) (by rw [hz]; exact Nat.ne_of_lt (Nat.lt_succ_of_lt hlt)) (by rw [hz]; exact Nat.ne_of_lt (Nat.lt_succ_self _)) (Nat.ne_of_gt hlt) hss hb (items.size - 0) 0 _ (by omega) (Nat.zero_le _) ⟨_, Heap.get?_push_size _ rfl, rfl, rfl⟩ (hl1.push _) ?_ ?_
    · exact SetOf_congr ((setObjOf_fresh (knd := strKind prog w) led).setOf (Heap.get?_push_of_some _ hS) (by unfold scanBound; omega)) (fun _ => rfl) rfl
    · intro h' tk kk hS'
      refine wpAny_pure (wpAny_pure ⟨rfl, h h' tk (fun b o e => ?_) hS'⟩)
      have hlb := Heap.lt_size e
      exact kk b o (Nat.ne_of_lt hlb) (by rw [hz]; exact Nat.ne_of_lt (Nat.lt_succ_of_lt hlb)) (Heap.get?_push_of_some _ (Heap.get?_push_of_some _ e))
end
end L2

set_option Elab.async false
set_option linter.all false
set_option maxRecDepth 100000
set_option maxHeartbeats 8000000
namespace L2
open PySem PySem.Spec PyProof.Rows
section
variable {prog : Program} {w : World} {A : Around} {E : Value → Shared → Prop} {s : Shared}
theorem alive_ {a : Addr} {Q : Option Obj → Shared → Prop} (h : Q (s.heap.get? a) s) : wpAny (model prog w) A (loadIfAlive a) Q E s := fun Γ p _ => by
  show Sem.wp _ _ (.loadIfAlive a .pure) _ _ _ _
  rw [Sem.wp_loadIfAlive]
  exact h
abbrev ZipL (h : Heap) (z TI TO T0 : Addr) (f1 : Bool) : Prop :=
  h.get? z = some { cls := .type "zip", dict := none, data := .fields #[rawInt T0, .bool f1, .bool false, .ref TI, .ref TO], slots := #[] }
theorem notFree {z TI TO T0 : Addr} {f1 : Bool} {Q : Bool → Shared → Prop} (hz : ZipL s.heap z TI TO T0 f1) (hT : ∃ o, s.heap.get? T0 = some o)
    (h : ∀ h', ZipL h' z TI TO T0 true → (∀ b o, b ≠ z → s.heap.get? b = some o → h'.get? b = some o) → h'.objs.size = s.heap.objs.size → Q false { s with heap := h' }) :
    wpAny (model prog w) A (Builtin.SmallTypes.ownedTupleIsFree (.ref z)) Q E s := by
  obtain ⟨o, ho⟩ := hT
  unfold Builtin.SmallTypes.ownedTupleIsFree
  refine wpAny_bind (wpAny_field hz rfl (x := rawInt T0) rfl ?_)
  show wpAny _ _ (loadIfAlive ((T0 : Int)).toNat >>= _) _ _ _
  rw [Int.toNat_natCast]
  refine wpAny_bind (alive_ ?_)
  rw [ho]
  show wpAny _ _ (if (false : Bool) = true then _ else _) _ _ _
  rw [if_neg Bool.false_ne_true]
  refine wpAny_bind (wpAny_field hz rfl (x := .bool f1) rfl ?_)
  cases f1 with
  | true => exact wpAny_pure (h s.heap hz (fun _ _ _ e => e) rfl)
  | false =>
    refine wpAny_bind (wpAny_setField_rec hz (by simp) fun h' hz' hs' => wpAny_pure (h h' hz' (fun b o hb e => hs'.extBut _ _ hb e) hs'.1))
end
end L2

set_option Elab.async false
set_option linter.all false
set_option maxRecDepth 100000
set_option maxHeartbeats 8000000
namespace L2
open PySem PySem.Spec PyProof.Rows
section
variable {prog : Program} {w : World} {A : Around} {E : Value → Shared → Prop} {s : Shared}
theorem zipL_item {z TI TO T0 i1 i2 l1 l2 : Addr} {f1 : Bool} {k1 k2 : Nat} {xs ys : Array Value} {x y : Value} {Q : Value → Shared → Prop} (D : ZipApart z TI TO i1 i2 l1 l2)
    (hz : ZipL s.heap z TI TO T0 f1) (hT : ∃ o, s.heap.get? T0 = some o) (hTI : IsPair s.heap TI (.ref i1) (.ref i2))
    (h1 : s.heap.IsListIter i1 l1 k1) (h2 : s.heap.IsListIter i2 l2 k2) (hl1 : s.heap.IsList l1 xs) (hl2 : s.heap.IsList l2 ys) (hx : xs[k1]? = some x) (hy : ys[k2]? = some y)
    (hQ : ∀ h', ZipL h' z TI TO T0 true → h'.IsListIter i1 l1 (k1 + 1) → h'.IsListIter i2 l2 (k2 + 1) → IsPair h' s.heap.objs.size x y → h'.objs.size = s.heap.objs.size + 1 →
      (∀ c o, c ≠ z → c ≠ i1 → c ≠ i2 → s.heap.get? c = some o → h'.get? c = some o) → Q (.ref s.heap.objs.size) { s with heap := h' }) :
    wpAny (model prog w) A (Builtin.«zip.__next__» ⟨[.ref z], []⟩) (fun fin s' => ∃ v, fin = .done (.ret v) ∧ Q v s') E s := by
  show wpAny _ _ (field (.ref z) 2 >>= _) _ _ _
  refine wpAny_bind (wpAny_field hz rfl (x := .bool false) rfl (show wpAny _ _ (field (.ref z) 3 >>= _) _ _ _ from wpAny_bind (wpAny_field hz rfl (x := .ref TI) rfl (wpAny_bind (wpAny_seqItems hTI rfl ?_)))))
  show wpAny _ _ (Builtin.SmallTypes.ownedTupleIsFree (.ref z) >>= _) _ _ _
  refine wpAny_bind (notFree hz hT fun ha hza ka hsa => ?_)
  simp only [Bool.false_eq_true, if_false, List.forIn_toArray, List.forIn_cons, List.forIn_nil]
  refine wpAny_bind (wpAny_bind (wpAny_bind (wpAny_holding ?_)))
  have ea : ha.objs.size = s.heap.objs.size := hsa
  show wpAny _ _ (Builtin.SmallTypes.nextOf (.ref i1) >>= _) _ _ _
  refine wpAny_bind (wpAny_nextOf_list_item (h1.at fun o e => ka _ o D.i1z e) (hl1.at fun o e => ka _ o D.l1z e) hx fun hb hib sb => wpAny_pure (wpAny_pure ?_))
  refine wpAny_bind (wpAny_bind (wpAny_holding ?_))
  show wpAny _ _ (Builtin.SmallTypes.nextOf (.ref i2) >>= _) _ _ _
  refine wpAny_bind (wpAny_nextOf_list_item ((h2.at fun o e => ka _ o D.i2z e).extBut sb.extBut D.i12.symm) ((hl2.at fun o e => ka _ o D.l2z e).extBut sb.extBut D.l2i1) hy fun hc hic sc => wpAny_pure (wpAny_pure (wpAny_pure ?_)))
  refine wpAny_bind (wpAny_newTuple (wpAny_pure ⟨_, rfl, ?_⟩) (by show 2 ≤ sizeLine; rw [sizeLine_eq]; decide))
  have ec : hc.objs.size = s.heap.objs.size := by rw [sc.1, sb.1]; exact ea
  have kc : ∀ c o, c ≠ z → c ≠ i1 → c ≠ i2 → s.heap.get? c = some o → hc.get? c = some o := fun c o c1 c2 c3 e => sc.extBut _ _ c3 (sb.extBut _ _ c2 (ka c o c1 e))
  show Q (.ref hc.objs.size) { s with heap := hc.push { cls := .type "tuple", data := .seq #[x, y] } }
  rw [ec]
  have up : ∀ b o, hc.get? b = some o → (hc.push { cls := .type "tuple", data := .seq #[x, y] }).get? b = some o := fun b o e => Heap.get?_push_of_some _ e
  refine hQ _ (up _ _ (sc.extBut _ _ D.i2z.symm (sb.extBut _ _ D.i1z.symm hza))) ((hib.extBut sc.extBut D.i12).at fun o e => up _ o e) (hic.at fun o e => up _ o e) ?_ (by rw [Heap.size_push, ec]) fun c o c1 c2 c3 e => up _ _ (kc c o c1 c2 c3 e)
  have := Heap.get?_push_size hc (o := { cls := .type "tuple", data := .seq #[x, y] }) rfl
  rwa [ec] at this
theorem zipL_end {z TI TO T0 i1 i2 l1 l2 : Addr} {f1 : Bool} {k1 k2 : Nat} {xs ys : Array Value} {Q : Fin → Shared → Prop} (hh : A.handled = none) (D : ZipApart z TI TO i1 i2 l1 l2)
    (hz : ZipL s.heap z TI TO T0 f1) (hT : ∃ o, s.heap.get? T0 = some o) (hTI : IsPair s.heap TI (.ref i1) (.ref i2))
    (h1 : s.heap.IsListIter i1 l1 k1) (hl1 : s.heap.IsList l1 xs) (hx : xs[k1]? = none)
    (hE : ∀ h' e, (∀ c o, c ≠ z → c ≠ i1 → s.heap.get? c = some o → h'.get? c = some o) → (∃ o, h'.get? e = some o ∧ o.cls = .type "StopIteration") → E (.ref e) { s with heap := h' }) :
    wpAny (model prog w) A (Builtin.«zip.__next__» ⟨[.ref z], []⟩) Q E s := by
  show wpAny _ _ (field (.ref z) 2 >>= _) _ _ _
  refine wpAny_bind (wpAny_field hz rfl (x := .bool false) rfl (show wpAny _ _ (field (.ref z) 3 >>= _) _ _ _ from wpAny_bind (wpAny_field hz rfl (x := .ref TI) rfl (wpAny_bind (wpAny_seqItems hTI rfl ?_)))))
  show wpAny _ _ (Builtin.SmallTypes.ownedTupleIsFree (.ref z) >>= _) _ _ _
  refine wpAny_bind (notFree hz hT fun ha hza ka hsa => ?_)
  simp only [Bool.false_eq_true, if_false, List.forIn_toArray, List.forIn_cons, List.forIn_nil]
  refine wpAny_bind (wpAny_bind (wpAny_bind (wpAny_holding ?_)))
  show wpAny _ _ (Builtin.SmallTypes.nextOf (.ref i1) >>= _) _ _ _
  refine wpAny_bind (wpAny_nextOf_list_end hh (h1.at fun o e => ka _ o D.i1z e) (hl1.at fun o e => ka _ o D.l1z e) hx fun hb e kb he => ?_)
  exact hE hb e (fun c o c1 c2 x => kb _ _ c2 (ka c o c1 x)) he
theorem nextL_item {z TI TO T0 i1 i2 l1 l2 : Addr} {f1 : Bool} {k1 k2 : Nat} {xs ys : Array Value} {x y : Value} {Q : Option Value → Shared → Prop} (D : ZipApart z TI TO i1 i2 l1 l2)
    (hz : ZipL s.heap z TI TO T0 f1) (hT : ∃ o, s.heap.get? T0 = some o) (hTI : IsPair s.heap TI (.ref i1) (.ref i2))
    (h1 : s.heap.IsListIter i1 l1 k1) (h2 : s.heap.IsListIter i2 l2 k2) (hl1 : s.heap.IsList l1 xs) (hl2 : s.heap.IsList l2 ys) (hx : xs[k1]? = some x) (hy : ys[k2]? = some y)
    (hQ : ∀ h', ZipL h' z TI TO T0 true → h'.IsListIter i1 l1 (k1 + 1) → h'.IsListIter i2 l2 (k2 + 1) → IsPair h' s.heap.objs.size x y → h'.objs.size = s.heap.objs.size + 1 →
      (∀ c o, c ≠ z → c ≠ i1 → c ≠ i2 → s.heap.get? c = some o → h'.get? c = some o) → Q (some (.ref s.heap.objs.size)) { s with heap := h' }) :
    wpAny (model prog w) A (pyNext (.ref z)) Q E s := by
  have hTy : s.TypeIs (.ref z) "zip" := ⟨_, hz, rfl⟩
  unfold pyNext
  exact wpAny_bind (wpAny_attempt (wpAny_callSpecial?_slot (name := Str.ofString "__next__") hTy F.slot_zip_next (wpAny_call_entry F.slot_zip_next hTy F.entry_zip_next
      (zipL_item D hz hT hTI h1 h2 hl1 hl2 hx hy fun h' a1 a2 a3 a4 a5 a6 => wpAny_pure (hQ h' a1 a2 a3 a4 a5 a6)) (F.args_zip_next_1 _))))
theorem nextL_end {z TI TO T0 i1 i2 l1 l2 : Addr} {f1 : Bool} {k1 : Nat} {xs : Array Value} {Q : Option Value → Shared → Prop} (hh : A.handled = none) (D : ZipApart z TI TO i1 i2 l1 l2)
    (hz : ZipL s.heap z TI TO T0 f1) (hT : ∃ o, s.heap.get? T0 = some o) (hTI : IsPair s.heap TI (.ref i1) (.ref i2)) (h1 : s.heap.IsListIter i1 l1 k1) (hl1 : s.heap.IsList l1 xs) (hx : xs[k1]? = none)
    (hQ : ∀ h', (∀ c o, c ≠ z → c ≠ i1 → s.heap.get? c = some o → h'.get? c = some o) → Q none { s with heap := h' }) : wpAny (model prog w) A (pyNext (.ref z)) Q E s := by
  have hTy : s.TypeIs (.ref z) "zip" := ⟨_, hz, rfl⟩
  unfold pyNext
  refine wpAny_bind (wpAny_attempt (wpAny_callSpecial?_slot (name := Str.ofString "__next__") hTy F.slot_zip_next (wpAny_call_entry F.slot_zip_next hTy F.entry_zip_next
    (zipL_end (k2 := 0) (ys := #[]) hh D hz hT hTI h1 hl1 hx fun h' e hk he => ?_) (F.args_zip_next_1 _))))
  obtain ⟨o, ho, hc⟩ := he
  exact wpAny_bind (wpAny_isInstance (T := "StopIteration") (b := true) ⟨o, ho, hc⟩ isSubtype_stop (wpAny_pure (hQ _ hk)))
end
end L2

set_option Elab.async false
set_option linter.all false
set_option maxRecDepth 100000
set_option maxHeartbeats 8000000
namespace L2
open PySem PySem.Spec PyProof.Rows
theorem dz_getattr_none : typeLookup (.type "zip") "__getattr__" = pure none := by rw [typeLookup_type, builtinLookup_eq_fast]; kernel_rfl
theorem dz_keys_none : typeLookup (.type "zip") "keys" = pure none := by rw [typeLookup_type, builtinLookup_eq_fast]; kernel_rfl
theorem dz_entry_loop : entryFor table "dict.update.loop" = some Builtin.«dict.update.loop» := entryFor_of_tree (by kernel_rfl)
theorem dz_plain_loop : plainId "dict.update.loop" = true := by decide +kernel
theorem dz_entry_ga : entryFor table "zip.__getattribute__" = some Builtin.«object.__getattribute__» := entryFor_alias (id' := "object.__getattribute__") (by kernel_rfl) (by decide +kernel) (by decide +kernel) (by kernel_rfl)
section
variable {prog : Program} {w : World} {A : Around} {E : Value → Shared → Prop} {s : Shared}
theorem zip_nokeys {z TI TO : Addr} {f0 : Value} {Q : Option Value → Shared → Prop} (hh : A.handled = none) (hz : IsZip s.heap z TI TO f0)
    (h : ∀ h' tk, (∀ b o, s.heap.get? b = some o → h'.get? b = some o) → Q none { s with heap := h', toks := tk }) : wpAny (model prog w) A (getAttr? (.ref z) "keys") Q E s := by
  have f1 := sub_AttributeError
  have f3 := F.slot_zip_getattribute.lookup
  have f4 := F.slot_zip_getattribute.bind (.ref z)
  have f5 := dz_getattr_none
  have f6 := dz_keys_none
  obtain ⟨hp, g, d, tk, os⟩ := s
  have hT : Shared.TypeIs ⟨hp, g, d, tk, os⟩ (.ref z) "zip" := ⟨_, hz, rfl⟩
  unfold getAttr? getAttrBy? getAttrBy
  repeat (any_goals (first | assumption | wp_step))
  refine codeAny_call_builtin F.slot_zip_getattribute.plain dz_entry_ga (F.slot_zip_getattribute.check _ _ _ _ _ _ _ _ ⟨_, hz, rfl⟩ (F.args_zip_getattribute_2 _ _) ?_)
  unfold Builtin.«object.__getattribute__»
  repeat (any_goals (first | assumption | wp_step))
  refine wpAny_raiseAttrError (by simpa using hh) (fun h' tk' e hx => ?_) (attrMsg_fits (by decide +kernel) (by rw [sizeLine_eq]; decide +kernel))
  obtain ⟨t', u', he⟩ := hx.there
  show wpAny _ _ (getattributeRaised _ _ _ _ _ _ _) _ _ _
  unfold getattributeRaised
  repeat (any_goals (first | assumption | wp_step))
  exact h h' tk' hx.keeps
theorem pair_items {T : Addr} {x y : Value} {Q : List Value → Shared → Prop} (hT : IsPair s.heap T x y) (h : Q [x, y] s) : wpAny (model prog w) A (Builtin.Dict.pairItems (.ref T)) Q E s := by
  unfold Builtin.Dict.pairItems
  refine wpAny_bind (wpAny_typeOf (T := "tuple") ⟨_, hT, rfl⟩ ?_)
  rw [if_pos (by decide)]
  exact wpAny_bind (wpAny_seqItems hT rfl (wpAny_pure h))

def ZipSt (h : Heap) (z TI TO : Addr) : Prop := IsZip h z TI TO .none ∨ ∃ T0 f1, ZipL h z TI TO T0 f1 ∧ (∃ o, h.get? T0 = some o) ∧ T0 ≠ z
theorem zs_item {z TI TO i1 i2 l1 l2 : Addr} {k1 k2 : Nat} {xs ys : Array Value} {x y : Value} {Q : Option Value → Shared → Prop} (D : ZipApart z TI TO i1 i2 l1 l2)
    (hz : ZipSt s.heap z TI TO) (hTI : IsPair s.heap TI (.ref i1) (.ref i2)) (hTO : ∃ a b, IsPair s.heap TO a b)
    (h1 : s.heap.IsListIter i1 l1 k1) (h2 : s.heap.IsListIter i2 l2 k2) (hl1 : s.heap.IsList l1 xs) (hl2 : s.heap.IsList l2 ys) (hx : xs[k1]? = some x) (hy : ys[k2]? = some y)
    (hQ : ∀ h' T, ZipSt h' z TI TO → (∃ a b, IsPair h' TO a b) → h'.IsListIter i1 l1 (k1 + 1) → h'.IsListIter i2 l2 (k2 + 1) → IsPair h' T x y →
      (∀ c o, c ≠ z → c ≠ TO → c ≠ i1 → c ≠ i2 → s.heap.get? c = some o → h'.get? c = some o) → s.heap.objs.size ≤ T → Q (some (.ref T)) { s with heap := h' }) :
    wpAny (model prog w) A (pyNext (.ref z)) Q E s := by
  obtain ⟨a, b, hTO⟩ := hTO
  rcases hz with hz | ⟨T0, f1, hz, hT0, hne⟩
  · refine wpAny_pyNext_zip_item D hz hTI hTO h1 h2 hl1 hl2 hx hy fun h' a1 a2 a3 a4 a5 a6 a7 => ?_
    exact hQ h' _ (.inr ⟨_, _, a1, ⟨_, a5⟩, Nat.ne_of_gt (Heap.lt_size hz)⟩) ⟨_, _, a2⟩ a3 a4 a5 a7 (Nat.le_refl _)
  · refine nextL_item D hz hT0 hTI h1 h2 hl1 hl2 hx hy fun h' a1 a2 a3 a4 a5 a6 => ?_
    have hTO' : IsPair h' TO a b := a6 _ _ D.TOz D.TOi1 D.TOi2 hTO
    have hT0' : ∃ o, h'.get? T0 = some o := by
      obtain ⟨o, ho⟩ := hT0
      by_cases e1 : T0 = i1
      · subst e1; obtain ⟨o', e', _⟩ := a2; exact ⟨o', e'⟩
      · by_cases e2 : T0 = i2
        · subst e2; obtain ⟨o', e', _⟩ := a3; exact ⟨o', e'⟩
        · exact ⟨o, a6 _ _ hne e1 e2 ho⟩
    exact hQ h' _ (.inr ⟨_, _, a1, hT0', hne⟩) ⟨_, _, hTO'⟩ a2 a3 a4 (fun c o c1 _ c3 c4 e => a6 c o c1 c3 c4 e) (Nat.le_refl _)
theorem zs_end {z TI TO i1 i2 l1 l2 : Addr} {k1 k2 : Nat} {xs ys : Array Value} {Q : Option Value → Shared → Prop} (hh : A.handled = none) (D : ZipApart z TI TO i1 i2 l1 l2)
    (hz : ZipSt s.heap z TI TO) (hTI : IsPair s.heap TI (.ref i1) (.ref i2)) (hTO : ∃ a b, IsPair s.heap TO a b)
    (h1 : s.heap.IsListIter i1 l1 k1) (h2 : s.heap.IsListIter i2 l2 k2) (hl1 : s.heap.IsList l1 xs) (hl2 : s.heap.IsList l2 ys) (hx : xs[k1]? = none)
    (hQ : ∀ h', (∀ c o, c ≠ z → c ≠ TO → c ≠ i1 → c ≠ i2 → s.heap.get? c = some o → h'.get? c = some o) → Q none { s with heap := h' }) : wpAny (model prog w) A (pyNext (.ref z)) Q E s := by
  obtain ⟨a, b, hTO⟩ := hTO
  rcases hz with hz | ⟨T0, f1, hz, hT0, hne⟩
  · exact wpAny_pyNext_zip_end hh D hz hTI hTO h1 h2 hl1 hl2 (.inl hx) hQ
  · exact nextL_end hh D hz hT0 hTI h1 hl1 hx fun h' k => hQ h' fun c o c1 _ c3 _ e => k c o c1 c3 e
theorem ZipSt.keep {h h' : Heap} {z TI TO d : Addr} (hz : ZipSt h z TI TO) (hd : d ≠ z) (hs : Heap.SameBut d h h') (hde : ∃ o, h'.get? d = some o) : ZipSt h' z TI TO := by
  rcases hz with hz | ⟨T0, f1, hz, ⟨o, ho⟩, hne⟩
  · exact .inl (hs.extBut _ _ (Ne.symm hd) hz)
  · refine .inr ⟨T0, f1, hs.extBut _ _ (Ne.symm hd) hz, ?_, hne⟩
    by_cases e : T0 = d
    · subst e; exact hde
    · exact ⟨o, hs.extBut _ _ e ho⟩
end
end L2

set_option Elab.async false
set_option linter.all false
set_option maxRecDepth 100000
set_option maxHeartbeats 8000000
namespace L2
open PySem PySem.Spec PyProof.Rows
section
variable {prog : Program} {w : World} {κ : Type} [DecidableEq κ] {knd : KeyKind prog w κ}
theorem dz_loop {A : Around} {R : Result → Shared → Prop} {d z TI TO i1 i2 l1 l2 : Addr} {xs ys : Array Value} {ks : List κ} (hh : A.in1.handled = none) (D : ZipApart z TI TO i1 i2 l1 l2) (hdz : d ≠ z) (hdTI : d ≠ TI) (hdTO : d ≠ TO) (hd1 : d ≠ i1) (hd2 : d ≠ i2) (hdl1 : d ≠ l1) (hdl2 : d ≠ l2)
    (hks : ∀ (i : Nat) x, xs[i]? = some x → ∃ k, ks[i]? = some k ∧ knd.is k x = true) (hxy : xs.size = ys.size) (hkl : ks.length = xs.size) (hsz : xs.size ≤ 1000) :
    ∀ (n i : Nat) (s : Shared), xs.size - i = n → i ≤ xs.size → ZipSt s.heap z TI TO → IsPair s.heap TI (.ref i1) (.ref i2) → (∃ a b, IsPair s.heap TO a b) → s.heap.IsListIter i1 l1 i → s.heap.IsListIter i2 l2 i → s.heap.IsList l1 xs → s.heap.IsList l2 ys →
      (∃ kvs, kvs.length ≤ i ∧ s.heap.DictOf knd d kvs ∧ kvs = merged [] ((ks.zip ys.toList).take i)) →
      (∀ h' tk, (∀ c o, c ≠ d → c ≠ z → c ≠ TO → c ≠ i1 → c ≠ i2 → s.heap.get? c = some o → h'.get? c = some o) → h'.DictOf knd d (merged [] (ks.zip ys.toList)) → R (.ok (.ret .none)) { s with heap := h', toks := tk }) →
      codeAny (model prog w) A (.builtin "dict.update.loop" ⟨[.ref d, .ref z, rawInt i, .none], []⟩) R s := by
  intro n
  induction n with
  | zero =>
    intro i s hn hi hz hTI hTO h1 h2 hl1 hl2 hD hR
    have e : i = xs.size := by omega
    refine codeAny_builtin dz_entry_loop ?_
    rw [Around.under_plainId dz_plain_loop _]
    show wpAny _ A.in1 (pyNext (.ref z) >>= _) _ _ s
    refine wpAny_bind (zs_end hh D hz hTI hTO h1 h2 hl1 hl2 (by rw [e]; simp) fun h' kk => ?_)
    obtain ⟨kvs, hkl', hdd, rfl⟩ := hD
    have et : (ks.zip ys.toList).take i = ks.zip ys.toList := List.take_of_length_le (by rw [List.length_zip, hkl, e]; exact Nat.min_le_left _ _)
    rw [et] at hdd
    refine wpAny_bind (wpAny_pure (wpAny_pure (hR h' s.toks (fun c o _ c1 c2 c3 c4 e => kk c o c1 c2 c3 c4 e) ?_)))
    obtain ⟨o, es, ep, ho, rest⟩ := hdd
    exact ⟨o, es, ep, kk _ _ hdz hdTO hd1 hd2 ho, rest⟩
  | succ n ih =>
    intro i s hn hi hz hTI hTO h1 h2 hl1 hl2 hD hR
    have hlt : i < xs.size := by omega
    have hlt2 : i < ys.size := by omega
    refine codeAny_builtin dz_entry_loop ?_
    rw [Around.under_plainId dz_plain_loop _]
    show wpAny _ A.in1 (pyNext (.ref z) >>= _) _ _ s
    refine wpAny_bind (zs_item D hz hTI hTO h1 h2 hl1 hl2 (Array.getElem?_eq_getElem hlt) (Array.getElem?_eq_getElem hlt2) fun h' T a1 a2 a3 a4 a5 a6 a7 => ?_)
    obtain ⟨k, hk, hkis⟩ := hks i _ (Array.getElem?_eq_getElem hlt)
    obtain ⟨kvs, hkl', hdd, ekv⟩ := hD
    have hdd' : h'.DictOf knd d kvs := by
      obtain ⟨o, es, ep, ho, rest⟩ := hdd
      exact ⟨o, es, ep, a6 _ _ hdz hdTO hd1 hd2 ho, rest⟩
    refine wpAny_bind (wpAny_holding (wpAny_bind (wpAny_tryCatch (pair_items a5 ?_))))
    refine wpAny_holding (wpAny_dictSet_pairs hkis hdd' (fun h2' hdd2 sb => ?_) (by rw [sizeLine_eq]; omega))
    have hde : ∃ o, h2'.get? d = some o := by obtain ⟨o, es, ep, ho, _⟩ := hdd2; exact ⟨o, ho⟩
    have up : ∀ b o, b ≠ d → h'.get? b = some o → h2'.get? b = some o := fun b o hb e => sb.extBut _ _ hb e
    have es : (ks.zip ys.toList).take (i + 1) = (ks.zip ys.toList).take i ++ [(k, ys[i])] := by
      have hzi : (ks.zip ys.toList)[i]? = some (k, ys[i]) := List.getElem?_zip_eq_some.mpr ⟨hk, by simp [hlt2]⟩
      rw [List.take_succ, hzi]
      rfl
    have hst : (stored kvs k ys[i]).length ≤ kvs.length + 1 := by
      unfold stored
      split
      · rw [List.length_map]; omega
      · rw [List.length_append]; simp
    refine wpAny_pure ⟨plainId_quiet dz_plain_loop _, ?_⟩
    have ei : (i : Int) + 1 = ((i + 1 : Nat) : Int) := by omega
    show codeAny (model prog w) A (.builtin "dict.update.loop" ⟨[.ref d, .ref z, rawInt ((i : Int) + 1), .none], []⟩) R _
    rw [ei]
    refine ih (i + 1) _ (by omega) hlt (a1.keep hdz sb hde) (up _ _ (Ne.symm hdTI) (a6 _ _ D.TIz D.TITO D.TIi1 D.TIi2 hTI)) ?_ (a3.at fun o e => up _ o (Ne.symm hd1) e) (a4.at fun o e => up _ o (Ne.symm hd2) e) (hl1.at fun o e => up _ o (Ne.symm hdl1) (a6 _ o D.l1z D.l1TO D.l1i1 D.l1i2 e))
      (hl2.at fun o e => up _ o (Ne.symm hdl2) (a6 _ o D.l2z D.l2TO D.l2i1 D.l2i2 e)) ⟨_, by omega, hdd2, ?_⟩ fun h3 tk kk hd3 => ?_
    · obtain ⟨a, b, e⟩ := a2
      exact ⟨a, b, up _ _ (Ne.symm hdTO) e⟩
    · rw [es, ekv]
      unfold merged
      rw [List.foldl_append]
      rfl
    · exact hR h3 tk (fun c o c0 c1 c2 c3 c4 e => kk c o c0 c1 c2 c3 c4 (up _ _ c0 (a6 c o c1 c2 c3 c4 e))) hd3
theorem dict_zip {A : Around} {E : Value → Shared → Prop} {s : Shared} {Q : Value → Shared → Prop} {z TI TO i1 i2 l1 l2 : Addr} {xs ys : Array Value} {ks : List κ} (hh : A.handled = none) (D : ZipApart z TI TO i1 i2 l1 l2) (hz : IsZip s.heap z TI TO .none)
    (hTI : IsPair s.heap TI (.ref i1) (.ref i2)) (hTO : ∃ a b, IsPair s.heap TO a b) (h1 : s.heap.IsListIter i1 l1 0) (h2 : s.heap.IsListIter i2 l2 0) (hl1 : s.heap.IsList l1 xs) (hl2 : s.heap.IsList l2 ys)
    (hks : ∀ (i : Nat) x, xs[i]? = some x → ∃ k, ks[i]? = some k ∧ knd.is k x = true) (hxy : xs.size = ys.size) (hkl : ks.length = xs.size) (hsz : xs.size ≤ 1000)
    (h : ∀ h' tk, (∀ c o, c ≠ z → c ≠ TO → c ≠ i1 → c ≠ i2 → s.heap.get? c = some o → h'.get? c = some o) → h'.DictOf knd s.heap.objs.size (merged [] (ks.zip ys.toList)) → Q (.ref s.heap.objs.size) { s with heap := h', toks := tk }) :
    wpAny (model prog w) A (call (.type "dict") [.ref z]) Q E s := by
  refine callType_codes (Q₁ := fun obj s₁ => obj = .ref s.heap.objs.size ∧ s₁ = { s with heap := s.heap.push { cls := .type "dict", data := .dict #[] } }) F.kt_called_dict (F.kt_typeCall_dict_1 _) F.entry_dict_init (kt_code_dict_new _ ⟨rfl, rfl⟩) ?_
  rintro obj s1 ⟨rfl, rfl⟩
  have hnew : (s.heap.push { cls := .type "dict", data := .dict #[] }).DictOf knd s.heap.objs.size [] := Heap.DictOf.new s.heap
  have up : ∀ b o, s.heap.get? b = some o → (s.heap.push { cls := .type "dict", data := .dict #[] }).get? b = some o := fun b o e => Heap.get?_push_of_some _ e
  have lt : ∀ {b o}, s.heap.get? b = some o → s.heap.objs.size ≠ b := fun e => Nat.ne_of_gt (Heap.lt_size e)
  refine ⟨hnew.typeIs, F.args_dict_init_2 _ _, ?_⟩
  unfold Builtin.«dict.__init__»
  refine wpAny_bind ?_
  unfold Builtin.Dict.selfAndRest
  refine wpAny_bind (wpAny_notOrdered_dict hnew.typeIs (show wpAny _ _ (pure (s.heap.objs.size, [Value.ref z])) _ _ _ from wpAny_pure ?_))
  show wpAny _ _ (Builtin.Dict.updateFrom "dict.__init__" s.heap.objs.size (.ref z) [] .none) _ _ _
  unfold Builtin.Dict.updateFrom
  refine wpAny_bind (wpAny_typeOf (T := "zip") ⟨_, up _ _ hz, rfl⟩ ?_)
  rw [if_pos (by decide)]
  refine wpAny_bind (zip_nokeys (by simpa using hh) (up _ _ hz) fun h' tk kk => ?_)
  have kz : IsZip h' z TI TO .none := kk _ _ (up _ _ hz)
  rw [if_pos (by rfl)]
  refine wpAny_bind (wpAny_rule (wpAny_bind (wpAny_pyIter_zip kz (wpAny_pure ⟨plainId_quiet dz_plain_loop _, ?_⟩))))
  obtain ⟨a, b, hTO⟩ := hTO
  have e1 := h1; have e2 := h2; have e3 := hl1; have e4 := hl2
  obtain ⟨o1, ho1, _⟩ := e1
  obtain ⟨o2, ho2, _⟩ := e2
  obtain ⟨o3, ho3, _⟩ := e3
  obtain ⟨o4, ho4, _⟩ := e4
  refine dz_loop (A := A.in1) (knd := knd) (ks := ks) (by simpa using hh) D (lt hz) (lt hTI) (lt hTO) (lt ho1) (lt ho2) (lt ho3) (lt ho4) hks hxy hkl hsz (xs.size - 0) 0 _ (by omega) (Nat.zero_le _) (.inl kz) (kk _ _ (up _ _ hTI)) ⟨a, b, kk _ _ (up _ _ hTO)⟩
    (h1.at fun o e => kk _ o (up _ o e)) (h2.at fun o e => kk _ o (up _ o e)) (hl1.at fun o e => kk _ o (up _ o e)) (hl2.at fun o e => kk _ o (up _ o e)) ⟨[], Nat.le_refl _, ?_, rfl⟩ fun h3 tk3 k3 hd3 => ?_
  · obtain ⟨o, es, ep, ho, rest⟩ := hnew
    exact ⟨o, es, ep, kk _ _ ho, rest⟩
  · exact ⟨rfl, h h3 tk3 (fun c o c1 c2 c3 c4 e => k3 c o (Ne.symm (lt e)) c1 c2 c3 c4 (kk _ _ (up _ _ e))) hd3⟩
end
end L2

set_option Elab.async false
set_option linter.all false
set_option maxRecDepth 100000
set_option maxHeartbeats 8000000
namespace L2
open PySem PySem.Spec PyProof.Rows
/-! ### a set of texts -/
def SetO (P : Program) (w : World) (p : Addr) (n : Nat) : HO := .ext fun h => ∃ S, h.SetOf (strKind P w) p S n
theorem SetOf.at_ {P : Program} {w : World} {h1 h2 : Heap} {p : Addr} {n : Nat} (x : ∃ S, h1.SetOf (strKind P w) p S n) (k : ∀ o, h1.get? p = some o → h2.get? p = some o) : ∃ S, h2.SetOf (strKind P w) p S n := by
  obtain ⟨S, o, es, ep, t, ho, r⟩ := x
  exact ⟨S, o, es, ep, t, k _ ho, r⟩
section
variable {X : Cx}
theorem call_set (hc : X.calm = true) : CallR X (.type "set") (fun xs H Q => ∃ (a : Addr) (ss : List Str), xs = [.ref a] ∧ SqL X.K H a (ss.map V.str) ∧ ss.length ≤ 1000 ∧ ∀ p, H p = none → Q (.ref p) (upd H p (SetO X.prog X.w p (metS ss).length))) := by
  intro pins s σ H xs us Q I r h
  obtain ⟨a, ss, rfl, ha, hn, q⟩ := h
  obtain ⟨u, rfl, ru⟩ := vals1 r
  cases ru
  obtain ⟨its, rv, pl, _⟩ := I.list ha
  have hl := rv.length
  rw [List.length_map] at hl
  refine set_made (I.ok.hd hc) pl.isList (by simpa using strsAre_of rv) (by rw [List.size_toArray]; unfold scanBound; omega) fun h' tk kk hS => ?_
  have he : ∃ o, h'.get? s.heap.objs.size = some o := by obtain ⟨o, _, _, _, e, _⟩ := hS; exact ⟨o, e⟩
  exact ⟨.ref s.heap.objs.size, _, I.laid (o := SetO X.prog X.w s.heap.objs.size (metS ss).length) kk (Nat.le_refl _) ⟨⟨_, hS⟩, he, fun h1 h2 x k => SetOf.at_ x k⟩, rfl, q _ (I.hok.fresh (Nat.le_refl _))⟩
theorem call_lenS : CallR X (.builtin "len") (fun xs H Q => ∃ p n, xs = [V.ref p] ∧ H p = some (SetO X.prog X.w p n) ∧ Q (.int (n : Nat)) H) := by
  intro pins s σ H xs us Q I r h
  obtain ⟨p, n, rfl, hp, q⟩ := h
  obtain ⟨u, rfl, ru⟩ := vals1 r
  cases ru
  obtain ⟨⟨S, o, es, ep, t, ho, hex, hd, _, _, hb, hf, hn⟩, _⟩ := I.hok p _ hp
  have hfit : (es.size : Int) < 2 ^ 63 := by
    unfold scanBound at hb
    omega
  refine call_len_set ho hex hd hf hfit ?_
  rw [hn]
  exact ⟨.int n, H, I.tok _, ⟨_, rfl⟩, q⟩

/-! ### dict(zip(a, b)) -/
def zipK (ks : List Str) (vs : List V) : List (Key × V) := (ks.map fun k => (Sum.inr k : Key)).zip vs
theorem kv_zip : ∀ {ks : List Key} {vs : List V} {us : List Value}, Vals vs us → KV (ks.zip vs) (ks.zip us)
  | [], _, _, _ => by simp; exact .nil
  | _ :: _, _, _, .nil => by simp; exact .nil
  | k :: ks, _, _, .cons r t => by
    rw [List.zip_cons_cons, List.zip_cons_cons]
    exact .cons ⟨rfl, r⟩ (kv_zip t)
def tDictZip (K : PySem.W.Frag) (ta : TA) : TE := fun σ H Q => ta σ H fun xs H1 => ∃ (l1 l2 : Addr) (ks : List Str) (vs : List V), xs = [.ref l1, .ref l2] ∧ SqL K H1 l1 (ks.map V.str) ∧ SqL K H1 l2 vs ∧ ks.length = vs.length ∧ ks.length ≤ 1000 ∧
  ∀ p, H1 p = none → Q (.ref p) (upd H1 p (.dK (mergeK [] (zipK ks vs))))
theorem pe_dictzip {a b : Expr} {ta : TA} {p pos p' pos' : Pos} (hc : X.calm = true) (hgd : Gl X "dict") (hmd : X.mg "dict" = none) (hgz : Gl X "zip") (hmz : X.mg "zip" = none) (ha : PA X [a, b] ta)
    (hs : starEach [a, b] X.env = (false, eval a X.env) :: starEach [b] X.env := by rfl) (hpl : (backTo pos' (starEach [b] X.env)).any (·.1) = false := by rfl)
    (hs2 : starEach [.Call (.Name "zip" p') [a, b] [] pos'] X.env = (false, eval (.Call (.Name "zip" p') [a, b] [] pos') X.env) :: starEach [] X.env := by rfl) :
    PE X (.Call (.Name "dict" p) [.Call (.Name "zip" p') [a, b] [] pos'] [] pos) (tDictZip X.K ta) := by
  intro pins s σ H Q I h
  refine wpAny_Call_Name_kw (ld_blt I hgd hmd (u := .type "dict") (by decide +kernel) ?_)
  refine PyProof.Rows.callWith_type1 ?_ hs2 rfl
  rw [hs2]
  show wpAny _ _ (spliced ((false, eval (.Call (.Name "zip" p') [a, b] [] pos') X.env) :: backTo pos [])) _ _ s
  refine Calls.spliced_cons ?_
  refine wpAny_Call_Name_kw (ld_blt I hgz hmz (u := .type "zip") (by decide +kernel) ?_)
  refine PyProof.Rows.callWith_type1 (thn (ha pos' s σ H _ I h) fun us s1 ⟨xs, H1, I1, r1, q1⟩ => ?_) hs hpl
  obtain ⟨l1, l2, ks, vs, rfl, h1, h2, hkv, hk, q⟩ := q1
  obtain ⟨u1, u2, rfl, e1, e2⟩ := r1.two
  cases e1
  cases e2
  obtain ⟨i1, v1, p1, z1⟩ := I1.list h1
  obtain ⟨i2, v2, p2, z2⟩ := I1.list h2
  have n1 := v1.length
  have n2 := v2.length
  rw [List.length_map] at n1
  have lt1 : l1 < s1.heap.objs.size := by obtain ⟨_, _, e, _⟩ := p1; exact Heap.lt_size e
  have lt2 : l2 < s1.heap.objs.size := by obtain ⟨_, _, e, _⟩ := p2; exact Heap.lt_size e
  refine call_zip_2 p1.isList p2.isList fun h' a1 a2 a3 a4 a5 a6 kk => ?_
  refine Calls.spliced_nil ?_
  have I2 : Inv X pins σ H1 { s1 with heap := h' } := I1.kept (t' := s1.toks) kk
  have hfr : H1 h'.objs.size = none := I2.hok.fresh (Nat.le_refl _)
  refine dict_zip (s := { s1 with heap := h' }) (knd := mixKind X.prog X.w) (ks := ks.map fun k => (Sum.inr k : Key)) (I1.ok.hd hc) (zipApart_new lt1 lt2) a1 a2 ⟨_, _, a3⟩ a4 a5 (p1.isList.at fun o e => kk _ o e) (p2.isList.at fun o e => kk _ o e) ?_ (by simp; omega) (by simp; omega) (by simp; omega) fun h3 tk k3 hd3 => ?_
  · intro i x hx
    have hx' : i1[i]? = some x := by simpa using hx
    have hi : i < ks.length := by rw [n1]; exact (List.getElem?_eq_some_iff.mp hx').1
    obtain ⟨u, hu, ru⟩ := v1.get (i := i) (x := V.str ks[i]) (by rw [List.getElem?_map, List.getElem?_eq_getElem hi]; rfl)
    rw [hx'] at hu
    cases hu
    obtain ⟨t, rfl⟩ := ru
    exact ⟨Sum.inr ks[i], by rw [List.getElem?_map, List.getElem?_eq_getElem hi]; rfl, mixKind_str _ _ _ _⟩
  · have he : ∃ o, h3.get? h'.objs.size = some o := by obtain ⟨o, _, _, e, _⟩ := hd3; exact ⟨o, e⟩
    have big : sysModules < h'.objs.size := I2.big
    have rel : KV (mergeK [] (zipK ks vs)) (merged [] ((ks.map fun k => (Sum.inr k : Key)).zip i2.toArray.toList)) := KV.merge (kv_zip (by simpa using v2)) .nil
    have hz : (mergeK [] (zipK ks vs)).length ≤ sizeLine := by
      have := length_mergeK (zipK ks vs) []
      have l : (zipK ks vs).length ≤ ks.length := by unfold zipK; rw [List.length_zip, List.length_map]; exact Nat.min_le_left _ _
      rw [List.length_nil] at this
      rw [sizeLine_eq]
      omega
    have kall : ∀ b o, s1.heap.get? b = some o → h3.get? b = some o := fun b o e => by
      have hlt := Heap.lt_size e
      exact k3 b o (Nat.ne_of_lt (Nat.lt_of_lt_of_le hlt (Nat.le_add_right _ _))) (Nat.ne_of_lt (Nat.lt_of_lt_of_le hlt (Nat.le_add_right _ _))) (Nat.ne_of_lt hlt) (Nat.ne_of_lt (Nat.lt_of_lt_of_le hlt (Nat.le_add_right _ _))) (kk b o e)
    have hsz : s1.heap.objs.size ≤ h'.objs.size := by rw [a6]; omega
    have I3 := I1.laid (a := h'.objs.size) (o := .dK (mergeK [] (zipK ks vs))) (h' := h3) (t' := tk) kall hsz (dk_new hz (beq_eq_false_iff_ne.mpr (Ne.symm (Nat.ne_of_lt big))) rel hd3)
    exact ⟨.ref h'.objs.size, _, I3, rfl, q _ hfr⟩
end
end L2

set_option Elab.async false
set_option linter.all false
set_option maxRecDepth 100000
set_option maxHeartbeats 8000000
namespace L2
open PySem PySem.Spec PyProof.Rows
/-! ### texts in order -/
def leS (a b : Str) : Prop := ltCps b.cps.toList a.cps.toList = false
theorem leS_iff {a b : Str} : leS a b ↔ ¬ b.cps.toList < a.cps.toList := by unfold leS; rw [ltCps_eq]; simp
theorem leS_anti {a b : Str} (h1 : leS a b) (h2 : leS b a) : a = b := by
  rw [leS_iff] at h1 h2
  have e : a.cps.toList = b.cps.toList := by
    have h1' : a.cps.toList ≤ b.cps.toList := h1
    have h2' : b.cps.toList ≤ a.cps.toList := h2
    exact List.le_antisymm h1' h2'
  have e2 : a.cps = b.cps := Array.toList_inj.mp e
  cases a
  cases b
  simp only at e2
  rw [e2]
theorem leS_trans {a b c : Str} (h1 : leS a b) (h2 : leS b c) : leS a c := by
  rw [leS_iff] at h1 h2 ⊢
  have h1' : a.cps.toList ≤ b.cps.toList := h1
  have h2' : b.cps.toList ≤ c.cps.toList := h2
  exact List.le_trans h1' h2'
theorem pw_of_rising : ∀ (p : Str) (l : List Str), risingS p l = true → (p :: l).Pairwise leS
  | p, [], _ => List.pairwise_singleton _ _
  | p, x :: r, h => by
    have h' : (!ltCps x.cps.toList p.cps.toList && risingS x r) = true := h
    rw [Bool.and_eq_true] at h'
    have ih := pw_of_rising x r h'.2
    have hpx : leS p x := by unfold leS; simpa using h'.1
    refine List.pairwise_cons.mpr ⟨fun y hy => ?_, ih⟩
    rcases List.mem_cons.mp hy with e | hy
    · subst e; exact hpx
    · exact leS_trans hpx ((List.pairwise_cons.mp ih).1 y hy)
theorem pw_of_sorted : ∀ (l : List Str), sortedS l = true → l.Pairwise leS
  | [], _ => List.Pairwise.nil
  | x :: r, h => pw_of_rising x r h
theorem sorted_uniq {a b : List Str} (ha : sortedS a = true) (hb : sortedS b = true) (h : a.Perm b) : a = b :=
  List.Perm.eq_of_pairwise (fun x y _ _ h1 h2 => leS_anti h1 h2) (pw_of_sorted a ha) (pw_of_sorted b hb) h
theorem strsAre_get : ∀ {l : List Value} {ks : List Str}, l.length = ks.length → (∀ (i : Nat) v, l[i]? = some v → ∃ x t, ks[i]? = some x ∧ v = .str x t) → StrsAre l ks
  | [], [], _, _ => .nil
  | [], _ :: _, h, _ => by simp at h
  | _ :: _, [], h, _ => by simp at h
  | v :: l, k :: ks, h, hv => by
    obtain ⟨x, t, hx, e⟩ := hv 0 v rfl
    simp at hx
    subst hx e
    exact .cons _ t (strsAre_get (by simpa using h) fun i u hu => by simpa using hv (i + 1) u (by simpa using hu))
theorem vals_get : ∀ {xs : List V} {us : List Value}, xs.length = us.length → (∀ (i : Nat) u, us[i]? = some u → ∃ x, xs[i]? = some x ∧ RelV x u) → Vals xs us
  | [], [], _, _ => .nil
  | [], _ :: _, h, _ => by simp at h
  | _ :: _, [], h, _ => by simp at h
  | x :: xs, u :: us, h, hv => by
    obtain ⟨y, hy, r⟩ := hv 0 u rfl
    simp at hy
    subst hy
    exact .cons r (vals_get (by simpa using h) fun i w hw => by simpa using hv (i + 1) w (by simpa using hw))
section
variable {X : Cx}
theorem call_sortedL : CallR X (.builtin "sorted") (fun xs H Q => ∃ (a : Addr) (ss : List Str), xs = [.ref a] ∧ SqL X.K H a (ss.map V.str) ∧ ss.length < 64 ∧ ∀ p ss', H p = none → ss'.Perm ss → sortedS ss' = true → Q (.ref p) (upd H p (.lst (ss'.map V.str)))) := by
  intro pins s σ H xs us Q I r h
  obtain ⟨a, ss, rfl, ha, hn, q⟩ := h
  obtain ⟨u, rfl, ru⟩ := vals1 r
  cases ru
  obtain ⟨its, rv, pl, _⟩ := I.list ha
  have hl := rv.length
  rw [List.length_map] at hl
  refine sorted_strs pl.isList (strsAre_of rv) (by omega) fun out ss' a1 a2 a3 => ?_
  obtain ⟨e, he⟩ := sortedAll_at s.heap its out
  have hp := a2.length_eq
  refine ⟨.ref (s.heap.objs.size + 1), _, I.laid (o := .lst (ss'.map V.str)) (t' := s.toks) (fun b o x => sortedAll_old x) (Nat.le_succ _) ⟨by rw [List.length_map, sizeLine_eq]; omega, out.toList, e, vals_strs a1, he⟩, rfl, q _ ss' (I.hok.fresh (Nat.le_succ _)) a2 a3⟩
theorem call_sortedD (hc : X.calm = true) : CallR X (.builtin "sorted") (fun xs H Q => ∃ (d : Addr) (ks : List Str) (kvs : List (Key × V)), xs = [.ref d] ∧ Rd H d (.dK kvs) ∧ kvs.map (·.1) = ks.map Sum.inr ∧ ks.length < 64 ∧ ∀ p ss', H p = none → ss'.Perm ks → sortedS ss' = true → Q (.ref p) (upd H p (.lst (ss'.map V.str)))) := by
  intro pins s σ H xs us Q I r h
  obtain ⟨d, ks, kvs, rfl, hd, hk, hn, q⟩ := h
  obtain ⟨u, rfl, ru⟩ := vals1 r
  cases ru
  obtain ⟨z, lo, vs, rel, dd⟩ := dk_rd I.hok hd
  obtain ⟨ep, hat⟩ := dd.dictAt
  have hlv : vs.length = ks.length := by
    have := congrArg List.length hk
    rw [List.length_map, List.length_map] at this
    rw [← rel.length]; exact this
  refine Calls.call_function_entry kind_sorted plain_sorted entry_sorted (args_sorted1 _) ?_
  unfold Builtin.«sorted»
  refine wpAny_bind (m := checkCount "sorted" 1 1 _) (wpAny_pure ?_)
  refine wpAny_bind (PySem.W.kdu_collect (A := X.A.in1) (PySem.W.kdl_dict (knd := mixKind X.prog X.w) (kvs := vs) (ep := ep) lo) (I.ok.hd hc) hat (by rw [hlv, sizeLine_eq]; omega) fun h' tk acc kk hacc => ?_)
  have hal : acc.toList.length = ks.length := by rw [Array.length_toList, hacc.1, hlv]
  have hst : StrsAre acc.toList ks := by
    refine strsAre_get hal fun i v hv => ?_
    obtain ⟨k, x, hx, his⟩ := hacc.2 i v (by rw [← Array.getElem?_toList]; exact hv)
    have e1 : (vs.map (·.1))[i]? = some k := by rw [List.getElem?_map, hx]; rfl
    rw [← rel.keys, hk, List.getElem?_map] at e1
    obtain ⟨y, hy, e2⟩ := Option.map_eq_some_iff.mp e1
    subst e2
    rcases keyIs_shape (show keyIs (Sum.inr y) v = true from his) with ⟨i', t, e, _⟩ | ⟨y', t, e, e'⟩
    · cases e
    · cases e; exact ⟨y, t, hy, e'⟩
  refine wpAny_bind (wpAny_newList ?_ (by rw [hal, sizeLine_eq]; omega))
  have hoL : (h'.push (seqObj "list" acc.toList.toArray 0)).get? h'.objs.size = some (seqObj "list" acc.toList.toArray 0) := Heap.get?_push_size _ rfl
  refine wpAny_bind (wpAny_holding (wpAny_call_entry slot_list_sort ⟨_, hoL, rfl⟩ entry_list_sort (list_sort_treeK strKind_oneLt hoL hst.keysOf (fun v1 v2 rest e => keyKind_strs (by rw [← e]; exact hst)) (by omega) fun st' a1 a2 => ⟨_, rfl, ?_⟩) (args_list_sort _)))
  obtain ⟨ss', b1, b2, b3⟩ := sorted_out_str hst a1 a2
  have hp := b2.length_eq
  have I1 : Inv X pins σ H { s with heap := h', toks := tk } := I.kept kk
  obtain ⟨e, he⟩ := sortedHeap_at (out := (arrOf st').map (·.2)) hoL
  refine wpAny_pure ⟨_, rfl, ?_⟩
  refine ⟨.ref h'.objs.size, _, I1.laid (o := .lst (ss'.map V.str)) (t' := tk) (fun b o x => ?_) (Nat.le_refl _) ⟨by rw [List.length_map, sizeLine_eq]; omega, _, e, vals_strs b1, he⟩, rfl, q _ ss' (I1.hok.fresh (Nat.le_refl _)) b2 b3⟩
  have hlt := Heap.lt_size x
  rw [sortedHeap_old (Nat.ne_of_lt hlt) (by rw [Heap.size_push]; exact Nat.lt_succ_of_lt hlt)]
  exact Heap.get?_push_of_some _ x

/-! ### for k in d: the dict is known while it is walked -/
def Itd (d : Addr) (o : Obj) (kvs : List (Key × V)) : It := ⟨fun i H => H d = some (.frz o (.dK kvs)) ∧ i < kvs.length, fun i H x H' => H' = H ∧ ∃ k v, kvs[i]? = some (k, v) ∧ x = kV k, fun i H => H d = some (.frz o (.dK kvs)) ∧ i = kvs.length⟩
theorem frz_dict {X : Cx} {pins : List (Addr × Obj)} {σ : St} {H : Hp} {s : Shared} {d : Addr} {o : Obj} {kvs : List (Key × V)} (I : Inv X pins σ H s) (h : H d = some (.frz o (.dK kvs))) :
    ∃ vs ep, (∃ es, o.data = .dict es ep) ∧ s.heap.DictAt (mixKind X.prog X.w) d vs ep ∧ KV kvs vs ∧ (d == sysModules) = false := by
  obtain ⟨e, z, lo, vs, rel, o', es, ep, ho, r1, r2, r3⟩ := (show ObjOk X.prog X.w H s.heap d (.frz o (.dK kvs)) from I.hok d _ h)
  rw [e] at ho
  cases ho
  exact ⟨vs, ep, ⟨es, r2⟩, ⟨o, es, e, r1, r2, r3⟩, rel, lo⟩
theorem kv_key {k : Key} {v : Value} (h : keyIs k v = true) : RelV (kV k) v := by
  rcases keyIs_shape h with ⟨i, t, rfl, rfl⟩ | ⟨x, t, rfl, rfl⟩
  · exact ⟨t, rfl⟩
  · exact ⟨t, rfl⟩
theorem turn_dict {P : Program} {w : World} {K : PySem.W.Frag} {tg : Expr} (d it : Addr) (o : Obj) (kvs : List (Key × V)) (ep : Nat) (hep : ∃ es, o.data = .dict es ep) (hne : d ≠ it) : Turn P w K tg (Itd d o kvs) [it] it (fun i h => h.IsKeyIter it d i kvs.length ep) where
  mem := by simp
  obj := fun i h st b hb => by
    have e : b = it := by simpa using hb
    subst e
    obtain ⟨o, e, c, dd⟩ := st
    exact ⟨o, e, fun v z => by rw [dd] at z; cases z⟩
  keep := fun i h h' st k => st.at fun o e => k it (by simp) o e
  item := by
    intro X hP hw hK hc i pins s σ H E I hf st hg
    subst hP hw hK
    obtain ⟨hd, hi⟩ := hg
    obtain ⟨f0, f1, f2, f3, f4, f5⟩ := hf it (by simp)
    obtain ⟨vs, ep', ⟨es', h1⟩, hat, rel, lo⟩ := frz_dict I hd
    obtain ⟨es, h2⟩ := hep
    rw [h1] at h2
    cases h2
    have hl := rel.length
    have st' : s.heap.IsKeyIter it d i vs.length ep := by rw [← hl]; exact st
    refine (Walks.dictKeys (knd := mixKind X.prog X.w) (I.ok.hd hc) it d hne vs ep).item i s _ _ (by omega) ⟨st', hat⟩ fun v h' tk hv st2 kk => ?_
    have I1 : Inv X pins σ H { s with heap := h', toks := tk } := I.turned (fun b o hb e => kk b o (by simpa using hb) e) f0 f1 f3 f4 f5
    obtain ⟨k, x, hx, his⟩ := hv
    obtain ⟨oi, ei, ci, di⟩ := id st2.1
    have ek : ∃ v0, kvs[i]? = some (k, v0) := by
      have e1 : (vs.map (·.1))[i]? = some k := by rw [List.getElem?_map, hx]; rfl
      rw [← rel.keys, List.getElem?_map] at e1
      obtain ⟨p, hp, e2⟩ := Option.map_eq_some_iff.mp e1
      exact ⟨p.2, by rw [hp, ← e2]⟩
    obtain ⟨v0, hv0⟩ := ek
    refine ⟨_, rfl, go_of (s := { s with heap := h', toks := tk }) ei ci di (by decide) ⟨kV k, H, I1, kv_key his, ⟨rfl, k, v0, hv0, rfl⟩, ?_, fun b hb => (hf b hb).1⟩⟩
    rw [hl]; exact st2.1
  done := by
    intro X hP hw hK hc i pins s σ H E I hf st hg
    subst hP hw hK
    obtain ⟨hd, rfl⟩ := hg
    obtain ⟨f0, f1, f2, f3, f4, f5⟩ := hf it (by simp)
    obtain ⟨vs, ep', ⟨es', h1⟩, hat, rel, lo⟩ := frz_dict I hd
    obtain ⟨es, h2⟩ := hep
    rw [h1] at h2
    cases h2
    have hl := rel.length
    have st' : s.heap.IsKeyIter it d vs.length vs.length ep := by rw [← hl]; exact st
    exact (Walks.dictKeys (knd := mixKind X.prog X.w) (I.ok.hd hc) it d hne vs ep).done s _ _ ⟨st', hat⟩ fun h' tk kk => ⟨rfl, I.turned (fun b o hb e => kk b o (by simpa using hb) e) f0 f1 f3 f4 f5⟩
  self := fun _ _ _ _ _ st h => wpAny_pyIter_keyiter st h
theorem Inv.freeze {pins : List (Addr × Obj)} {σ : St} {H : Hp} {s : Shared} {d : Addr} {kvs : List (Key × V)} (I : Inv X pins σ H s) (h : H d = some (.dK kvs)) : ∃ o, s.heap.get? d = some o ∧ Inv X pins σ (upd H d (.frz o (.dK kvs))) s := by
  obtain ⟨z, lo, vs, rel, o, es, ep, ho, r⟩ := (show ObjOk X.prog X.w H s.heap d (.dK kvs) from I.hok d _ h)
  refine ⟨o, ho, ?_⟩
  have := I.write (x := d) (e := d) (o := .frz o (.dK kvs)) (h' := s.heap) (t' := s.toks) (by rw [h]; exact True.intro) (.inl rfl) (fun b u _ e => e) ⟨o, ho⟩ ⟨ho, z, lo, vs, rel, o, es, ep, ho, r⟩
  exact this
def iDict (td : TE) : TI := fun σ H R => td σ H fun x H1 => ∃ d kvs, x = .ref d ∧ ((H1 d = some (.dK kvs) ∧ ∀ o, R (Itd d o kvs) (upd H1 d (.frz o (.dK kvs)))) ∨ ∃ o, H1 d = some (.frz o (.dK kvs)) ∧ R (Itd d o kvs) H1)
theorem pi_dict {tg l : Expr} {tl : TE} (hl : PE X l tl) : PI X tg l (iDict tl) := by
  intro pins s σ H R I h
  refine thn (hl s σ H _ I h) fun v s1 ⟨x, H1, I1, r1, d, kvs, e, q1⟩ => ?_
  subst e
  cases r1
  have main : ∀ (H2 : Hp) (o : Obj), Inv X pins σ H2 s1 → H2 d = some (.frz o (.dK kvs)) → R (Itd d o kvs) H2 → wpAny (model X.prog X.w) X.A (pyIter (.ref d)) (PIE X pins σ tg R) X.xe s1 := fun H2 o I2 hd q => by
    obtain ⟨vs, ep, hep, hat, rel, lo⟩ := frz_dict I2 hd
    refine wpAny_pyIter_dict lo hat ?_
    have hlt : d < s1.heap.objs.size := I2.hok.lt hd
    have hl := rel.length
    refine ⟨s1.heap.objs.size, [s1.heap.objs.size], _, _, H2, rfl, I2.kept (t' := s1.toks) fun b o e => Heap.get?_push_of_some _ e, turn_dict d _ o kvs ep hep (Nat.ne_of_lt hlt), ⟨_, Heap.get?_push_size _ rfl, rfl, by rw [← hl]; rfl⟩, fun b hb => ?_, q⟩
    have e : b = s1.heap.objs.size := by simpa using hb
    subst e
    exact I2.fpOk (Nat.le_refl _) (I2.hok.fresh (Nat.le_refl _))
  rcases q1 with ⟨hd, q⟩ | ⟨o, hd, q⟩
  · obtain ⟨o, ho, I2⟩ := I1.freeze hd
    exact main _ o I2 upd_same (q o)
  · exact main _ o I1 hd q
theorem steady_dict {H1 : Hp} {d : Addr} {o : Obj} {kvs : List (Key × V)} (h : H1 d = some (.frz o (.dK kvs))) : Steady (Itd d o kvs) H1 kvs.length (fun i x => ∃ k v, kvs[i]? = some (k, v) ∧ x = kV k) :=
  ⟨fun i H' hi s => ⟨s _ _ h, hi⟩, fun i H' x H2 hi s y => y, fun H' s => ⟨s _ _ h, rfl⟩⟩
/-! ### range objects, list(range(n)) -/
theorem call_rangeO : CallR X (.type "range") (fun xs H Q => ∃ j : Int, xs = [.int j] ∧ ∀ p, H p = none → Q (.ref p) (upd H p (.rng 0 j))) := by
  intro pins s σ H xs us Q I r h
  obtain ⟨j, rfl, q⟩ := h
  obtain ⟨u, rfl, t, rfl⟩ := vals1 r
  refine call_range_1 ?_
  refine ⟨.ref s.heap.objs.size, _, I.laid (o := .rng 0 j) (fun b u e => Heap.get?_push_of_some _ e) (Nat.le_refl _) ⟨_, _, _, Heap.get?_push_size _ rfl⟩, rfl, q _ (I.hok.fresh (Nat.le_refl _))⟩
theorem call_listR (hc : X.calm = true) : CallR X (.type "list") (fun xs H Q => ∃ (p : Addr) (n : Nat), xs = [.ref p] ∧ H p = some (.rng 0 n) ∧ n ≤ 1000 ∧ ∀ l, H l = none → Q (.ref l) (upd H l (.lst ((List.range n).map fun i : Nat => V.int i)))) := by
  intro pins s σ H xs us Q I r h
  obtain ⟨p, n, rfl, hp, hn, q⟩ := h
  obtain ⟨u, rfl, ru⟩ := vals1 r
  cases ru
  obtain ⟨t, u, v, e⟩ := (show ObjOk X.prog X.w H s.heap p (.rng 0 n) from I.hok p _ hp)
  have hrs : Builtin.Range.rangeSize 0 (n : Int) 1 = n := by rw [rangeSize_one]; split <;> omega
  refine call_list_range (n := n) (I.ok.hd hc) e (small_one (by omega) (by omega) (by omega) (by omega)) hrs (by omega) fun h' tk acc c' kk hS hI => ?_
  have hal : acc.toList.length = n := by rw [Array.length_toList]; exact hI.1
  have hv : Vals ((List.range n).map fun i : Nat => V.int i) acc.toList := by
    refine vals_get (by rw [List.length_map, List.length_range, hal]) fun i u hu => ?_
    obtain ⟨t, e⟩ := hI.2 i u (by rw [← Array.getElem?_toList]; exact hu)
    have hi : i < n := by rw [← hal]; exact (List.getElem?_eq_some_iff.mp hu).1
    refine ⟨V.int i, by rw [List.getElem?_map, List.getElem?_range hi]; rfl, t, ?_⟩
    rw [e]; congr 1; omega
  exact ⟨.ref s.heap.objs.size, _, I.laid (o := .lst _) kk (Nat.le_refl _) ⟨by rw [List.length_map, List.length_range, sizeLine_eq]; omega, acc.toList, c', hv, by simpa using hS⟩, rfl, q _ (I.hok.fresh (Nat.le_refl _))⟩
end
end L2

set_option Elab.async false
set_option linter.all false
set_option maxRecDepth 100000
set_option maxHeartbeats 8000000
namespace L2
open PySem PySem.Spec PyProof.Rows
/-! ### slices of texts -/
section
variable {X : Cx}
def rSlS : V → Option Int → Option Int → Hp → VK → Prop := fun x lo hi H Q => ∃ z, x = .str z ∧ z.length ≤ sizeLine ∧ Q (.str (Txt.slice z lo hi)) H
theorem sl_str : SlR X rSlS := by
  intro pins s σ H x v vl vu lo hi sl Q I rx hs pl pu h
  obtain ⟨z, rfl, hz, q⟩ := h
  obtain ⟨t, rfl⟩ := rx
  refine ⟨"str", _, slot_str_getitem.lookup, typeIs_str s z t, ?_⟩
  obtain ⟨l, hl1, hl2⟩ : ∃ l : Option (Int × Tok), vl = partValue l ∧ l.map (·.1) = lo := by
    cases pl with
    | none => exact ⟨none, rfl, rfl⟩
    | int i t => exact ⟨some (i, t), rfl, rfl⟩
  obtain ⟨u, hu1, hu2⟩ : ∃ u : Option (Int × Tok), vu = partValue u ∧ u.map (·.1) = hi := by
    cases pu with
    | none => exact ⟨none, rfl, rfl⟩
    | int i t => exact ⟨some (i, t), rfl, rfl⟩
  subst hl1 hu1 hl2 hu2
  refine wpAny_getItem_str_slice (l := l) (u := u) (st := none) hs rfl ?_
  have key : ∀ P : Prop, True := fun _ => trivial
  unfold sliceMade
  have e : Txt.slice z (l.map (·.1)) (u.map (·.1)) = if (((none : Option (Int × Tok)).map (·.1)).getD 1 == 1 && (slicePicked z l u none).length == z.length) = true then z else ⟨((slicePicked z l u none).filterMap (z.cps[·]?)).toArray⟩ := rfl
  by_cases hc : (((none : Option (Int × Tok)).map (·.1)).getD 1 == 1 && (slicePicked z l u none).length == z.length) = true
  · rw [if_pos hc] at e ⊢
    rw [e] at q
    exact ⟨.str z, H, I, ⟨t, rfl⟩, q⟩
  · rw [if_neg hc] at e ⊢
    have hle := Txt.slice_le z (l.map (·.1)) (u.map (·.1))
    rw [e] at q hle
    exact ⟨Nat.le_trans hle hz, ⟨.str _, H, I.tok _, ⟨_, rfl⟩, q⟩⟩
theorem mt_index (hc : X.calm = true) : MtR X "str.index" (fun x vs H Q => ∃ z y, x = .str z ∧ vs = [.str y] ∧ 0 ≤ Txt.find z y ∧ Q (.int (Txt.find z y)) H) := by
  intro pins s σ H x xs v us Q I rx rs h
  obtain ⟨z, y, rfl, rfl, h0, q⟩ := h
  obtain ⟨t, rfl⟩ := rx
  obtain ⟨u, rfl, ru⟩ := rs.one
  obtain ⟨t', rfl⟩ := ru
  refine index_or (I.ok.hd hc) (fun e _ => by omega) fun _ _ => ⟨.int _, H, I.tok _, ⟨_, rfl⟩, q⟩
end
end L2

set_option Elab.async false
set_option linter.all false
set_option maxRecDepth 100000
set_option maxHeartbeats 8000000
namespace L2
open PySem PySem.Spec PyProof.Rows
theorem pa_i8 {X : Cx} {c0 c1 c2 c3 c4 c5 c6 c7 : Int} {j0 j1 j2 j3 j4 j5 j6 j7} {p0 p1 p2 p3 p4 p5 p6 p7 : Pos} : PA X [.Constant (.int c0) j0 p0, .Constant (.int c1) j1 p1, .Constant (.int c2) j2 p2, .Constant (.int c3) j3 p3, .Constant (.int c4) j4 p4, .Constant (.int c5) j5 p5, .Constant (.int c6) j6 p6, .Constant (.int c7) j7 p7] (tCons (tC (.int c0)) (tCons (tC (.int c1)) (tCons (tC (.int c2)) (tCons (tC (.int c3)) (tCons (tC (.int c4)) (tCons (tC (.int c5)) (tCons (tC (.int c6)) (tCons (tC (.int c7)) tNil)))))))) := (pa_cons pe_int (pa_cons pe_int (pa_cons pe_int (pa_cons pe_int (pa_cons pe_int (pa_cons pe_int (pa_cons pe_int (pa_cons pe_int pa_nil))))))))
theorem pa_s8 {X : Cx} {c0 c1 c2 c3 c4 c5 c6 c7 : Str} {j0 j1 j2 j3 j4 j5 j6 j7} {p0 p1 p2 p3 p4 p5 p6 p7 : Pos} : PA X [.Constant (.str c0) j0 p0, .Constant (.str c1) j1 p1, .Constant (.str c2) j2 p2, .Constant (.str c3) j3 p3, .Constant (.str c4) j4 p4, .Constant (.str c5) j5 p5, .Constant (.str c6) j6 p6, .Constant (.str c7) j7 p7] (tCons (tC (.str c0)) (tCons (tC (.str c1)) (tCons (tC (.str c2)) (tCons (tC (.str c3)) (tCons (tC (.str c4)) (tCons (tC (.str c5)) (tCons (tC (.str c6)) (tCons (tC (.str c7)) tNil)))))))) := (pa_cons pe_str (pa_cons pe_str (pa_cons pe_str (pa_cons pe_str (pa_cons pe_str (pa_cons pe_str (pa_cons pe_str (pa_cons pe_str pa_nil))))))))
end L2

set_option Elab.async false
set_option linter.all false
set_option maxRecDepth 100000
set_option maxHeartbeats 4000000
namespace L2
open PySem PySem.Spec PyProof.Rows
end L2

set_option Elab.async false
set_option linter.all false
set_option maxRecDepth 100000
set_option maxHeartbeats 4000000
namespace L2
open PySem PySem.Spec PyProof.Rows

def CX1 (P : Program) (w : World) : CXT := fun outer H s E ev s' => ∃ (e : Addr) (cls a0 : Value) (H' : Hp) (B : Heap), ev = .ref e ∧ s'.os = s.os ∧ AllBare s'.gens ∧ Un (frs outer) [] H H' s.heap s'.heap ∧ HOk P w H' s'.heap ∧ Heap.FlyingW B outer e cls a0 s'.heap ∧
  (∀ b o, s.heap.get? b = some o → b ∉ frs outer → ∃ o', B.get? b = some o' ∧ (H b = none → o' = o)) ∧ (∀ b u, H' b = some u → ∀ o, s'.heap.get? b = some o → B.get? b = some o) ∧ E cls none H'
theorem HOk.by {P : Program} {w : World} {H : Hp} {h h' : Heap} (x : HOk P w H h) (k : ∀ b u, H b = some u → ∀ o, h.get? b = some o → h'.get? b = some o) : HOk P w H h' := fun a o e =>
  (x a o e).stay (fun b u hb q => by
    rcases hb with rfl | hb
    · exact k b o e u q
    · exact k b _ hb u q) (fun _ q => q) fun _ _ q => q
theorem HOk.has {P : Program} {w : World} {H : Hp} {h : Heap} (x : HOk P w H h) {a : Addr} {o : HO} (e : H a = some o) : ∃ ob, h.get? a = some ob := by
  have y := x a o e
  clear e
  induction o with
  | lst xs => obtain ⟨_, _, _, _, e⟩ := y; exact ⟨_, e⟩
  | tup xs => obtain ⟨_, _, _, o, e, _⟩ := y; exact ⟨_, e⟩
  | dK kvs => obtain ⟨_, _, _, _, o, _, _, e, _⟩ := y; exact ⟨_, e⟩
  | dT kvs => obtain ⟨_, _, _, _, o, _, _, e, _⟩ := y; exact ⟨_, e⟩
  | set S n => obtain ⟨o, _, _, _, e, _⟩ := y; exact ⟨_, e⟩
  | ins C dx fs => obtain ⟨_, _, _, e, _⟩ := y; exact ⟨_, e⟩
  | own z => obtain ⟨_, e⟩ := y; exact ⟨_, e⟩
  | xd fs => obtain ⟨_, ⟨_, _, _, e, _⟩, _⟩ := y; exact ⟨_, e⟩
  | rng lo hi => obtain ⟨_, _, _, e⟩ := y; exact ⟨_, e⟩
  | frz ob u ih => obtain ⟨e, _⟩ := y; exact ⟨_, e⟩
  | tbl ps => exact ⟨_, y⟩
  | met f z => exact ⟨_, y⟩
  | ext φ => obtain ⟨_, ⟨o, e⟩, _⟩ := y; exact ⟨o, e⟩

section
variable {X : Cx} {pins : List (Addr × Obj)} {σ : St} {H : Hp} {s : Shared} {h' B : Heap} {e : Addr} {cls a0 : Value} {E : XK}
theorem cx1_of (I : Inv X pins σ H s) (hex : X.ex = []) (fl : Heap.FlyingW B X.outer e cls a0 h') (up : s.heap.UpToSlots h')
    (k1 : ∀ b o, X.s₀.heap.get? b = some o → b ∉ X.fs → ∃ o', B.get? b = some o' ∧ (X.H₀ b = none → o' = o)) (k2 : ∀ b u, H b = some u → ∀ o, s.heap.get? b = some o → B.get? b = some o) (q : E cls none H) :
    CX1 X.prog X.w X.outer X.H₀ X.s₀ E (.ref e) { s with heap := h' } := by
  have nox : ∀ b : Addr, b ∉ X.ex := fun b => by rw [hex]; simp
  have k2' : ∀ b u, H b = some u → ∀ o, s.heap.get? b = some o → h'.get? b = some o := fun b u hb o ho => fl.1 b o (k2 b u hb o ho)
  refine ⟨e, cls, a0, H, B, rfl, I.os, I.bare, ⟨fun b o ho hn hf _ => ?_, fun b o ho hn hf _ => ?_, fun b o ho hn _ => I.base.free b o ho hn (nox b), fun b o ho _ => ?_, I.base.tups, I.base.frzs, I.base.tbls⟩, I.hok.by k2', fl, k1, fun b u hb o ho => ?_, q⟩
  · obtain ⟨o', e1, e2⟩ := k1 b o ho hf
    rw [e2 hn] at e1
    exact fl.1 b o e1
  · obtain ⟨sl, e1⟩ := I.base.slot b o ho hn hf (nox b)
    obtain ⟨_, oo, e2, e3⟩ := I.ok.funs.mem hf
    rw [ho] at e2
    cases e2
    obtain ⟨sl2, e4⟩ := up b _ e1 e3
    exact ⟨sl2, e4⟩
  · by_cases hf : b ∈ X.fs
    · obtain ⟨_, oo, e2, e3⟩ := I.ok.funs.mem hf
      rw [ho] at e2
      cases e2
      have hn := I.ok.frf b hf
      obtain ⟨sl, e1⟩ := I.base.slot b o ho hn hf (nox b)
      obtain ⟨sl2, e4⟩ := up b _ e1 e3
      exact ⟨_, e4⟩
    · obtain ⟨o', e1, _⟩ := k1 b o ho hf
      exact ⟨o', fl.1 b o' e1⟩
  · obtain ⟨ob, hob⟩ := I.hok.has hb
    have e1 := k2 b u hb ob hob
    have e2 := fl.1 b ob e1
    have ho' : h'.get? b = some o := ho
    rw [e2] at ho'
    cases ho'
    exact e1
end
theorem pass1 {P : Program} {w : World} {K : PySem.W.Frag} {mg : Str → Option Value} {base : Heap} {N : List Str} {qual : Str} {scope : Scope} {f : Addr} {cd : Value} {A : Around} {outer : List Env} {s0 : Shared} {H0 : Hp} {E : XK} :
    Passes (CX1 P w) (cxOf (CX1 P w) P w K mg base N qual scope f cd A outer s0 H0 E) E := by
  rintro pins σ H s ev s' I ⟨e, cls, a0, H', B, rfl, hos, hba, hun, hok, hfl, k1, k2, q⟩
  have I' := I.call' (s' := s') (ch := []) hos hun hok hba (fun b z => absurd z (by simp))
  show wpAny (model P w) (A.deeper (envOfC qual scope s0.heap.objs.size f cd)) (leaving (envOfC qual scope s0.heap.objs.size f cd) (.ref e)) _ _ s'
  refine wpAny_leaves_onW (L := s0.heap.objs.size) I.ok.frames rfl hfl fun h' fl up => ?_
  refine cx1_of I' rfl fl up (fun b o ho hf => ?_) k2 q
  have hbl : b < s0.heap.objs.size := Heap.lt_size ho
  obtain ⟨o1, ho1⟩ := I.base.there b o ho (by simp [cxOf])
  have hns : b ∉ frs (envOfC qual scope s0.heap.objs.size f cd :: outer) := fun z => by
    rcases List.mem_cons.mp (I.stkSub b z) with e1 | e1
    · have e2 : b = s0.heap.objs.size := e1
      rw [e2] at hbl
      exact absurd hbl (Nat.lt_irrefl _)
    · exact hf e1
  obtain ⟨o', e1, e2⟩ := k1 b o1 ho1 hns
  refine ⟨o', e1, fun hn => ?_⟩
  have hn' : H b = none := I.base.free b o ho hn (by simp [cxOf])
  have := I.base.keep b o ho hn hf (by simp [cxOf])
  rw [ho1] at this
  cases this
  exact e2 hn'
theorem raise1 {P : Program} {w : World} {K : PySem.W.Frag} {mg : Str → Option Value} {base : Heap} {N : List Str} {qual : Str} {scope : Scope} {f : Addr} {cd : Value} {A : Around} {outer : List Env} {s0 : Shared} {H0 : Hp} {E : XK}
    {pins : List (Addr × Obj)} {σ : St} {H : Hp} {s : Shared} {h1 : Heap} {e : Addr} {cls : Value} {args : List Value} (I : Inv (cxOf (CX1 P w) P w K mg base N qual scope f cd A outer s0 H0 E) pins σ H s) (hx : Heap.MadeExcOf s.heap h1 e cls args) (q : E cls none H) :
    (cxOf (CX1 P w) P w K mg base N qual scope f cd A outer s0 H0 E).xe (.ref e) { s with heap := h1 } := by
  have I' := I.kept (t' := s.toks) hx.keeps
  have hfrs := I.stack
  show wpAny (model P w) (A.deeper (envOfC qual scope s0.heap.objs.size f cd)) (leaving (envOfC qual scope s0.heap.objs.size f cd) (.ref e)) _ _ { s with heap := h1 }
  have hin : ∀ env ∈ (envOfC qual scope s0.heap.objs.size f cd :: outer), ∀ b, env.frame = some b → b ∈ frs (envOfC qual scope s0.heap.objs.size f cd :: outer) := fun env he b hb => List.mem_filterMap.mpr ⟨env, he, hb⟩
  refine wpAny_leaves_madeW (base := PySem.W.hideAll s.heap (frs (envOfC qual scope s0.heap.objs.size f cd :: outer))) (h := s.heap) (L := s0.heap.objs.size) I.ok.frames rfl (fun b o q => PySem.W.of_hideAll _ q) (PySem.W.funFrames_hide hfrs hin) hx fun h' t fl _ _ up => ?_
  refine cx1_of I' rfl fl up (fun b o ho hf => ?_) (fun b u hb o ho => ?_) q
  · have hbl : b < s0.heap.objs.size := Heap.lt_size ho
    obtain ⟨o1, ho1⟩ := I.base.there b o ho (by simp [cxOf])
    have hns : b ∉ frs (envOfC qual scope s0.heap.objs.size f cd :: outer) := fun z => by
      rcases List.mem_cons.mp (I.stkSub b z) with e1 | e1
      · have e2 : b = s0.heap.objs.size := e1
        rw [e2] at hbl
        exact absurd hbl (Nat.lt_irrefl _)
      · exact hf e1
    refine ⟨o1, PySem.W.hideAll_get _ ho1 hns, fun hn => ?_⟩
    have := I.base.keep b o ho hn hf (by simp [cxOf])
    rw [ho1] at this
    exact Option.some.inj this
  · obtain ⟨ob, hob⟩ := I.hok.has hb
    have e1 : h1.get? b = some ob := hx.keeps b ob hob
    have e2 : h1.get? b = some o := ho
    rw [e1] at e2
    cases e2
    refine PySem.W.hideAll_get _ hob fun z => ?_
    have := I.stkFree b z
    rw [hb] at this
    cases this
section
variable {P : Program} {w : World} {K : PySem.W.Frag} {mg : Str → Option Value} {base : Heap}
theorem Fun.okX {x qual : Str} {st : Stmt} {f : Addr} {fd : FuncData} {N ps : List Str} {k : Nat} {sp : Sp} (F : Fun K x qual st f fd) (S : FnScope N ps (defScope st)) (len : ∀ vs H Q E, sp vs H Q E → vs.length = ps.length)
    (hbody : ∀ (cdv : Value) (A : Around) (outer : List Env) (s : Shared) (H : Hp) (vs : List V) (Q : VK) (E : XK), Room k (A.deeper (envOfC qual (defScope st) s.heap.objs.size f cdv)) → sp vs H Q E →
      ∃ t, PSs (cxOf (CX1 P w) P w K mg base N qual (defScope st) f cdv A outer s H E) (defBody st) t ∧ t { nx := fun _ H' => Q .non H', rt := Q } (start N vs) H) : FnOk P w K mg base (CX1 P w) (k + 1) f fd ps sp := by
  obtain ⟨oc, od, kV, doc, pm, an, cdv, ct, osl, rfl, lk, hcd⟩ := F.ex
  exact fn_of lk hcd S len fun A outer s H vs Q E hr hsp => hbody cdv A outer s H vs Q E hr hsp
end
end L2

set_option Elab.async false
set_option linter.all false
set_option maxRecDepth 100000
set_option maxHeartbeats 4000000
namespace L2
open PySem PySem.Spec PyProof.Rows

theorem exc_obj {K : PySem.W.Frag} {h : Heap} {C : Addr} {bmB : List Value} {newId : String} (X : K.In h) (q : PySem.W.excIn K C bmB newId = true) :
    ∃ bm N nm qn bs hdct sn sub ab col dd k0 k1 k2 k3 k5 mN, h.get? C = some (excClassObj nm qn C N bs bm hdct sn sub ab col dd k0 k1 k2 k3 k5 newId) ∧ h.Ns N mN ∧ mN "__init__" = none ∧ OwnTail h bmB bm := by
  simp only [PySem.W.excIn] at q
  split at q
  case h_2 => cases q
  case h_1 c0 sl0 lk0 =>
    split at q
    case h_2 => cases q
    case h_1 Cc tl z0 z1 z2 z3 nn z5 hmro hslo =>
      rename_i dd0
      rw [Bool.and_eq_true, Bool.and_eq_true, Bool.and_eq_true, Bool.and_eq_true, Bool.and_eq_true] at q
      obtain ⟨⟨⟨⟨⟨q1, q2⟩, q3⟩, q4⟩, q5⟩, q6⟩ := q
      obtain rfl := beq_iff_eq.mp q1
      obtain rfl := beq_iff_eq.mp q2
      have q3' : c0.hasDel = false := by simpa using q3
      have q6' := beq_iff_eq.mp q6
      obtain ⟨c1, c2, c3, c4, c5, c6, c7, c8, c9, c10, c11⟩ := c0
      dsimp only at hmro q3' q5 q6'
      subst hmro
      subst q3'
      have hsl : sl0 = #[z0, z1, z2, z3, some (.builtin nn), z5] := by
        cases sl0
        simp only at hslo
        rw [hslo]
      subst hsl
      exact ⟨tl, _, _, _, _, _, _, _, _, _, _, _, _, _, _, _, _, X _ _ lk0, .of_isNs (PySem.W.isNs_of_in X q5), PySem.W.nsMap_none_of_in X q5 q6', PySem.W.tail_of_in X q4⟩

def tRaise (C : Addr) (E : XK) (ta : TA) : TS := fun D σ H => ta σ H fun vs H1 => vs.length ≤ 1000 ∧ E (.ref C) none H1
def Goes (X : Cx) (E : XK) : Prop := ∀ (pins : List (Addr × Obj)) (σ : St) (H : Hp) (s : Shared) (h1 : Heap) (e : Addr) (cls : Value) (args : List Value), Inv X pins σ H s → Heap.MadeExcOf s.heap h1 e cls args → E cls none H → X.xe (.ref e) { s with heap := h1 }
theorem goes1 {P : Program} {w : World} {K : PySem.W.Frag} {mg : Str → Option Value} {base : Heap} {N : List Str} {qual : Str} {scope : Scope} {f : Addr} {cd : Value} {A : Around} {outer : List Env} {s0 : Shared} {H0 : Hp} {E : XK} :
    Goes (cxOf (CX1 P w) P w K mg base N qual scope f cd A outer s0 H0 E) E := fun pins σ H s h1 e cls args I hx q => raise1 I hx q
theorem ps_raise {X : Cx} {x : Str} {C : Addr} {a1 : Expr} {ta : TA} {E : XK} {bmB : List Value} {B newId initId : String} {np cpos pos : Pos} (hc : X.calm = true) (hg : Gl X x) (hm : X.mg x = some (.ref C)) (he : PySem.W.excIn X.K C bmB newId = true) (FB : ExcBaseFacts B newId initId bmB)
    (ha : PA X [a1] ta) (hR : Goes X E) (hs : starEach [a1] X.env = [(false, eval a1 X.env)] := by rfl) (hd : (x == ("__debug__" : Str)) = false := by decide) :
    PS X (.Raise (some (.Call (.Name x np) [a1] [] cpos)) none pos) (tRaise C E ta) := by
  intro pins s σ H D I h
  obtain ⟨tl, N, nm, q, bs, hdct, sn, sub, ab, col, dd, k0, k1, k2, k3, k5, mN, hC, hN, hni, T⟩ := exc_obj I.mod.kin he
  refine wpAny_Raise_call_subT (C := C) (nm := nm) (q := q) (N := N) (bs := bs) (bm := tl) (hdct := hdct) (sn := sn) (sub := sub) (ab := ab) (col := col) (dd := dd) (k0 := k0) (k1 := k1) (k2 := k2) (k3 := k3) (k5 := k5) FB (mN := mN) (T.hasType FB.hasBase) (I.ok.hd hc) (by rw [hs]; rfl) hni (ld_glob I hg hm ⟨rfl, ?_⟩ hd)
  have h2 := ha cpos s σ H _ I h
  rw [hs] at h2 ⊢
  refine Calls.evalArgs_plain (wpAny_mono h2 (fun us s2 h3 => ?_) fun _ _ y => y)
  obtain ⟨vs, H1, I1, rv, hl, q1⟩ := h3
  refine ⟨rfl, ?_, I1.bk _ _ hC, hN.keeps I1.bk, T.keeps I1.bk, fun h' e hx => hR pins σ H1 s2 h' e _ _ I1 hx q1⟩
  show us.length ≤ sizeLine
  rw [← rv.length, sizeLine_eq]
  omega
theorem pe_fstr {X : Cx} {x : Str} {j : Nat} {value : Expr} {tv : TE} {p1 p2 pos : Pos} (hv : PE X value tv) (hx : x.length ≤ 1000 := by decide) (hev : evalEach [.Constant (.str x) j p1, .FormattedValue value 114 none p2] X.env = [eval (.Constant (.str x) j p1) X.env, eval (.FormattedValue value 114 none p2) X.env] := by rfl) :
    PE X (.JoinedStr [.Constant (.str x) j p1, .FormattedValue value 114 none p2] pos) (fun σ H Q => tv σ H fun v H1 => ∃ z : Str, v = .str z ∧ z.length ≤ 1000 ∧ (∀ c ∈ z.cps.toList, c < 1114112) ∧ ∀ y, Q (.str y) H1) := by
  intro pins s σ H Q I h
  refine wpAny_JoinedStr ?_
  rw [hev]
  have hS : (1000000 : Nat) ≤ sizeLine := by rw [sizeLine_eq]; decide
  refine Calls.Constant_str ⟨x, _, rfl, ?_, ?_⟩
  · have : (Str.empty ++ x).length = x.length := by rw [PySem.Str.length_append]; simp [Str.empty, PySem.Str.length]
    rw [this]; omega
  refine wpAny_FormattedValue_repr (thn (hv _ σ H _ (I.tok _) h) fun u s1 h1 => ?_)
  obtain ⟨v, H1, I1, rv, z, rfl, hz, hzc, q⟩ := h1
  obtain ⟨t, rfl⟩ := (show ∃ t, u = Value.str z t from rv)
  have hl : (reprText z).length ≤ 10 * z.length + 2 := StrLaws.reprText_len z (fun c hc => Nat.lt_of_lt_of_le (hzc c hc) (by decide))
  have e0 : (Str.empty ++ x).length = x.length := by rw [PySem.Str.length_append]; simp [Str.empty, PySem.Str.length]
  refine pyReprObj_str ?_ (by omega)
  have fin : ∀ s2 t2, Inv X pins σ H1 s2 → ∃ y t, (Value.str (reprText z) t2) = .str y t ∧ (Str.empty ++ x ++ y).length ≤ sizeLine ∧ Joins (model X.prog X.w) X.A X.xe [] (Str.empty ++ x ++ y) (fun out s₁ => out.length ≤ sizeLine ∧ EP X pins σ Q (.str out s₁.toks) { s₁ with toks := s₁.toks + 1 }) s2 := fun s2 t2 I2 => by
    have hlen : (Str.empty ++ x ++ reprText z).length ≤ sizeLine := by rw [PySem.Str.length_append, e0]; omega
    exact ⟨_, _, rfl, hlen, hlen, .str (Str.empty ++ x ++ reprText z), H1, I2.tok _, ⟨_, rfl⟩, q _⟩
  exact wpAny_formatField_str (fin _ _ (I1.tok _)) (fin _ _ ((I1.tok _).tok _)) (by omega)
end L2

set_option Elab.async false
set_option linter.all false
set_option maxRecDepth 100000
set_option maxHeartbeats 4000000
namespace L2
open PySem PySem.Spec PyProof.Rows PySem.W Builtin.Getset_descriptor
section
variable {pg : Program} {wd : World} {Ar : Around} {Er : Value → Shared → Prop} {sh : Shared} {KK : Frag} {e C : Addr}
end
structure ExcC (K : Frag) (C : Addr) : Prop where
  exc : excIn K C [.type "ValueError", .type "Exception", .type "BaseException", .type "object"] "ValueError.__new__" = true
  ga : findIn K (.ref C) "__getattribute__" = some (some (.builtin "BaseException.__getattribute__"))
  gt : findIn K (.ref C) "__getattr__" = some none
  cl : (clsIn K C).isSome = true
  ha : findIn K (.ref C) "__class__" = some (some (.builtin "object.__class__"))
  hn : specialIn K (.builtin "object.__class__") "__get__" = some (some (.builtin "getset_descriptor.__get__"))
  ht : takesIn K (.builtin "object.__class__") = some true
  hm : mroIn K C (.type "object") = some true
  hb : mroIn K C (.type "BaseException") = some true
end L2

set_option Elab.async false
set_option linter.all false
set_option maxRecDepth 100000
set_option maxHeartbeats 4000000
namespace L2
open PySem PySem.Spec PyProof.Rows PySem.W

abbrev Cx.bear (X : Cx) (pn : List (Addr × Obj)) (W : Value → Shared → Prop) : Cx := { X with pn := pn, xe := W }
section
variable {X : Cx} {pins pins' : List (Addr × Obj)} {σ : St} {H H' : Hp} {s s' : Shared} {W : Value → Shared → Prop}
theorem Inv.toBear (I : Inv X pins σ H s) (W : Value → Shared → Prop) : Inv (X.bear (X.pn ++ pins) W) [] σ H s :=
  ⟨⟨I.ok.mod, I.ok.kind, I.ok.glob, I.ok.blt, I.ok.above, I.ok.inj, I.ok.has, I.ok.cab, I.ok.hd, I.ok.frames, I.ok.stk, I.ok.exf, I.ok.bs, I.ok.bsz, I.ok.noex, I.ok.exfs, I.ok.funs, I.ok.frf⟩, I.os, I.bare, I.base, I.loc, I.cell, I.free, I.freeC, fun p hp => I.pin p (by rw [List.append_nil] at hp; exact hp), I.hok, I.len⟩
theorem Inv.ofBear (I : Inv (X.bear (X.pn ++ pins) W) pins' σ H s) : Inv X pins σ H s :=
  ⟨⟨I.ok.mod, I.ok.kind, I.ok.glob, I.ok.blt, I.ok.above, I.ok.inj, I.ok.has, I.ok.cab, I.ok.hd, I.ok.frames, I.ok.stk, I.ok.exf, I.ok.bs, I.ok.bsz, I.ok.noex, I.ok.exfs, I.ok.funs, I.ok.frf⟩, I.os, I.bare, I.base, I.loc, I.cell, I.free, I.freeC, fun p hp => I.pin p (List.mem_append_left _ hp), I.hok, I.len⟩
theorem SP.ofBear {D : Ends} {f : Flow} (h : SP (X.bear (X.pn ++ pins) W) pins' D f s') : SP X pins D f s' := by
  cases f with
  | next => obtain ⟨σ', H', I, q⟩ := h; exact ⟨σ', H', I.ofBear, q⟩
  | brk => obtain ⟨σ', H', I, q⟩ := h; exact ⟨σ', H', I.ofBear, q⟩
  | cont => obtain ⟨σ', H', I, q⟩ := h; exact ⟨σ', H', I.ofBear, q⟩
  | ret u => obtain ⟨v, σ', H', I, r, q⟩ := h; exact ⟨v, σ', H', I.ofBear, r, q⟩
end
end L2

set_option Elab.async false
set_option linter.all false
set_option maxRecDepth 100000
set_option maxHeartbeats 4000000
namespace L2
open PySem PySem.Spec PyProof.Rows PySem.W

end L2

set_option Elab.async false
set_option linter.all false
set_option maxRecDepth 100000
set_option maxHeartbeats 4000000
namespace L2
open PySem PySem.Spec PyProof.Rows

/-! ### [elt for tg in iter if cnd] -/
theorem compLoop_if {prog : Program} {w : World} {A : Around} {R : Result → Shared → Prop} {s : Shared} {elt target iter cnd : Expr} {scope : Scope} {pos : Pos} {it acc : Value} {env : Env} (I : Nat → Shared → Prop)
    (turn : ∀ n s, I n s → ∀ E : Value → Shared → Prop, wpAny (model prog w) A (pyNext it) (fun r s₁ => match r with
      | none => R (.ok .next) s₁
      | some v => wpAny (model prog w) A (letOwnedTupleGo target it v) (fun _ s₁' => wpAny (model prog w) A (assign target env v) (fun _ s₂ => wpAny (model prog w) A (isTrue cnd env (eval cnd env)) (fun ok s₂' =>
        if ok = true then wpAny (model prog w) A (eval elt env) (fun x s₃ => wpAny (model prog w) A (call (.builtin "list.append") [acc, x]) (fun _ s₄ => ∃ m, m < n ∧ I m s₄) E s₃) E s₂' else ∃ m, m < n ∧ I m s₂') E s₂) E s₁') E s₁) E s)
    (n : Nat) (h : I n s) :
    codeAny (model prog w) A (.compLoop (.ListComp elt [⟨target, iter, [cnd], 0⟩] scope pos) 0 it acc env) R s := by
  refine codeAny_loop rfl I (fun n s hI => ?_) n h
  show wpAny _ _ ((compTurn (.ListComp elt [⟨target, iter, [cnd], 0⟩] scope pos) 0 it acc env).onRaise _) _ _ s
  refine wpAny_noted ?_
  rw [compTurn_list]
  refine wpAny_bind (wpAny_standAt (wpAny_bind (wpAny_mono (turn n s hI _) (fun r s₁ h₁ => ?_) fun _ _ h' => h')))
  cases r with
  | none => exact wpAny_pure h₁
  | some v =>
    refine wpAny_bind (wpAny_mono h₁ (fun _ s₁' h₁ => ?_) fun _ _ h' => h')
    refine wpAny_bind (wpAny_mono h₁ (fun _ s₂ h₂ => ?_) fun _ _ h' => h')
    refine wpAny_bind (wpAny_tests_one (wpAny_mono h₂ (fun ok s₃ h₃ => ?_) fun _ _ h' => h'))
    cases ok with
    | false => exact wpAny_pure ⟨rfl, h₃⟩
    | true =>
      rw [if_pos rfl] at h₃ ⊢
      exact wpAny_bind (wpAny_bind (wpAny_mono h₃ (fun x s₄ h₄ => wpAny_bind (wpAny_mono h₄ (fun _ s₅ h₅ => wpAny_pure (wpAny_pure ⟨rfl, h₅⟩)) fun _ _ h' => h')) fun _ _ h' => h'))
def CompWI (J : It) (g : TG) (tc : TT) (te : TE) (D : Addr) (Q : Hp → Prop) (σ : St) (H : Hp) : Prop :=
  ∃ W : Nat → Nat → St → Hp → Prop, (∃ m, W 0 m σ H) ∧ ∀ i m σ' H', W i m σ' H' →
    (J.stop i H' ∧ Q H') ∨ (J.go i H' ∧ ∃ N : St → Hp → Prop, (∀ σ'' H'', N σ'' H'' → ∃ m', m' < m ∧ W (i + 1) m' σ'' H'') ∧
      ∀ x H2, J.yld i H' x H2 → g x σ' H2 fun σ2 H3 => tc σ2 H3 fun b H3' => if b = true then te σ2 H3' fun v H4 => ∃ xs, H4 D = some (.lst xs) ∧ xs.length < sizeLine ∧ N σ2 (upd H4 D (.lst (xs ++ [v]))) else N σ2 H3')
section
variable {X : Cx} {pins : List (Addr × Obj)} {σ : St} {H : Hp} {s : Shared} {scope : Scope} {N' : List Str} {pk : List (Option Nat)} {fp : List Addr}
theorem comp_runI {elt tg iter cnd : Expr} {g : TG} {tc : TT} {te : TE} {J : It} {it : Addr} {tn : Nat → Heap → Prop} {pos : Pos} {QD : Addr → Hp → Prop} {E : Value → Shared → Prop} {RR : Value → Addr → Result → Shared → Prop}
    (I : Inv X pins σ H s) (B : BlkOk X.N X.env scope N' pk) (hc : X.calm = true) (T : Turn X.prog X.w X.K tg J fp it tn) (st : tn 0 s.heap) (hf : ∀ b ∈ fp, FpOk X pins H b)
    (hg : ∀ s H ex, PG (cxB X N' scope s H ex) tg g) (ht : ∀ s H ex, PT (cxB X N' scope s H ex) cnd tc) (he : ∀ s H ex, PE (cxB X N' scope s H ex) elt te)
    (hW : ∀ D, H D = none → CompWI J g tc te D (QD D) (pickS pk σ) (upd H D (.lst [])))
    (fin : ∀ D C s' H' m, Inv X pins σ H' s' → FpOk X pins H' C → s'.heap.Ns C m → QD D H' → RR (.ref D) C (.ok .next) s') :
    wpAny (model X.prog X.w) X.A (newList []) (fun acc s₃ => wpAny (model X.prog X.w) X.A (newFunctionEnv scope X.env.globals (clOf scope X.env) [] X.env.qual none .none (some X.env)) (fun cenv s₄ =>
      codeAny (model X.prog X.w) X.A (.compStart (.ListComp elt [⟨tg, iter, [cnd], 0⟩] scope pos) 0 (.ref it) acc { cenv with scope := relabel scope X.env }) (RR acc cenv.locals) s₄) E s₃) E s := by
  have hD0 : H s.heap.objs.size = none := I.hok.fresh (Nat.le_refl _)
  refine wpAny_newObj_type (wpAny_newFunctionEnv B.nocell (by intro y hy; simp at hy) (fun h₁ hns₁ hsb₁ => ?_) B.kind)
  dsimp only at hns₁ hsb₁ ⊢
  have I3 : Inv X pins σ (upd H s.heap.objs.size (.lst [])) { s with heap := s.heap.push { cls := .type "list", dict := none, data := .seq ([] : List Value).toArray } } := I.lnew (t' := s.toks) .nil (Nat.zero_le _)
  obtain ⟨W, ⟨m0, w0⟩, turn⟩ := hW _ hD0
  generalize hs3 : ({ s with heap := s.heap.push { cls := .type "list", dict := none, data := .seq ([] : List Value).toArray } } : Shared) = s3 at I3
  have eh : s.heap.push { cls := .type "list", dict := none, data := .seq ([] : List Value).toArray } = s3.heap := by rw [← hs3]
  have hold : ∀ b o, s.heap.get? b = some o → s3.heap.get? b = some o := fun b o e => by rw [← eh]; exact Heap.get?_push_of_some _ e
  rw [eh] at hns₁ hsb₁
  have hs : ∀ b o, s3.heap.get? b = some o → h₁.get? b = some o := fun b o e => hsb₁.extBut b o (Nat.ne_of_lt (Heap.lt_size e)) (Heap.get?_push_of_some _ e)
  have hf3 : ∀ b ∈ fp, FpOk X pins (upd H s.heap.objs.size (.lst [])) b := fun b hb => by
    refine ⟨?_, (hf b hb).2⟩
    obtain ⟨o, e, _⟩ := T.obj 0 _ st b hb
    rw [upd_ne (Nat.ne_of_lt (Heap.lt_size e))]
    exact (hf b hb).1
  have ho3 : ∀ b ∈ fp, ∃ o, s3.heap.get? b = some o := fun b hb => by
    obtain ⟨o, e, _⟩ := T.obj 0 _ st b hb
    exact ⟨o, hold _ _ e⟩
  have st1 : tn 0 h₁ := T.keep 0 _ _ st fun b hb o e => hs b o (hold b o e)
  have esh : ∀ t, ({ s with heap := h₁, toks := t } : Shared) = { s3 with heap := h₁, toks := t } := fun t => by rw [← hs3]
  have loop : ∀ t, codeAny (model X.prog X.w) X.A (.compLoop (.ListComp elt [⟨tg, iter, [cnd], 0⟩] scope pos) 0 (.ref it) (.ref s.heap.objs.size) (compEnvC scope (clOf scope X.env) s3.heap.objs.size X.env))
      (RR (.ref s.heap.objs.size) s3.heap.objs.size) { s with heap := h₁, toks := t } := fun t => by
    rw [esh t]
    have IB : Inv (cxB X N' scope s3 (upd H s.heap.objs.size (.lst [])) fp) [] (pickS pk σ) (upd H s.heap.objs.size (.lst [])) { s3 with heap := h₁, toks := t } := blk_inv I3 B hf3 ho3 hns₁ hs
    have f2 : ∀ b ∈ fp, FpOk (cxB X N' scope s3 (upd H s.heap.objs.size (.lst [])) fp) [] (upd H s.heap.objs.size (.lst [])) b := fun b hb =>
      ⟨(hf3 b hb).1, (IB.ok.exf b hb).1, IB.ok.exfs b hb, .inl hb, (IB.ok.exf b hb).2, fun p hp => absurd (show p ∈ ([] : List (Addr × Obj)) from hp) (by simp)⟩
    have stat : ∀ {H' : Hp}, (∀ b ∈ fp, H' b = none) → ∀ b ∈ fp, FpOk (cxB X N' scope s3 (upd H s.heap.objs.size (.lst [])) fp) [] H' b := fun hn b hb => ⟨hn b hb, (f2 b hb).2⟩
    refine compLoop_if (fun n s' => ∃ i σ' H', Inv (cxB X N' scope s3 (upd H s.heap.objs.size (.lst [])) fp) [] σ' H' s' ∧ tn i s'.heap ∧ (∀ b ∈ fp, H' b = none) ∧ W i n σ' H') ?_ m0 ⟨0, _, _, IB, st1, fun b hb => (f2 b hb).1, w0⟩
    rintro n s4 ⟨i, σ4, H4, I4, st4, fr4, w4⟩ E'
    rcases turn i n σ4 H4 w4 with ⟨stop, qn⟩ | ⟨go, N, hN, step⟩
    · refine thn (T.done (cxB X N' scope s3 (upd H s.heap.objs.size (.lst [])) fp) rfl rfl rfl hc i [] s4 σ4 H4 E' I4 (stat fr4) st4 stop) fun r s5 ⟨hr, I5⟩ => ?_
      subst hr
      obtain ⟨m5, hn5, _⟩ := I5.loc
      have IX : Inv X pins σ H4 s5 := I3.call' (ch := fp) I5.os I5.base I5.hok I5.bare fun b hb => ⟨(hf3 b hb).2.2.2.1, (hf3 b hb).2.1, (hf3 b hb).2.2.2.2.1, (hf3 b hb).2.2.2.2.2⟩
      exact fin _ _ s5 H4 m5 IX (I3.fpOk (Nat.le_refl _) I5.free) hn5 qn
    · refine thn (T.item (cxB X N' scope s3 (upd H s.heap.objs.size (.lst [])) fp) rfl rfl rfl hc i [] s4 σ4 H4 E' I4 (stat fr4) st4 go) fun r s5 ⟨u, hr, h5⟩ => ?_
      subst hr
      refine thn h5 fun _ s6 ⟨x, H6, I6, r6, y6, st6, fr6⟩ => ?_
      have I6' := I6.pinned (stat fr6) (T.obj _ _ st6)
      refine wpAny_mono (hg _ _ _ s6 σ4 H6 x u _ I6' r6 (step x H6 y6)) (fun _ s7 ⟨σ7, H7, I7, q7⟩ => ?_) fun _ _ z => False.elim z
      refine wpAny_mono (ht _ _ _ s7 σ7 H7 _ I7 q7) (fun bb s7' ⟨H7', I7', q7'⟩ => ?_) fun _ _ z => False.elim z
      have back : ∀ H9 s9, Inv (cxB X N' scope s3 (upd H s.heap.objs.size (.lst [])) fp) ([] ++ pinsAt fp s6.heap) σ7 H9 s9 → N σ7 H9 → ∃ m, m < n ∧ ∃ i σ' H', Inv (cxB X N' scope s3 (upd H s.heap.objs.size (.lst [])) fp) [] σ' H' s9 ∧ tn i s9.heap ∧ (∀ b ∈ fp, H' b = none) ∧ W i m σ' H' := fun H9 s9 I9 n9 => by
        obtain ⟨m', hm, w9⟩ := hN σ7 H9 n9
        refine ⟨m', hm, i + 1, σ7, H9, I9.unpinned, T.keep _ _ _ st6 fun b hb o e => (I9.pin (b, o) (List.mem_append_right _ (List.mem_append_right _ (mem_pinsAt hb e)))).1, fun b hb => ?_, w9⟩
        obtain ⟨o, e, d⟩ := T.obj _ _ st6 b hb
        exact (I9.pin (b, o) (List.mem_append_right _ (List.mem_append_right _ (mem_pinsAt hb e)))).2.1
      cases bb with
      | false => exact back H7' s7' I7' q7'
      | true =>
        refine wpAny_mono (he _ _ _ s7' σ7 H7' _ I7' q7') (fun w s8 ⟨v, H8, I8, r8, xs, hx8, hl8, n8⟩ => ?_) fun _ _ z => False.elim z
        refine wpAny_mono (mt_append (X := cxB X N' scope s3 (upd H s.heap.objs.size (.lst [])) fp) _ s8 σ7 H8 (.ref s.heap.objs.size) [v] (.ref s.heap.objs.size) [w] (fun _ H9 => N σ7 H9) I8 rfl (.cons r8 .nil) ⟨_, xs, v, rfl, rfl, hx8, hl8, n8⟩) (fun _ s9 ⟨_, H9, I9, _, n9⟩ => ?_) fun _ _ z => False.elim z
        exact back H9 s9 I9 n9
  rw [← eh] at loop
  exact codeAny_compStart_list (loop _) (T.self _ _ _ _ _ st1 (loop _))

def tCompI (pk : List (Option Nat)) (wi : TI) (g : TG) (tc : TT) (te : TE) : TE := fun σ H Q => wi σ H fun J H1 => ∀ D, H1 D = none → CompWI J g tc te D (fun H' => Q (.ref D) H') (pickS pk σ) (upd H1 D (.lst []))
theorem pe_compI {elt tg iter cnd : Expr} {wi : TI} {g : TG} {tc : TT} {te : TE} {pos : Pos} (hc : X.calm = true) (B : BlkOk X.N X.env scope N' pk) (hi : PI X tg iter wi)
    (hg : ∀ s H ex, PG (cxB X N' scope s H ex) tg g) (ht : ∀ s H ex, PT (cxB X N' scope s H ex) cnd tc) (he : ∀ s H ex, PE (cxB X N' scope s H ex) elt te) (hs : ∀ x, foldedSetIterable iter X.env x = pure x := by intro _; rfl) :
    PE X (.ListComp elt [⟨tg, iter, [cnd], 0⟩] scope pos) (tCompI pk wi g tc te) := by
  intro pins s σ H Q I h
  rw [eval_ListComp]
  have hclos := closure_of (blk_has I B)
  refine wpAny_comprehension_free (use := none) rfl hs hclos B.kind B.names (thn (hi s σ H _ I h) fun v s1 h1 => thn h1 fun itv s2 h2 => ?_)
  obtain ⟨it, fp, tn, J, H2, e, I2, T, st2, f2, hW⟩ := h2
  subst e
  refine comp_runI (QD := fun D H' => Q (.ref D) H') (RR := fun acc C => compPost (model X.prog X.w) X.A X.xe none (EP X pins σ Q) acc C) I2 B hc T st2 f2 hg ht he hW fun D C s' H' m I' f' hn q => ?_
  exact ⟨m, hn, fun h' hs' => ⟨.ref D, H', I'.gone f' hs', rfl, q⟩⟩
end
end L2

set_option Elab.async false
set_option linter.all false
set_option maxRecDepth 100000
set_option maxHeartbeats 4000000
namespace L2
open PySem PySem.Spec PyProof.Rows
end L2

set_option Elab.async false
set_option linter.all false
set_option maxRecDepth 100000
set_option maxHeartbeats 8000000
namespace L2
open PySem
theorem vals_from : ∀ (ss : List Str) (n : Nat), Vals (ss.map V.str) (strsFrom n ss)
  | [], _ => .nil
  | x :: xs, n => .cons ⟨_, rfl⟩ (vals_from xs (n + 1))
section
variable {X : Cx}
theorem split_end {pins : List (Addr × Obj)} {σ : St} {H : Hp} {s : Shared} {Q : VK} {ss : List Str} {vs : List Value} (k : Nat) (I : Inv X pins σ H s) (hv : Vals (ss.map V.str) vs) (hz : ss.length ≤ sizeLine) (q : ∀ p, H p = none → Q (.ref p) (upd H p (.lst (ss.map V.str)))) :
    EP X pins σ Q (.ref s.heap.objs.size) { heap := s.heap.push { cls := Value.type "list", data := Data.seq vs.toArray }, gens := s.gens, drawn := s.drawn, toks := k, os := s.os } :=
  ⟨.ref s.heap.objs.size, _, I.laid (t' := k) (o := .lst (ss.map V.str)) (fun b ob q => Heap.get?_push_of_some _ q) (Nat.le_refl _) ⟨by rw [List.length_map]; exact hz, _, 0, hv, Heap.get?_push_size _ rfl⟩, rfl, q _ (I.hok.fresh (Nat.le_refl _))⟩
theorem mt_split : MtR X "str.split" (fun x vs H Q => ∃ z y, x = .str z ∧ vs = [.str y] ∧ (y.length == 0) = false ∧ z.length + 2 ≤ sizeLine ∧ ∀ p, H p = none → Q (.ref p) (upd H p (.lst ((Txt.split z y).map V.str)))) := by
  intro pins s σ H x xs v us Q I rx rs h
  obtain ⟨z, y, rfl, rfl, hy, hz, q⟩ := h
  obtain ⟨t, rfl⟩ := rx
  obtain ⟨u, rfl, ru⟩ := rs.one
  obtain ⟨t', rfl⟩ := ru
  have hle := PyProof.Rows.split_le z y
  by_cases h1 : (decide (z.length < y.length) || decide (Builtin.Str.strKind z < Builtin.Str.strKind y)) = true
  · have e : Txt.split z y = [z] := by unfold Txt.split; rw [if_pos h1]
    rw [e] at q
    refine call_meets F.slot_str_split (typeIs_str _ _ _) F.entry_str_split (F.args_str_split_2 _ _) (meets_str_split_cannot_occur z y t t' h1) ?_
    exact split_end (ss := [z]) _ I (.cons ⟨_, rfl⟩ .nil) (by show 1 ≤ _; omega) q
  · have h1' : (decide (z.length < y.length) || decide (Builtin.Str.strKind z < Builtin.Str.strKind y)) = false := by simpa using h1
    by_cases h2 : (Builtin.Str.occurrences z y 0 z.length (z.length + 1)).isEmpty = true
    · have e : Txt.split z y = [z] := by unfold Txt.split; rw [if_neg h1, if_pos h2]
      rw [e] at q
      refine call_meets F.slot_str_split (typeIs_str _ _ _) F.entry_str_split (F.args_str_split_2 _ _) (meets_str_split_not_found z y t t' h1' hy h2) ?_
      exact split_end (ss := [z]) _ I (.cons ⟨_, rfl⟩ .nil) (by show 1 ≤ _; omega) q
    · have e : Txt.split z y = Builtin.Str.partsBetween z (Builtin.Str.occurrences z y 0 z.length (z.length + 1)) y.length := by unfold Txt.split; rw [if_neg h1, if_neg h2]
      rw [e] at hle q
      refine call_meets F.slot_str_split (typeIs_str _ _ _) F.entry_str_split (F.args_str_split_2 _ _) (meets_str_split_sep z y t t' h1' hy (by simpa using h2) (by omega) (by omega)) ?_
      exact split_end _ I (vals_from _ _) (by omega) q
end
end L2

set_option Elab.async false
set_option linter.all false
set_option maxRecDepth 100000
set_option maxHeartbeats 8000000
namespace L2
open PySem PySem.Spec PyProof.Rows PySem.W
theorem ps_tryN {X : Cx} {body : List Stmt} {x n : Str} {suite : List Stmt} {b0 : Stmt} {np hpos pos : Pos} {t : TS} (hb : ∀ (pn : List (Addr × Obj)) (W : Value → Shared → Prop), PSs (X.bear pn W) body t) :
    PS X (.Try body [.ExceptHandler (some (.Name x np)) (some n) (b0 :: suite) hpos] [] [] pos) t := by
  intro pins s σ H D I h
  refine wpAny_Try_except ?_
  refine wpAny_mono (hb (X.pn ++ pins) _ s σ H D (I.toBear _) h) (fun f s1 q => ?_) (fun _ _ z => z)
  have q' : SP X pins D f s1 := SP.ofBear q
  cases f with
  | next => exact wpAny_execs_nil q'
  | brk => exact q'
  | cont => exact q'
  | ret u => exact q'
end L2

set_option Elab.async false
set_option linter.all false
set_option maxRecDepth 100000
set_option maxHeartbeats 8000000
namespace L2
open PySem PySem.Spec PyProof.Rows
def tInts (cs : List Int) : TA := fun _ H Q => Q (cs.map V.int) H
def tStrs (cs : List Str) : TA := fun _ H Q => Q (cs.map V.str) H
theorem tStrs_cons (c : Str) (cs : List Str) : tCons (tC (.str c)) (tStrs cs) = tStrs (c :: cs) := rfl
theorem pa_strs {X : Cx} : ∀ (l : List (Str × Nat × Pos)), PA X (l.map fun q => .Constant (.str q.1) q.2.1 q.2.2) (tStrs (l.map (·.1)))
  | [] => (pa_nil : PA X [] tNil)
  | q :: l => by
    rw [List.map_cons, List.map_cons, ← tStrs_cons]
    exact pa_cons pe_str (pa_strs l)
def isInts : List Expr → List Int → Bool
  | [], [] => true
  | .Constant (.int c) _ _ :: es, d :: ds => decide (c = d) && isInts es ds
  | _, _ => false
def isStrs : List Expr → List Str → Bool
  | [], [] => true
  | .Constant (.str c) _ _ :: es, d :: ds => decide (c = d) && isStrs es ds
  | _, _ => false
theorem isStrs_of : ∀ {es : List Expr} {cs : List Str}, isStrs es cs = true → ∃ l : List (Str × Nat × Pos), es = l.map (fun q => .Constant (.str q.1) q.2.1 q.2.2) ∧ cs = l.map (·.1)
  | [], [], _ => ⟨[], rfl, rfl⟩
  | .Constant (.str c) k p :: es, d :: ds, h => by
    have h' : (decide (c = d) && isStrs es ds) = true := h
    rw [Bool.and_eq_true, decide_eq_true_eq] at h'
    obtain ⟨rfl, h2⟩ := h'
    obtain ⟨l, rfl, rfl⟩ := isStrs_of h2
    exact ⟨(c, k, p) :: l, rfl, rfl⟩
theorem pa_ss {X : Cx} {es : List Expr} (cs : List Str) (h : isStrs es cs = true) : PA X es (tStrs cs) := by
  obtain ⟨l, rfl, rfl⟩ := isStrs_of h
  exact pa_strs l
abbrev rListOf (K : PySem.W.Frag) : List V → Hp → VK → Prop := fun xs H Q => ∃ p ys, xs = [.ref p] ∧ (SqL K H p ys ∨ SqT K H p ys) ∧ ∀ l, H l = none → Q (.ref l) (upd H l (.lst ys))
theorem passF {P : Program} {w : World} {X : Cx} : Passes (CX1 P w) X (fun _ _ _ => False) := fun _ _ _ _ _ _ _ ⟨_, _, _, _, _, _, _, _, _, _, _, _, _, h⟩ => h.elim
theorem cutQ {t u : TS} {D : Ends} {σ : St} {H : Hp} (Pv : St → Hp → Prop) (h : ∀ R : St → Hp → Prop, (∀ σ' H', Pv σ' H' → R σ' H') → t { D with nx := R } σ H) (k : ∀ σ' H', Pv σ' H' → u D σ' H') : tCut t u D σ H := ⟨Pv, h Pv (fun _ _ x => x), k⟩
end L2

set_option Elab.async false
set_option linter.all false
set_option maxRecDepth 100000
set_option maxHeartbeats 8000000
namespace L2
open PySem PySem.Spec PyProof.Rows
theorem intsAre_vals {ns : List Int} : ∀ {us : List Value}, Vals (ns.map V.int) us → IntsAre us ns := by
  induction ns with
  | nil => intro us r; rw [List.map_nil] at r; cases r; exact .nil
  | cons n ns ih =>
    intro us r
    rw [List.map_cons] at r
    cases r with
    | cons r1 r2 =>
      obtain ⟨t, e⟩ := r1
      cases e
      exact .cons n t (ih r2)
section
variable {X : Cx}
theorem call_maxL (hc : X.calm = true) : CallR X (.builtin "max") (fun xs H Q => ∃ (a : Addr) (ns : List Int), xs = [.ref a] ∧ SqL X.K H a (ns.map V.int) ∧ 0 < ns.length ∧ ∀ M, M ∈ ns → (∀ a ∈ ns, a ≤ M) → Q (.int M) H) := by
  intro pins s σ H xs us Q I r h
  obtain ⟨a, ns, rfl, ha, hne, q⟩ := h
  obtain ⟨u, rfl, ru⟩ := vals1 r
  cases ru
  obtain ⟨its, rv, pl, _⟩ := I.list ha
  have hl := pl.isList
  have hi := intsAre_vals rv
  obtain ⟨xs, e⟩ := hi.allInts.items
  have hns : ns = xs.toList.map (·.1) := by
    rw [← hi.numsOf, ← nums_intItems, ← e]
  have hsz : 0 < xs.size := by
    have h3 := hne; rw [hns, List.length_map, Array.length_toList] at h3; exact h3
  rw [e] at hl
  refine max_intList (I.ok.hd hc) hl hsz fun v h' tk hv hk => ?_
  obtain ⟨t, rfl⟩ := intItems_at hv
  obtain ⟨h1, h2⟩ := argBest_gt (numAt xs) (xs.size - 1)
  refine ⟨.int _, H, I.kept hk, ⟨t, rfl⟩, q _ ?_ fun a ha => ?_⟩
  · rw [hns, numAt_eq]; exact getD_mem (by rw [List.length_map, Array.length_toList]; omega)
  · rw [hns] at ha
    obtain ⟨j, hj, rfl⟩ := mem_getD ha
    rw [List.length_map, Array.length_toList] at hj
    rw [← numAt_eq]; exact h2 j (by omega)
end
theorem for_steadyQ {J : It} {H0 : Hp} {n : Nat} {vs : Nat → V → Prop} {g : TG} {tb : TS} {D : Ends} {σ : St} {H : Hp} (S : Steady J H0 n vs) (Pv : Nat → St → Hp → Prop) (h0 : Pv 0 σ H) (hsame : ∀ i σ H, i ≤ n → Pv i σ H → Same H0 H)
    (hs : ∀ i x σ H, i < n → vs i x → Pv i σ H → ∀ R : St → Hp → Prop, (∀ σ' H', Pv (i + 1) σ' H' → R σ' H') → g x σ H fun σ2 H2 => tb { D with nx := R, ct := R, bk := D.nx } σ2 H2) (hd : ∀ σ H, Pv n σ H → D.nx σ H) : ForW J g tb D σ H :=
  for_steady S Pv h0 hsame (fun i x σ H hi hx p => hs i x σ H hi hx p _ fun _ _ z => z) hd
section
variable {X : Cx}
theorem Inv.thaw {pins : List (Addr × Obj)} {σ : St} {H : Hp} {s : Shared} {d : Addr} {o : Obj} {kvs : List (Key × V)} (I : Inv X pins σ H s) (h : H d = some (.frz o (.dK kvs))) (h0 : ∀ o u, X.H₀ d ≠ some (.frz o u)) : Inv X pins σ (upd H d (.dK kvs)) s := by
  have ne : ∀ b, H b = none → b ≠ d := fun b e z => by rw [z, h] at e; cases e
  refine ⟨I.ok, I.os, I.bare, ⟨I.base.keep, I.base.slot, fun b ob e n hx => ?_, I.base.there, fun b xs e => ?_, fun b ob u e => ?_, fun b ps e => ?_⟩, I.loc, I.cell, ?_, fun x c e => ?_, fun p hp => ?_, fun a u e => ?_, I.len⟩
  · have := I.base.free b ob e n hx
    rw [upd_ne (ne b this)]; exact this
  · have := I.base.tups b xs e
    have hb : b ≠ d := fun z => by rw [z, h] at this; cases this
    rw [upd_ne hb]; exact this
  · have := I.base.frzs b ob u e
    have hb : b ≠ d := fun z => by rw [z] at e; exact h0 _ _ e
    rw [upd_ne hb]; exact this
  · obtain ⟨more, this⟩ := I.base.tbls b ps e
    have hb : b ≠ d := fun z => by rw [z, h] at this; cases this
    exact ⟨more, by rw [upd_ne hb]; exact this⟩
  · rw [upd_ne (ne _ I.free)]; exact I.free
  · rw [upd_ne (ne _ (I.freeC x c e))]; exact I.freeC x c e
  · obtain ⟨e1, n, r⟩ := I.pin p hp
    exact ⟨e1, by rw [upd_ne (ne _ n)]; exact n, r⟩
  · have ho : ∀ b y, H b = some (.own y) → upd H d (.dK kvs) b = some (.own y) := fun b y q => by
      have hb : b ≠ d := fun z => by rw [z, h] at q; cases q
      rw [upd_ne hb]; exact q
    have ht : ∀ b xs, H b = some (.tup xs) → upd H d (.dK kvs) b = some (.tup xs) := fun b xs q => by
      have hb : b ≠ d := fun z => by rw [z, h] at q; cases q
      rw [upd_ne hb]; exact q
    by_cases ha : a = d
    · subst ha
      rw [upd_same] at e
      cases e
      have := I.hok a _ h
      exact ObjOk.stay this.2 (fun _ _ _ q => q) (fun b q => ho b _ q) ht
    · rw [upd_ne ha] at e
      exact ObjOk.stay (I.hok a _ e) (fun _ _ _ q => q) (fun b q => ho b _ q) ht
def tThaw (H0 : Hp) (te : TE) : TE := fun σ H Q => te σ H fun v H' => Q v H' ∨ ∃ d o kvs, H' d = some (.frz o (.dK kvs)) ∧ (∀ o u, H0 d ≠ some (.frz o u)) ∧ Q v (upd H' d (.dK kvs))
theorem pe_thaw {e : Expr} {te : TE} (h : PE X e te) : PE X e (tThaw X.H₀ te) := by
  intro pins s σ H Q I q
  refine thn (h s σ H _ I q) fun v s1 ⟨x, H1, I1, r1, q1⟩ => ?_
  rcases q1 with q1 | ⟨d, o, kvs, hd, h0, q1⟩
  · exact ⟨x, H1, I1, r1, q1⟩
  · exact ⟨x, _, I1.thaw hd h0, r1, q1⟩
end
theorem cxOf_H0 {CX : CXT} {P : Program} {w : World} {K : PySem.W.Frag} {mg : Str → Option Value} {base : Heap} {N : List Str} {qual : Str} {scope : Scope} {f : Addr} {cd : Value} {A : Around} {outer : List Env} {s : Shared} {H : Hp} {E : XK} : (cxOf CX P w K mg base N qual scope f cd A outer s H E).H₀ = H := rfl
theorem nox_H0 {X : Cx} : X.nox.H₀ = X.H₀ := rfl
end L2

set_option Elab.async false
set_option linter.all false
set_option maxRecDepth 100000
set_option maxHeartbeats 8000000
namespace L2
open PySem PySem.Spec PyProof.Rows
section
variable {X : Cx}
theorem all_eqV : ∀ (xs ys : List V), xs.length = ys.length → ((List.range xs.length).all fun j => eqV (xs.getD j .non) (ys.getD j .non)) = (xs.zip ys).all fun p => eqV p.1 p.2 := by
  intro xs
  induction xs with
  | nil => intro ys _; rfl
  | cons x xs ih =>
    intro ys h
    cases ys with
    | nil => simp at h
    | cons y ys =>
      rw [List.length_cons, List.range_succ_eq_map, List.all_cons, List.all_map, List.zip_cons_cons, List.all_cons]
      have h' : xs.length = ys.length := by simpa using h
      rw [← ih ys h']
      rfl
theorem eqL_core {its its2 : List Value} {xs ys : List V} {A : Around} {s : Shared} (r1 : Vals xs its) (r2 : Vals ys its2) (f1 : xs.all flatV = true) (f2 : ys.all flatV = true) (hl : xs.length = ys.length) :
    ∀ j (h1 : j < its.toArray.size) (h2 : j < its2.toArray.size), SeqAt.EqAt A s its.toArray[j] its2.toArray[j] (eqV (xs.getD j .non) (ys.getD j .non)) := by
  intro j h1 h2
  have l1 := r1.length
  have l2 := r2.length
  have hj1 : j < xs.length := by rw [l1]; simpa using h1
  have hj2 : j < ys.length := by rw [l2]; simpa using h2
  obtain ⟨u1, hu1, ru1⟩ := r1.get (List.getElem?_eq_getElem hj1)
  obtain ⟨u2, hu2, ru2⟩ := r2.get (List.getElem?_eq_getElem hj2)
  have e1 : its.toArray[j] = u1 := by
    have := (List.getElem?_eq_some_iff.mp hu1).2
    simpa using this
  have e2 : its2.toArray[j] = u2 := by
    have := (List.getElem?_eq_some_iff.mp hu2).2
    simpa using this
  rw [e1, e2, List.getD_eq_getElem?_getD, List.getD_eq_getElem?_getD, List.getElem?_eq_getElem hj1, List.getElem?_eq_getElem hj2]
  exact eqAt_V ru1 ru2 (List.all_eq_true.mp f1 _ (List.getElem_mem hj1)) (List.all_eq_true.mp f2 _ (List.getElem_mem hj2))
def eqLs (xs ys : List V) : Bool := decide (xs.length = ys.length) && (xs.zip ys).all fun p => eqV p.1 p.2
def rEqL (K : PySem.W.Frag) (neg : Bool) : R2 := fun x y H Q => ∃ a b xs ys, x = .ref a ∧ y = .ref b ∧ SqL K H a xs ∧ SqL K H b ys ∧ ((xs.all flatV = true ∧ ys.all flatV = true) ∨ xs.length ≠ ys.length ∨ xs = []) ∧ Q (.bl (neg ^^ eqLs xs ys)) H
end
end L2

set_option Elab.async false
set_option linter.all false
set_option maxRecDepth 100000
set_option maxHeartbeats 8000000
namespace L2
open PySem PySem.Spec PyProof.Rows
section
variable {prog : Program} {w : World} {A : Around} {E : Value → Shared → Prop} {s : Shared}
end
section
variable {prog : Program} {w : World} {κ : Type} [DecidableEq κ] {knd : KeyKind prog w κ}
end
end L2

set_option Elab.async false
set_option linter.all false
set_option maxRecDepth 100000
set_option maxHeartbeats 8000000
namespace L2
open PySem PySem.Spec PyProof.Rows
/-! ### order of texts -/
section
variable {X : Cx}
theorem op_ge_str : OpR X (compareOp .GtE) (fun x y H Q => ∃ i j, x = .str i ∧ y = .str j ∧ Q (.bl (!decide (i.cps.toList < j.cps.toList))) H) := by
  intro pins s σ H x y v u Q I rx ry h
  obtain ⟨i, j, rfl, rfl, q⟩ := h
  obtain ⟨t, rfl⟩ := rx
  obtain ⟨t', rfl⟩ := ry
  exact PySem.P.ge_str (fin_bl I q rfl)
end
end L2

set_option Elab.async false
set_option linter.all false
set_option maxRecDepth 100000
set_option maxHeartbeats 8000000
namespace L2
open PySem PySem.Spec PyProof.Rows
section
variable {X : Cx} {pins : List (Addr × Obj)} {σ : St} {H : Hp} {s : Shared} {h' : Heap}
theorem Inv.turnedT {t' : Nat} {ch : List Addr} {T : Addr} {o : HO} (I : Inv X pins σ H s) (hf : ∀ b ∈ ch, FpOk X pins H b) (k : ∀ b o, b ∉ ch → s.heap.get? b = some o → h'.get? b = some o) (hp : s.heap.objs.size ≤ T)
    (new : ObjOk X.prog X.w (upd H T o) h' T o) : Inv X pins σ (upd H T o) { s with heap := h', toks := t' } := by
  have hTn : H T = none := I.hok.fresh hp
  have nit : ∀ b u, H b = some u → b ∉ ch := fun b u e z => by rw [(hf b z).1] at e; cases e
  have nT : ∀ b o, s.heap.get? b = some o → b ≠ T := fun b o e => Nat.ne_of_lt (Nat.lt_of_lt_of_le (Heap.lt_size e) hp)
  refine I.step (g' := s.gens) (d' := s.drawn) (ch := ch) (fun b hb => ?_) (fun b o _ _ hc e _ => k b o hc e) (fun b o _ _ hc e _ => ⟨o.slots, k b o hc e⟩) (fun b u _ e n => by rw [upd_ne (nT b u e)]; exact n)
    (fun b o hc e => ⟨o, k b o hc e⟩) (fun b xs e => by rw [upd_ne (ne_of_none e hTn)]; exact e) (fun b u v e => by rw [upd_ne (ne_of_none e hTn)]; exact e) (fun b ps e => ⟨#[], by rw [upd_ne (ne_of_none e hTn), e]; simp⟩) (fun m hm => ?_) (fun b u e => ?_) I.bare
  · obtain ⟨f0, f1, f2, f3, f4, f5⟩ := hf b hb
    exact ⟨f3, f1, f4, f5⟩
  · obtain ⟨o, es, ep, ho, r⟩ := hm
    exact ⟨o, es, ep, k _ o (fun z => (hf _ z).2.1 rfl) ho, r⟩
  · by_cases hb : b = T
    · subst hb
      rw [upd_same] at e
      cases e
      exact new
    · rw [upd_ne hb] at e
      refine (I.hok b u e).stay (fun c v hc q => k c v ?_ q) (fun c q => by rw [upd_ne (ne_of_none q hTn)]; exact q) fun c xs q => by rw [upd_ne (ne_of_none q hTn)]; exact q
      rcases hc with z | z
      · rw [z]; exact nit b u e
      · exact nit c _ z
theorem Inv.turnedN {t' : Nat} {ch : List Addr} (I : Inv X pins σ H s) (hf : ∀ b ∈ ch, FpOk X pins H b) (k : ∀ b o, b ∉ ch → s.heap.get? b = some o → h'.get? b = some o) : Inv X pins σ H { s with heap := h', toks := t' } := by
  have nit : ∀ b u, H b = some u → b ∉ ch := fun b u e z => by rw [(hf b z).1] at e; cases e
  refine I.step (g' := s.gens) (d' := s.drawn) (ch := ch) (fun b hb => ?_) (fun b o _ _ hc e _ => k b o hc e) (fun b o _ _ hc e _ => ⟨o.slots, k b o hc e⟩) (fun b u _ e n => n)
    (fun b o hc e => ⟨o, k b o hc e⟩) (fun b xs e => e) (fun b u v e => e) (fun b ps e => ⟨#[], by rw [e]; simp⟩) (fun m hm => ?_) (fun b u e => ?_) I.bare
  · obtain ⟨f0, f1, f2, f3, f4, f5⟩ := hf b hb
    exact ⟨f3, f1, f4, f5⟩
  · obtain ⟨o, es, ep, ho, r⟩ := hm
    exact ⟨o, es, ep, k _ o (fun z => (hf _ z).2.1 rfl) ho, r⟩
  · refine (I.hok b u e).stay (fun c v hc q => k c v ?_ q) (fun _ q => q) fun _ _ q => q
    rcases hc with z | z
    · rw [z]; exact nit b u e
    · exact nit c _ z
end
theorem tup2_ok {P : Program} {w : World} {H : Hp} {h : Heap} {T : Addr} {x y : V} {u v : Value} (hT : h.get? T = some { cls := .type "tuple", data := .seq #[u, v] }) (rx : RelV x u) (ry : RelV y v) : ObjOk P w H h T (.tup [x, y]) :=
  ⟨by show 2 ≤ sizeLine; rw [sizeLine_eq]; decide, [u, v], .cons rx (.cons ry .nil), _, hT, rfl, _, rfl⟩
def Ite (K : PySem.W.Frag) (a : Addr) : It :=
  ⟨fun i H => ∃ xs x, SqL K H a xs ∧ xs[i]? = some x, fun i H v H' => ∃ T x, H T = none ∧ v = .ref T ∧ H' = upd H T (.tup [.int i, x]) ∧ ∀ xs, SqL K H a xs → xs[i]? = some x, fun i H => ∃ xs, SqL K H a xs ∧ xs.length ≤ i⟩
theorem turn_enum {P : Program} {w : World} {K : PySem.W.Frag} {elts : List Expr} {k : Nat} {pos : Pos} (a e it : Addr) (hei : e ≠ it) : Turn P w K (.Tuple elts k pos) (Ite K a) [e, it] e (fun i h => (∃ old, IsEnum h e it ((i : Nat) : Int) old) ∧ h.IsListIter it a i) where
  mem := by simp
  obj := fun i h st b hb => by
    obtain ⟨⟨old, he⟩, o, h1, h2, h3⟩ := st
    rcases List.mem_cons.mp hb with rfl | hb
    · exact ⟨_, he, fun v z => by
        have z' : Data.fields _ = Data.cell v := z
        cases z'⟩
    · rw [List.mem_singleton.mp hb]
      exact ⟨o, h1, fun v z => by rw [h3] at z; cases z⟩
  keep := fun i h h' st k => ⟨by obtain ⟨⟨old, he⟩, _⟩ := st; exact ⟨old, k e (by simp) _ he⟩, st.2.at fun o e => k it (by simp) o e⟩
  item := by
    intro X hP hw hK hc i pins s σ H E I hf st hg
    subst hP hw hK
    obtain ⟨xs, x, hq, hx⟩ := hg
    obtain ⟨its, rv, p, hz⟩ := I.list hq
    obtain ⟨u, hu, ru⟩ := rv.get hx
    obtain ⟨⟨old, he⟩, hit⟩ := st
    have hae : a ≠ e := fun z => by
      obtain ⟨o, n, h1, h2, _⟩ := p
      rw [z, he] at h1
      cases h1
      have h2' : Value.type "enumerate" = Value.type "list" := h2
      exact absurd h2' (by decide +kernel)
    have hai : a ≠ it := fun z => by
      obtain ⟨o, n, h1, h2, _⟩ := p
      obtain ⟨o2, h3, h4, _⟩ := hit
      rw [z, h3] at h1
      cases h1
      rw [h4] at h2
      exact absurd h2 (by decide +kernel)
    refine wpAny_pyNext_enum_item he hit p.isList (x := u) (by simpa using hu) hei fun h' ho hit' hT hsz hk => ⟨_, rfl, ?_⟩
    have hel := Heap.lt_size he
    refine wpAny_letOwnedTupleGo_enum (s := { s with heap := h', toks := s.toks + 1 }) ho fun h2 he2 hs2 => ?_
    have hT2 : h2.get? s.heap.objs.size = some { cls := .type "tuple", data := .seq #[.int i s.toks, u] } := hs2.extBut _ _ (Nat.ne_of_gt hel) hT
    have I1 : Inv X pins σ (upd H s.heap.objs.size (.tup [.int i, x])) { s with heap := h2, toks := s.toks + 1 } := I.turnedT hf (fun b o hb e0 => hs2.extBut b o (fun z => hb (by simp [z])) (hk b o (fun z => hb (by simp [z])) (fun z => hb (by simp [z])) e0)) (Nat.le_refl _) (tup2_ok hT2 ⟨_, rfl⟩ ru)
    refine ⟨.ref s.heap.objs.size, _, I1, rfl, ⟨_, x, I.hok.fresh (Nat.le_refl _), rfl, rfl, fun ys hy => by rw [I.list_inj hy hq]; exact hx⟩, ⟨⟨u, by simpa using he2⟩, hit'.extBut hs2.extBut (Ne.symm hei)⟩, fun b hb => ?_⟩
    have hlt : b < s.heap.objs.size := by
      rcases List.mem_cons.mp hb with rfl | hb
      · exact hel
      · rw [List.mem_singleton.mp hb]; obtain ⟨_, h3, _⟩ := hit; exact Heap.lt_size h3
    rw [upd_ne (Nat.ne_of_lt hlt)]
    exact (hf b hb).1
  done := by
    intro X hP hw hK hc i pins s σ H E I hf st hg
    subst hP hw hK
    obtain ⟨xs, hq, hx⟩ := hg
    obtain ⟨its, rv, p, hz⟩ := I.list hq
    obtain ⟨⟨old, he⟩, hit⟩ := st
    have hl := rv.length
    exact wpAny_pyNext_enum_end (I.ok.hd hc) he hit p.isList (by simp; omega) fun h' eb => ⟨rfl, I.turnedN hf (t' := s.toks) fun b o hb e0 => eb b o (fun z => hb (by simp [z])) e0⟩
  self := fun _ _ _ _ _ st h => by
    obtain ⟨⟨old, he⟩, _⟩ := st
    exact wpAny_pyIter_enum he h
def iEnum (K : PySem.W.Frag) (ta : TA) : TI := fun σ H R => ta σ H fun vs H1 => ∃ a, vs = [.ref a] ∧ (∃ xs, SqL K H1 a xs) ∧ R (Ite K a) H1
section
variable {X : Cx}
theorem pi_enum {a : Expr} {ta : TA} {p pos : Pos} {elts : List Expr} {k : Nat} {tpos : Pos} (hg : Gl X "enumerate") (hm : X.mg "enumerate" = none) (ha : PA X [a] ta) (hs : starEach [a] X.env = [(false, eval a X.env)] := by rfl) :
    PI X (.Tuple elts k tpos) (.Call (.Name "enumerate" p) [a] [] pos) (iEnum X.K ta) := by
  intro pins s σ H R I h
  refine Call_ (ld_blt I hg hm (u := .type "enumerate") (by decide +kernel) (PyProof.Rows.callWith_type1 (thn (ha pos s σ H _ I h) fun us s1 ⟨vs, H1, I1, r1, q1⟩ => ?_) hs rfl))
  obtain ⟨l, e, ⟨xs, hq⟩, q⟩ := q1
  subst e
  obtain ⟨u, rfl, e1⟩ := vals1 r1
  cases e1
  obtain ⟨its, rv, pl, hz⟩ := I1.list hq
  refine call_enumerate_list pl.isList fun h' hE hI hsz hk => wpAny_pyIter_enum hE ?_
  have I2 : Inv X pins σ H1 { s1 with heap := h' } := I1.kept (t' := s1.toks) hk
  refine ⟨s1.heap.objs.size + 1, [s1.heap.objs.size + 1, s1.heap.objs.size], _, _, H1, rfl, I2, turn_enum l _ _ (Nat.succ_ne_self _), ⟨⟨_, hE⟩, hI⟩, fun b hb => ?_, q⟩
  rcases List.mem_cons.mp hb with rfl | hb
  · exact I1.fpOk (Nat.le_succ _) (I1.hok.fresh (Nat.le_succ _))
  · rw [List.mem_singleton.mp hb]; exact I1.fpOk (Nat.le_refl _) (I1.hok.fresh (Nat.le_refl _))
end
def Itz (K : PySem.W.Frag) (a b : Addr) : It :=
  ⟨fun i H => ∃ xs x ys y, SqL K H a xs ∧ xs[i]? = some x ∧ SqL K H b ys ∧ ys[i]? = some y, fun i H v H' => ∃ T x y, H T = none ∧ v = .ref T ∧ H' = upd H T (.tup [x, y]) ∧ (∀ xs, SqL K H a xs → xs[i]? = some x) ∧ ∀ ys, SqL K H b ys → ys[i]? = some y,
    fun i H => ∃ xs ys, SqL K H a xs ∧ SqL K H b ys ∧ (xs.length ≤ i ∨ ys.length ≤ i)⟩
def iZip2 (K : PySem.W.Frag) (ta : TA) : TI := fun σ H R => ta σ H fun vs H1 => ∃ a b, vs = [.ref a, .ref b] ∧ (∃ xs, SqL K H1 a xs) ∧ (∃ ys, SqL K H1 b ys) ∧ R (Itz K a b) H1
section
variable {X : Cx}
end
end L2

set_option Elab.async false
set_option linter.all false
set_option maxRecDepth 100000
set_option maxHeartbeats 8000000
namespace L2
open PySem PySem.Spec PyProof.Rows
theorem for_enumQ {K : PySem.W.Frag} {a : Addr} {H0 : Hp} {xs : List V} {g : TG} {tb : TS} {D : Ends} {σ : St} {H : Hp} (ha : SqL K H0 a xs) (Pv : Nat → St → Hp → Prop) (h0 : Pv 0 σ H) (hsame : ∀ i σ H, i ≤ xs.length → Pv i σ H → Same H0 H)
    (hs : ∀ i x T σ H, xs[i]? = some x → H T = none → Pv i σ H → ∀ R : St → Hp → Prop, (∀ σ' H', Pv (i + 1) σ' H' → R σ' H') → g (.ref T) σ (upd H T (.tup [.int i, x])) fun σ2 H2 => tb { D with nx := R, ct := R, bk := D.nx } σ2 H2) (hd : ∀ σ H, Pv xs.length σ H → D.nx σ H) : ForW (Ite K a) g tb D σ H := by
  refine ⟨fun i m σ H => m = xs.length - i ∧ i ≤ xs.length ∧ Pv i σ H, ⟨xs.length, by simp, Nat.zero_le _, h0⟩, ?_⟩
  rintro i m σ H ⟨rfl, hi, p⟩
  have sm := hsame i σ H hi p
  by_cases hlt : i < xs.length
  · refine .inr ⟨⟨xs, xs[i], sm.seq ha, List.getElem?_eq_getElem hlt⟩, Pv (i + 1), fun σ' H' p' => ⟨xs.length - (i + 1), by omega, rfl, hlt, p'⟩, ?_⟩
    rintro v H' ⟨T, x1, hT, rfl, rfl, e1⟩
    exact hs i x1 T σ H (e1 xs (sm.seq ha)) hT p _ fun _ _ z => z
  · have e : i = xs.length := by omega
    subst e
    exact .inl ⟨⟨xs, sm.seq ha, Nat.le_refl _⟩, hd σ H p⟩
end L2

set_option Elab.async false
set_option linter.all false
set_option maxRecDepth 100000
set_option maxHeartbeats 8000000
namespace L2
open PySem PySem.Spec PyProof.Rows
section
variable {X : Cx}
end
end L2

set_option Elab.async false
set_option linter.all false
set_option maxRecDepth 100000
set_option maxHeartbeats 8000000
namespace L2
open PySem PySem.Spec PyProof.Rows

/-! ### a set's table: its places rise -/
def Up (xs : Array Nat) : Prop := xs.toList.Pairwise (· < ·)
theorem Up.lt {xs : Array Nat} (u : Up xs) {i k : Nat} (h : i < k) (hk : k < xs.size) : xs.getD i 0 < xs.getD k 0 := by
  have := (List.pairwise_iff_getElem.mp u) i k (by rw [Array.length_toList]; omega) (by rw [Array.length_toList]; exact hk) h
  simp only [Array.getElem_toList] at this
  rw [Array.getD_eq_getD_getElem?, Array.getD_eq_getD_getElem?, Array.getElem?_eq_getElem (by omega), Array.getElem?_eq_getElem hk]
  exact this
theorem Up.le {xs : Array Nat} (u : Up xs) {i k : Nat} (h : i ≤ k) (hk : k < xs.size) : xs.getD i 0 ≤ xs.getD k 0 := by
  rcases Nat.lt_or_eq_of_le h with h | h
  · exact Nat.le_of_lt (u.lt h hk)
  · rw [h]; exact Nat.le_refl _
theorem below_go {xs : Array Nat} (u : Up xs) (j : Nat) : ∀ fuel lo hi, hi ≤ xs.size → lo ≤ hi → hi - lo ≤ fuel → (∀ i, i < lo → xs.getD i 0 < j) → (∀ i, hi ≤ i → i < xs.size → j ≤ xs.getD i 0) →
    SetTable.below.go xs j fuel lo hi ≤ xs.size ∧ (∀ i, i < SetTable.below.go xs j fuel lo hi → xs.getD i 0 < j) ∧ ∀ i, SetTable.below.go xs j fuel lo hi ≤ i → i < xs.size → j ≤ xs.getD i 0
  | 0, lo, hi, h1, h2, h3, h4, h5 => by
    have e : lo = hi := by omega
    subst e
    exact ⟨h1, h4, h5⟩
  | fuel + 1, lo, hi, h1, h2, h3, h4, h5 => by
    show (if lo < hi then _ else lo) ≤ _ ∧ (∀ i, i < (if lo < hi then _ else lo) → _) ∧ ∀ i, (if lo < hi then _ else lo) ≤ i → _
    by_cases hl : lo < hi
    · rw [if_pos hl]
      dsimp only
      by_cases hm : xs.getD ((lo + hi) / 2) j < j
      · rw [if_pos hm]
        have hm' : xs.getD ((lo + hi) / 2) 0 < j := by
          have hlt : (lo + hi) / 2 < xs.size := by omega
          simp only [Array.getD_eq_getD_getElem?, Array.getElem?_eq_getElem hlt] at hm ⊢
          exact hm
        exact below_go u j fuel _ hi h1 (by omega) (by omega) (fun i hi' => Nat.lt_of_le_of_lt (u.le (by omega) (by omega)) hm') h5
      · rw [if_neg hm]
        have hm' : j ≤ xs.getD ((lo + hi) / 2) 0 := by
          have hlt : (lo + hi) / 2 < xs.size := by omega
          simp only [Array.getD_eq_getD_getElem?, Array.getElem?_eq_getElem hlt] at hm ⊢
          simpa using hm
        exact below_go u j fuel lo _ (by omega) (by omega) (by omega) h4 fun i a b => Nat.le_trans hm' (u.le a b)
    · rw [if_neg hl]
      have e : lo = hi := by omega
      subst e
      exact ⟨h1, h4, h5⟩
theorem below_is {xs : Array Nat} (u : Up xs) (j : Nat) : SetTable.below xs j ≤ xs.size ∧ (∀ i, i < SetTable.below xs j → xs.getD i 0 < j) ∧ ∀ i, SetTable.below xs j ≤ i → i < xs.size → j ≤ xs.getD i 0 :=
  below_go u j xs.size 0 xs.size (Nat.le_refl _) (Nat.zero_le _) (by omega) (fun _ h => absurd h (Nat.not_lt_zero _)) (fun i a b => absurd b (by omega))
theorem up_insert {xs : Array Nat} (u : Up xs) {j : Nat} (hj : xs[SetTable.below xs j]? ≠ some j) : Up (SetTable.insertAt xs (SetTable.below xs j) j) := by
  unfold Up
  rw [SetTable.toList_insertAt]
  obtain ⟨h1, h2, h3⟩ := below_is u j
  have g : ∀ i (h : i < xs.toList.length), xs.toList[i] = xs.getD i 0 := fun i h => by
    rw [Array.getD_eq_getD_getElem?, Array.getElem?_eq_getElem (by simpa using h)]; simp
  have a1 : ∀ x ∈ xs.toList.take (SetTable.below xs j), x < j := by
    intro x hx
    obtain ⟨i, hi, e⟩ := List.mem_iff_getElem.mp hx
    rw [List.length_take] at hi
    rw [List.getElem_take, g i (by omega)] at e
    rw [← e]
    exact h2 i (by omega)
  have a2 : ∀ x ∈ xs.toList.drop (SetTable.below xs j), j < x := by
    intro x hx
    obtain ⟨i, hi, e⟩ := List.mem_iff_getElem.mp hx
    rw [List.length_drop] at hi
    rw [List.getElem_drop, g _ (by omega)] at e
    rw [← e]
    rw [Array.length_toList] at hi
    have b1 := h3 (SetTable.below xs j) (Nat.le_refl _) (by omega)
    have b2 : xs.getD (SetTable.below xs j) 0 ≠ j := by
      intro z
      rw [Array.getD_eq_getD_getElem?, Array.getElem?_eq_getElem (by omega)] at z
      rw [Array.getElem?_eq_getElem (by omega)] at hj
      exact hj (congrArg some z)
    exact Nat.lt_of_lt_of_le (Nat.lt_of_le_of_ne b1 (Ne.symm b2)) (u.le (by omega) (by omega))
  have uu : (xs.toList.take (SetTable.below xs j) ++ xs.toList.drop (SetTable.below xs j)).Pairwise (· < ·) := by rw [List.take_append_drop]; exact u
  rw [List.pairwise_append] at uu ⊢
  refine ⟨uu.1, List.pairwise_cons.mpr ⟨a2, uu.2.1⟩, fun a ha b hb => ?_⟩
  rcases List.mem_cons.mp hb with rfl | hb
  · exact a1 a ha
  · exact uu.2.2 a ha b hb
theorem up_range (n : Nat) : Up (Array.range n) := by
  unfold Up
  rw [Array.toList_range]
  exact List.pairwise_lt_range
theorem probe_go (t : SetTable) (ha : Nat → Int) (h : Int) : ∀ (fuel : Nat) (p : SetTable.Probe) (j : Nat) (dm : Option Nat), (∀ d, p.dummy = some d → t.slot d = .dummy) → SetTable.probe.go t ha h fuel p = some (.empty j dm) → t.slot j = .empty ∧ ∀ d, dm = some d → t.slot d = .dummy
  | 0, _, _, _, _, e => by cases e
  | fuel + 1, p, j, dm, hp, e => by
    have adv : ∀ q : SetTable.Probe, (t.advance q).dummy = q.dummy := fun q => by unfold SetTable.advance; split <;> rfl
    unfold SetTable.probe.go at e
    cases hs : t.slot p.j with
    | empty =>
      rw [hs] at e
      simp only [Option.some.injEq, SetTable.Met.empty.injEq] at e
      obtain ⟨rfl, rfl⟩ := e
      exact ⟨hs, hp⟩
    | dummy =>
      rw [hs] at e
      refine probe_go t ha h fuel _ j dm (fun d hd => ?_) e
      rw [adv] at hd
      cases hd
      exact hs
    | live i =>
      rw [hs] at e
      dsimp only at e
      by_cases hc : (ha i == h) = true
      · rw [if_pos hc] at e; cases e
      · rw [if_neg hc] at e
        exact probe_go t ha h fuel _ j dm (fun d hd => by rw [adv] at hd; exact hp d hd) e
theorem slot_free {t : SetTable} {j : Nat} (h : t.slot j = .empty ∨ t.slot j = .dummy) : t.place[SetTable.below t.place j]? ≠ some j := by
  intro z
  unfold SetTable.slot at h
  dsimp only at h
  rw [z] at h
  simp at h
theorem free_slot {t : SetTable} {h : Int} {j : Nat} {b : Bool} (e : t.freeSlot h = some (j, b)) : t.place[SetTable.below t.place j]? ≠ some j := by
  unfold SetTable.freeSlot at e
  cases hp : t.probe (fun _ => h + 1) h (t.probeStart h) with
  | none => rw [hp] at e; cases e
  | some m =>
    rw [hp] at e
    cases m with
    | candidate a b c => cases e
    | empty j' dm =>
      obtain ⟨h1, h2⟩ := probe_go t _ h _ _ j' dm (fun d hd => by cases hd) hp
      simp only [Option.some.injEq, Prod.mk.injEq] at e
      cases dm with
      | none => simp only [Option.getD_none] at e; rw [← e.1]; exact slot_free (.inl h1)
      | some d => simp only [Option.getD_some] at e; rw [← e.1]; exact slot_free (.inr (h2 d rfl))
theorem orStandIn_up {t : SetTable} (n : Nat) (u : Up t.place) : Up (t.orStandIn n).place := by
  unfold SetTable.orStandIn
  split
  · exact u
  · exact up_range n
theorem orStandIn_led {t : SetTable} (n : Nat) : (t.orStandIn n).led = t.led := by
  unfold SetTable.orStandIn
  split <;> rfl
theorem layNew_up {t : SetTable} (es : Array (Int × Value)) (h : Int) (x : Value) (u : Up t.place) : Up (layNew t es h x).2.1.place ∧ (layNew t es h x).2.1.led = t.led := by
  unfold layNew
  split
  · rename_i j b e
    exact ⟨orStandIn_up _ (up_insert u (free_slot e)), orStandIn_led _⟩
  · exact ⟨up_range _, rfl⟩
theorem laid_up {mask finger moves : Nat} {led plain : Bool} {hs : Array Int} {t : SetTable} {o : Array Nat} (e : SetTable.laid mask finger moves led plain hs = some (t, o)) : Up t.place ∧ t.led = led := by
  unfold SetTable.laid at e
  cases hl : SetTable.layClean mask hs with
  | none => rw [hl] at e; cases e
  | some ow =>
    rw [hl] at e
    simp only [Option.bind_eq_bind, Option.bind_some, Option.pure_def, Option.some.injEq, Prod.mk.injEq] at e
    obtain ⟨rfl, _⟩ := e
    refine ⟨?_, rfl⟩
    unfold Up
    simp only [List.toList_toArray]
    rw [List.pairwise_map, List.pairwise_filterMap]
    refine List.pairwise_lt_range.imp ?_
    intro a b hab x hx y hy
    obtain ⟨_, _, rfl⟩ := Option.map_eq_some_iff.mp hx
    obtain ⟨_, _, rfl⟩ := Option.map_eq_some_iff.mp hy
    exact hab
theorem relayAll_up {t : SetTable} (es : Array (Int × Value)) (wanted : Nat) : Up (relayAll t es wanted).2.1.place ∧ (relayAll t es wanted).2.1.led = t.led := by
  unfold relayAll
  split
  · rename_i t' o e
    dsimp only
    split
    · exact laid_up e
    · exact ⟨up_range _, rfl⟩
  · exact ⟨up_range _, rfl⟩
end L2

set_option Elab.async false
set_option linter.all false
set_option maxRecDepth 100000
set_option maxHeartbeats 8000000
namespace L2
open PySem PySem.Spec PyProof.Rows
section
variable {prog : Program} {w : World} {K : Type} [DecidableEq K] (knd : KeyKind prog w K)
def SetL (led : Bool) (h : Heap) (a : Addr) (S : K → Bool) (n : Nat) : Prop :=
  ∃ o es ep t, h.get? a = some o ∧ o.ExactSet ∧ o.data = .set es ep t ∧ ElemsOf knd es.toList ∧ (∀ k, S k = true ↔ ∃ e ∈ es.toList, knd.is k e.2 = true) ∧ es.size < scanBound ∧ t.fits es.size = true ∧ es.size = n ∧ Up t.place ∧ t.led = led
variable {knd}
theorem SetL.congr {led : Bool} {h : Heap} {a : Addr} {S S' : K → Bool} {n n' : Nat} (x : SetL knd led h a S n) (e : ∀ k, S k = S' k) (en : n = n') : SetL knd led h a S' n' := by
  obtain ⟨o, es, ep, t, h1, h2, h3, h4, h5, r⟩ := x
  subst en
  exact ⟨o, es, ep, t, h1, h2, h3, h4, fun k => by rw [← e k]; exact h5 k, r⟩
theorem SetL.at_ {led : Bool} {h h' : Heap} {a : Addr} {S : K → Bool} {n : Nat} (x : SetL knd led h a S n) (k : ∀ o, h.get? a = some o → h'.get? a = some o) : SetL knd led h' a S n := by
  obtain ⟨o, es, ep, t, ho, r⟩ := x
  exact ⟨o, es, ep, t, k _ ho, r⟩
theorem SetL_store {h : Heap} {a : Addr} {o : Obj} {es : Array (Int × Value)} {ep : Nat} {t : SetTable} (ho : h.get? a = some o) (hex : o.ExactSet) (hd : o.data = .set es ep t)
    {es' : Array (Int × Value)} {t' : SetTable} {S' : K → Bool} (hel : ElemsOf knd es'.toList) (hmem : ∀ k, S' k = true ↔ ∃ e ∈ es'.toList, knd.is k e.2 = true) (hb : es'.size < scanBound) (hf : t'.fits es'.size = true) (hu : Up t'.place) {led : Bool} (hl : t'.led = led) :
    (h.update a (Obj.putSet es' t')).get? a = some { o with data := .set es' (ep + 1) t' } ∧ SetL knd led (h.update a (Obj.putSet es' t')) a S' es'.size := by
  obtain ⟨h1, _⟩ := SetOf_store (knd := knd) ho hex hd hel hmem hb hf
  exact ⟨h1, _, es', ep + 1, t', h1, hex, rfl, hel, hmem, hb, hf, rfl, hu, hl⟩
variable {A : Around} {E : Value → Shared → Prop} {s : Shared}

theorem stored_twice {a : Addr} {o : Obj} {es es1 : Array (Int × Value)} {ep : Nat} {t t2 : SetTable} {S' : K → Bool} {led : Bool} {c : Bool} {gave : Bool → Sem Unit} (hgave : ∀ b, (∃ r, gave b = rule r) ∨ gave b = pure ())
    (ho : s.heap.get? a = some o) (hex : o.ExactSet) (hd : o.data = .set es ep t) (el : ElemsOf knd es1.toList) (mm : ∀ k, S' k = true ↔ ∃ e ∈ es1.toList, knd.is k e.2 = true) (hb : es1.size < scanBound) (hf : t2.fits es1.size = true) (hu : Up t2.place) (hl : t2.led = led)
    {R : Option Bool → Shared → Prop} (q : ∀ h', Heap.SameBut a s.heap h' → SetL knd led h' a S' es1.size → R (some true) { s with heap := h' }) :
    wpAny (model prog w) A (storeSet a es1 t2 >>= fun _ => if c = true then (gave (relayAll t2 es1 (SetTable.grown es1.size)).2.2 >>= fun _ => storeSet a (relayAll t2 es1 (SetTable.grown es1.size)).1 (relayAll t2 es1 (SetTable.grown es1.size)).2.1 >>= fun _ => pure (some true)) else pure (some true)) R E s := by
  have st1 := SetL_store (knd := knd) ho hex hd el mm hb hf hu hl
  have sb1 := Heap.SameBut.update s.heap a (Obj.putSet es1 t2)
  refine wpAny_bind (wpAny_storeSet_of ho hd ?_ (fits_of_scanBound hb))
  by_cases e : c = true
  rotate_left
  · rw [if_neg e]
    exact wpAny_pure (q _ sb1 st1.2)
  rw [if_pos e]
  have pr := relayAll_perm t2 es1 (SetTable.grown es1.size)
  have sz : (relayAll t2 es1 (SetTable.grown es1.size)).1.size = es1.size := by simpa using pr.length_eq
  have ur := relayAll_up (t := t2) es1 (SetTable.grown es1.size)
  have st2 := SetL_store (knd := knd) (S' := S') st1.1 hex rfl (el.perm pr) (fun k => by rw [mm k]; exact exists_congr fun e => and_congr_left fun _ => pr.mem_iff.symm) (by rw [sz]; exact hb) (relayAll_fits t2 es1 (SetTable.grown es1.size)) ur.1 (ur.2.trans hl)
  rw [sz] at st2
  have on : wpAny (model prog w) A (storeSet a (relayAll t2 es1 (SetTable.grown es1.size)).1 (relayAll t2 es1 (SetTable.grown es1.size)).2.1 >>= fun _ => pure (some true)) R E { s with heap := s.heap.update a (Obj.putSet es1 t2) } :=
    wpAny_bind (wpAny_storeSet_of st1.1 rfl (wpAny_pure (q _ (sb1.trans (Heap.SameBut.update _ a _)) st2.2)) (fits_of_scanBound (by rw [sz]; exact hb)))
  rcases hgave (relayAll t2 es1 (SetTable.grown es1.size)).2.2 with ⟨r, e⟩ | e
  · rw [e]; exact wpAny_bind (wpAny_rule on)
  · rw [e]; exact wpAny_bind (wpAny_pure on)
theorem setAddL {a : Addr} {S : K → Bool} {n : Nat} {k : K} {x : Value} {led : Bool} {Q : Bool → Shared → Prop} (hk : knd.is k x = true) (hx : x.scannable = true) (hS : SetL knd led s.heap a S n) (room : n + 1 < scanBound)
    (q : ∀ h', Heap.SameBut a s.heap h' → SetL knd led h' a (fun y => S y || decide (y = k)) (if S k then n else n + 1) → Q (!S k) { s with heap := h' }) : wpAny (model prog w) A (setAddHashed a x (knd.hash k)) Q E s := by
  have hS0 := hS
  obtain ⟨o, es, ep, t, ho, hex, hd, el, mm, hb, hf, rfl, hu, hl⟩ := hS
  unfold setAddHashed setAddHashedIn setAddByScan
  refine wpAny_holding (wpAny_bind (wpAny_setState_of ho hd hf ?_))
  dsimp only
  rw [if_pos (byScan_of hx hb el)]
  refine wpAny_bind (wpAny_bind (wpAny_rule (wpAny_bind (wpAny_setScan_of hk ho hd hf el ?_))))
  cases hr : List.findIdx? (fun e => knd.is k e.2) es.toList with
  | none =>
    have no : S k = false := by
      refine Bool.eq_false_iff.mpr fun yes => ?_
      obtain ⟨e, he, ie⟩ := (mm k).mp yes
      exact absurd ie (Bool.eq_false_iff.mp (List.findIdx?_eq_none_iff.mp hr e he))
    have pr : List.Perm (layNew t es (knd.hash k) x).1.toList (es.toList ++ [(knd.hash k, x)]) := by rw [← Array.toList_push]; exact layNew_perm t es (knd.hash k) x
    have fi := layNew_fits t es (knd.hash k) x
    have up := layNew_up (t := t) es (knd.hash k) x hu
    have sz : (layNew t es (knd.hash k) x).1.size = es.size + 1 := by simpa using pr.length_eq
    generalize layNew t es (knd.hash k) x = L at pr fi up sz ⊢
    obtain ⟨es1, t1, wd, gv⟩ := L
    dsimp only at pr fi up sz ⊢
    have fin : ∀ h', Heap.SameBut a s.heap h' → SetL knd led h' a (fun y => S y || decide (y = k)) es1.size → Q true { s with heap := h' } := fun h' sb st => by
      rw [sz] at st
      have := q h' sb
      rw [no] at this
      exact this st
    cases gv <;> cases e : t1.plain
    · refine wpAny_bind (wpAny_pure ?_)
      rw [if_neg Bool.false_ne_true]
      refine wpAny_bind (wpAny_pure ?_)
      refine stored_twice (led := led) (fun c => by cases c; exact .inr rfl; exact .inl ⟨_, rfl⟩) ho hex hd ((el.push hk hx).perm pr) (mem_push_iff hk mm pr) (by rw [sz]; exact room) (by first | exact fi | (split; exact fi; exact SetTable.fits_plain_off fi)) (by first | exact up.1 | (split <;> exact up.1)) (by first | exact up.2.trans hl | (split <;> exact up.2.trans hl)) fun h' sb st => wpAny_pure (fin h' sb st)
    · refine wpAny_bind (wpAny_pure ?_)
      rw [if_pos rfl, hashByValue_scannable 8 hx]
      refine wpAny_bind (wpAny_pure ?_)
      refine stored_twice (led := led) (fun c => by cases c; exact .inr rfl; exact .inl ⟨_, rfl⟩) ho hex hd ((el.push hk hx).perm pr) (mem_push_iff hk mm pr) (by rw [sz]; exact room) (by first | exact fi | (split; exact fi; exact SetTable.fits_plain_off fi)) (by first | exact up.1 | (split <;> exact up.1)) (by first | exact up.2.trans hl | (split <;> exact up.2.trans hl)) fun h' sb st => wpAny_pure (fin h' sb st)
    · refine wpAny_bind (wpAny_rule ?_)
      rw [if_neg Bool.false_ne_true]
      refine wpAny_bind (wpAny_pure ?_)
      refine stored_twice (led := led) (fun c => by cases c; exact .inr rfl; exact .inl ⟨_, rfl⟩) ho hex hd ((el.push hk hx).perm pr) (mem_push_iff hk mm pr) (by rw [sz]; exact room) (by first | exact fi | (split; exact fi; exact SetTable.fits_plain_off fi)) (by first | exact up.1 | (split <;> exact up.1)) (by first | exact up.2.trans hl | (split <;> exact up.2.trans hl)) fun h' sb st => wpAny_pure (fin h' sb st)
    · refine wpAny_bind (wpAny_rule ?_)
      rw [if_pos rfl, hashByValue_scannable 8 hx]
      refine wpAny_bind (wpAny_pure ?_)
      refine stored_twice (led := led) (fun c => by cases c; exact .inr rfl; exact .inl ⟨_, rfl⟩) ho hex hd ((el.push hk hx).perm pr) (mem_push_iff hk mm pr) (by rw [sz]; exact room) (by first | exact fi | (split; exact fi; exact SetTable.fits_plain_off fi)) (by first | exact up.1 | (split <;> exact up.1)) (by first | exact up.2.trans hl | (split <;> exact up.2.trans hl)) fun h' sb st => wpAny_pure (fin h' sb st)
  | some j =>
    obtain ⟨hj, ij, _⟩ := List.findIdx?_eq_some_iff_getElem.mp hr
    have yes : S k = true := (mm k).mpr ⟨_, List.getElem_mem hj, ij⟩
    refine wpAny_pure (wpAny_pure ?_)
    have := q s.heap (Heap.SameBut.refl a s.heap)
    rw [yes] at this
    refine this (hS0.congr (fun y => ?_) rfl)
    by_cases hy : y = k
    · subst hy; rw [yes]; rfl
    · simp [hy]
end
end L2

set_option Elab.async false
set_option linter.all false
set_option maxRecDepth 100000
set_option maxHeartbeats 8000000
namespace L2
open PySem PySem.Spec PyProof.Rows
section
variable {K : Type} [DecidableEq K]
def addG (acc : List K) (x : K) : List K := if x ∈ acc then acc else acc ++ [x]
def metG (l : List K) : List K := l.foldl addG []
theorem metG_snoc (l : List K) (x : K) : metG (l ++ [x]) = addG (metG l) x := by unfold metG; rw [List.foldl_append]; rfl
theorem addG_len (acc : List K) (x : K) : (addG acc x).length ≤ acc.length + 1 := by unfold addG; split <;> simp
theorem metG_take_len (l : List K) : ∀ i, (metG (l.take i)).length ≤ i
  | 0 => by simp [metG]
  | i + 1 => by
    have ih := metG_take_len l i
    cases h : l[i]? with
    | none =>
      have : l.length ≤ i := List.getElem?_eq_none_iff.mp h
      rw [List.take_of_length_le (by omega)]
      rw [List.take_of_length_le this] at ih
      omega
    | some x =>
      rw [List.take_succ, h]
      show (metG (l.take i ++ [x])).length ≤ i + 1
      rw [metG_snoc]
      have := addG_len (metG (l.take i)) x
      omega
theorem metG_len (l : List K) : (metG l).length ≤ l.length := by
  have := metG_take_len l l.length
  rwa [List.take_length] at this
theorem metG_nodup (l : List K) : (metG l).Nodup := by
  suffices ∀ (l acc : List K), acc.Nodup → (l.foldl addG acc).Nodup from this l [] .nil
  intro l
  induction l with
  | nil => exact fun _ h => h
  | cons x l ih =>
    intro acc h
    refine ih _ ?_
    unfold addG
    split
    · exact h
    · rename_i hx
      exact List.nodup_append.mpr ⟨h, by simp, fun a ha b hb => by rw [List.mem_singleton.mp hb]; exact fun e => hx (e ▸ ha)⟩
theorem metG_mem (l : List K) (x : K) : x ∈ metG l ↔ x ∈ l := by
  suffices ∀ (l acc : List K), x ∈ l.foldl addG acc ↔ x ∈ acc ∨ x ∈ l by have := this l []; simpa [metG] using this
  intro l
  induction l with
  | nil => intro acc; simp
  | cons y l ih =>
    intro acc
    rw [List.foldl_cons, ih]
    unfold addG
    by_cases hy : y ∈ acc
    · rw [if_pos hy]
      constructor
      · rintro (h | h)
        · exact .inl h
        · exact .inr (.tail _ h)
      · rintro (h | h)
        · exact .inl h
        · rcases List.mem_cons.mp h with rfl | h
          · exact .inl hy
          · exact .inr h
    · rw [if_neg hy, List.mem_append, List.mem_singleton, List.mem_cons]
      constructor
      · rintro ((h | h) | h)
        · exact .inl h
        · exact .inr (.inl h)
        · exact .inr (.inr h)
      · rintro (h | h | h)
        · exact .inl (.inl h)
        · exact .inl (.inr h)
        · exact .inr h
def KeysAre {prog : Program} {w : World} (knd : KeyKind prog w K) (items : Array Value) (ks : List K) : Prop := items.size = ks.length ∧ ∀ (i : Nat) (k : K), ks[i]? = some k → ∃ v, items[i]? = some v ∧ knd.is k v = true ∧ v.scannable = true
end

section
variable {prog : Program} {w : World} {K : Type} [DecidableEq K] {knd : KeyKind prog w K} {led : Bool}
theorem set_stepL {h : Heap} {S : Addr} {acc : List K} {x : K} (hs : SetL knd led h S (fun k => decide (k ∈ acc) || decide (k = x)) (if decide (x ∈ acc) = true then acc.length else acc.length + 1)) :
    SetL knd led h S (fun k => decide (k ∈ addG acc x)) (addG acc x).length := by
  refine SetL.congr hs (fun k => ?_) ?_
  · unfold addG
    by_cases hx : x ∈ acc
    · rw [if_pos hx]
      by_cases hk : k = x
      · subst hk; simp [hx]
      · simp [hk]
    · rw [if_neg hx]
      rw [Bool.eq_iff_iff]
      simp
  · unfold addG
    by_cases hx : x ∈ acc
    · rw [if_pos hx, if_pos (by simpa using hx)]
    · rw [if_neg hx, if_neg (by simpa using hx), List.length_append]; rfl

theorem set_loopL {A : Around} {R : Result → Shared → Prop} {I S l : Addr} {items : Array Value} {ss : List K} (hh : A.in1.handled = none) (hIl : l ≠ I) (hSI : S ≠ I) (hSl : S ≠ l) (hss : KeysAre knd items ss) (hb : items.size + 1 < scanBound) :
    ∀ (k i : Nat) (s : Shared), items.size - i = k → i ≤ items.size → s.heap.IsListIter I l i → s.heap.IsList l items → SetL knd led s.heap S (fun x => decide (x ∈ metG (ss.take i))) (metG (ss.take i)).length →
      (∀ h' tk, (∀ b o, b ≠ S → b ≠ I → s.heap.get? b = some o → h'.get? b = some o) → SetL knd led h' S (fun x => decide (x ∈ metG ss)) (metG ss).length → R (.ok (.ret .none)) { s with heap := h', toks := tk }) →
      codeAny (model prog w) A (.builtin "set.update.loop" ⟨[.ref S, .ref I], []⟩) R s := by
  have hlen : items.size = ss.length := hss.1
  intro k
  induction k with
  | zero =>
    intro i s hk hi hit hl hS hR
    have e : i = items.size := by omega
    subst e
    refine codeAny_builtin PyProof.Rows.F.entry_set_update_loop ?_
    rw [Around.under_plainId PyProof.Rows.F.plain_set_update_loop _]
    refine wpAny_bind (wpAny_pyNext_list_end hh hit hl (by simp) fun h' eb => ?_)
    rw [hlen, List.take_length] at hS
    refine wpAny_pure (hR h' s.toks (fun b o _ hb e => eb b o hb e) ?_)
    obtain ⟨o, es, ep, t, ho, rest⟩ := hS
    exact ⟨o, es, ep, t, eb S o hSI ho, rest⟩
  | succ k ih =>
    intro i s hk hi hit hl hS hR
    have hlt : i < items.size := by omega
    obtain ⟨x, hx⟩ : ∃ x, ss[i]? = some x := ⟨ss[i]'(by omega), List.getElem?_eq_getElem (by omega)⟩
    obtain ⟨v, ht, hv, hsc⟩ := hss.2 i x hx
    refine codeAny_builtin PyProof.Rows.F.entry_set_update_loop ?_
    rw [Around.under_plainId PyProof.Rows.F.plain_set_update_loop _]
    refine wpAny_bind (wpAny_pyNext_list_item hit hl ht fun h' hit' sb => ?_)
    have hS' : SetL knd led h' S (fun x => decide (x ∈ metG (ss.take i))) (metG (ss.take i)).length := by
      obtain ⟨o, es, ep, tb, ho, rest⟩ := hS
      exact ⟨o, es, ep, tb, (sb.2 S hSI).trans ho, rest⟩
    show wpAny _ A.in1 (holding [v] (setAdd S (v)) >>= _) _ _ _
    refine wpAny_bind (wpAny_holding ?_)
    unfold setAdd
    refine wpAny_holding (wpAny_bind (knd.pyHash (k := x) hv ?_))
    have hroom : (metG (ss.take i)).length + 1 < scanBound := by have := metG_take_len ss i; omega
    refine setAddL (knd := knd) hv hsc hS' hroom fun h2 hsb hS2 => ?_
    have hS3 := set_stepL hS2
    have et : metG (ss.take (i + 1)) = addG (metG (ss.take i)) x := by rw [List.take_succ, hx]; exact metG_snoc _ _
    rw [← et] at hS3
    refine wpAny_pure ⟨plainId_quiet PyProof.Rows.F.plain_set_update_loop _, ih (i + 1) _ (by omega) hlt ?_ ?_ hS3 fun h3 tk kk hS4 => ?_⟩
    · exact hit'.at fun o e => (hsb.2 I (Ne.symm hSI)).trans e
    · exact hl.at fun o e => (hsb.2 l (Ne.symm hSl)).trans ((sb.2 l hIl).trans e)
    · exact hR h3 tk (fun b o h1 h2' e => kk b o h1 h2' ((hsb.2 b h1).trans ((sb.2 b h2').trans e))) hS4
end
end L2

set_option Elab.async false
set_option linter.all false
set_option maxRecDepth 100000
set_option maxHeartbeats 8000000
namespace L2
open PySem PySem.Spec PyProof.Rows
def ledOf (w : World) : Bool := !w.params.followText "set-order"
section
variable {prog : Program} {w : World} {A : Around} {E : Value → Shared → Prop} {s : Shared}
theorem code_set_new_1L (a : Value) {G : Value → Shared → Prop} (g : G (.ref s.heap.objs.size) { s with heap := s.heap.push { cls := .type "set", dict := none, data := .set #[] 0 (.fresh 0 0 (ledOf w)) } }) :
    codeAny (model prog w) A (.call (.builtin "set.__new__") ⟨[.type "set", a], []⟩) (wants G E) s := by
  have made : wpAny (model prog w) A.in1 (Builtin.«set.__new__» ⟨[.type "set", a], []⟩) (fun fin s' => match fin with | .done f => wants G E (.ok f) s' | .again c => c.quiet = true ∧ codeAny (model prog w) A.in1 c (wants G E) s') (fun e s' => wants G E (.error e) s') s := by
    have up := sub_set_self
    obtain ⟨hp, gs, d, tk, os⟩ := s
    unfold Builtin.«set.__new__» Builtin.Frozenset.newClass
    dsimp only
    wp_walk
    refine wpAny_askSetting (wpAny_pure ?_)
    simp only [newObj]
    exact wpAny_bind (wpAny_alloc (wpAny_pure (wpAny_pure g)))
  refine codeAny_of_tree (wpAny_bind (wpAny_of_eq (F.newCall_set_1 a) (wpAny_pure ⟨plainId_quiet F.plain_set_new _, ?_⟩)))
  refine codeAny_builtin F.entry_set_new ?_
  rw [Around.under_plainId F.plain_set_new _]
  exact made

theorem set_madeL {K : Type} [DecidableEq K] {knd : KeyKind prog w K} {l : Addr} {items : Array Value} {ss : List K} {Q : Value → Shared → Prop} (hh : A.handled = none) (hl : s.heap.IsList l items) (hss : KeysAre knd items ss) (hb : items.size + 1 < scanBound)
    (h : ∀ h' tk, (∀ b o, s.heap.get? b = some o → h'.get? b = some o) → SetL knd (ledOf w) h' s.heap.objs.size (fun x => decide (x ∈ metG ss)) (metG ss).length → Q (.ref s.heap.objs.size) { s with heap := h', toks := tk }) :
    wpAny (model prog w) A (call (.type "set") [.ref l]) Q E s := by
  refine type_made (Q1 := fun obj s1 => ∃ led : Bool, led = ledOf w ∧ obj = .ref s.heap.objs.size ∧ s1 = { s with heap := s.heap.push { cls := .type "set", dict := none, data := .set #[] 0 (.fresh 0 0 led) } }) F.called_set (F.typeCall_set_1 _) F.entry_set_init (code_set_new_1L (.ref l) ⟨ledOf w, rfl, rfl, rfl⟩) ?_ ?_
  · rintro obj s1 ⟨led, hled, rfl, rfl⟩
    have hT : Shared.TypeIs { s with heap := s.heap.push { cls := .type "set", dict := none, data := .set #[] 0 (.fresh 0 0 led) } } (.ref s.heap.objs.size) "set" := ⟨_, Heap.get?_push_size _ rfl, rfl⟩
    exact ⟨hT, fun E' => check_set_init_1 hT rfl⟩
  · rintro obj s1 ⟨led, hled, rfl, rfl⟩
    have hlt : l < s.heap.objs.size := by obtain ⟨_, e, _⟩ := hl; exact Heap.lt_size e
    obtain ⟨⟨oc, od, odt, osl⟩, hol, hcl, nl, hdl⟩ := id hl
    simp only at hcl hdl
    subst hcl; subst hdl
    have hol' : (s.heap.push { cls := .type "set", dict := none, data := .set #[] 0 (.fresh 0 0 led) }).get? l = some { cls := .type "list", dict := od, data := .seq items nl, slots := osl } := Heap.get?_push_of_some _ hol
    have hS : (s.heap.push { cls := .type "set", dict := none, data := .set #[] 0 (.fresh 0 0 led) }).get? s.heap.objs.size = some { cls := .type "set", dict := none, data := .set #[] 0 (.fresh 0 0 led) } := Heap.get?_push_size _ rfl
    have hl1 : (s.heap.push { cls := .type "set", dict := none, data := .set #[] 0 (.fresh 0 0 led) }).IsList l items := ⟨_, hol', rfl, nl, rfl⟩
    have hsls := F.sub_list_set; have hslf := F.sub_list_frozenset
    have hne : (Value.type "list" == Value.type "dict") = false := by decide
    unfold Builtin.«set.__init__» noKeywords Builtin.Frozenset.updateFrom
    generalize hPI : pyIter = PI
    wp_walk
    subst hPI
    refine wpAny_pyIter_list hl1 (wpAny_bind (wpAny_runValue ?_))
    have hz : (s.heap.push { cls := .type "set", dict := none, data := .set #[] 0 (.fresh 0 0 led) }).objs.size = s.heap.objs.size + 1 := Heap.size_push ..
    refine set_loopL (knd := knd) (led := led) (l := l) (items := items) (ss := ss) (by simp [hh]) (by rw [hz]; exact Nat.ne_of_lt (Nat.lt_succ_of_lt hlt)) (by rw [hz]; exact Nat.ne_of_lt (Nat.lt_succ_self _)) (Nat.ne_of_gt hlt) hss hb (items.size - 0) 0 _ (by omega) (Nat.zero_le _) ⟨_, Heap.get?_push_size _ rfl, rfl, rfl⟩ (hl1.push _) ?_ ?_
    · exact ⟨_, #[], 0, _, Heap.get?_push_of_some _ hS, ⟨rfl, rfl, rfl⟩, rfl, fun e he => by simp at he, fun k => by simp [metG], by decide, by rfl, rfl, List.Pairwise.nil, rfl⟩
    · intro h' tk kk hS'
      subst hled
      refine wpAny_pure (wpAny_pure ⟨rfl, h h' tk (fun b o e => ?_) hS'⟩)
      have hlb := Heap.lt_size e
      exact kk b o (Nat.ne_of_lt hlb) (by rw [hz]; exact Nat.ne_of_lt (Nat.lt_succ_of_lt hlb)) (Heap.get?_push_of_some _ (Heap.get?_push_of_some _ e))
end
end L2

set_option Elab.async false
set_option linter.all false
set_option maxRecDepth 100000
set_option maxHeartbeats 8000000
namespace L2
open PySem PySem.Spec PyProof.Rows
theorem sw_slot_next : Slot "set_iterator" "__next__" "set_iterator.__next__" :=
  .of (owner := "set_iterator") (n := "__next__") (by rw [typeLookup_type, builtinLookup_eq_fast]; kernel_rfl) (by decide +kernel) (by decide +kernel) (by decide +kernel)
    (by first | exact .inl (by decide +kernel) | exact .inr (by decide +kernel)) (by rw [isSubtype_type]; kernel_rfl)
theorem sw_slot_iter : Slot "set_iterator" "__iter__" "set_iterator.__iter__" :=
  .of (owner := "set_iterator") (n := "__iter__") (by rw [typeLookup_type, builtinLookup_eq_fast]; kernel_rfl) (by decide +kernel) (by decide +kernel) (by decide +kernel)
    (by first | exact .inl (by decide +kernel) | exact .inr (by decide +kernel)) (by rw [isSubtype_type]; kernel_rfl)
theorem sw_entry_next : entryFor table "set_iterator.__next__" = some Builtin.«set_iterator.__next__» := entryFor_of_tree (by kernel_rfl)
theorem sw_entry_iter : entryFor table "set_iterator.__iter__" = some Builtin.«dict_keyiterator.__iter__» :=
  entryFor_alias (id' := "dict_keyiterator.__iter__") (by kernel_rfl) rfl (by decide +kernel) (by kernel_rfl)
theorem sw_entry_set_iter : entryFor table "set.__iter__" = some Builtin.«frozenset.__iter__» :=
  entryFor_alias (id' := "frozenset.__iter__") (by kernel_rfl) rfl (by decide +kernel) (by kernel_rfl)
theorem sw_owner : Manifest.owners.lookup (String.ofList ['r', 'o', 't', 'a', 'r', 'e', 't', 'i', '_', 't', 'e', 's'].reverse) = some Manifest.sig_set_iterator := by kernel_rfl
theorem sw_args_next (a : Value) : argsOk "set_iterator.__next__" ⟨[a], []⟩ := by
  unfold argsOk; rw [signature?_of (id := "set_iterator.__next__") (n := ['_', '_', 't', 'x', 'e', 'n', '_', '_']) (o := ['r', 'o', 't', 'a', 'r', 'e', 't', 'i', '_', 't', 'e', 's']) (by kernel_rfl) sw_owner]; kernel_rfl
theorem sw_args_iter (a : Value) : argsOk "set_iterator.__iter__" ⟨[a], []⟩ := by
  unfold argsOk; rw [signature?_of (id := "set_iterator.__iter__") (n := ['_', '_', 'r', 'e', 't', 'i', '_', '_']) (o := ['r', 'o', 't', 'a', 'r', 'e', 't', 'i', '_', 't', 'e', 's']) (by kernel_rfl) sw_owner]; kernel_rfl

/-! ### orders -/
theorem erase_perm {α : Type} : ∀ (l : List α) (i : Nat) (h : i < l.length), (l[i] :: l.eraseIdx i).Perm l
  | x :: l, 0, h => List.Perm.refl _
  | x :: l, i + 1, h => by
    show (l[i]'(by simpa using h) :: x :: l.eraseIdx i).Perm (x :: l)
    exact (List.Perm.swap x _ _).trans ((erase_perm l i (by simpa using h)).cons x)
theorem pick_go {α : Type} (next : Nat → Nat) : ∀ (fuel k : Nat) (left : List α) (out : Array α), left.length = fuel → (pickOrder.go next fuel k left out).toList.Perm (out.toList ++ left)
  | 0, k, left, out, h => by
    have e : left = [] := List.length_eq_zero_iff.mp h
    subst e
    show out.toList.Perm _
    rw [List.append_nil]
  | fuel + 1, k, left, out, h => by
    have hlt : next k % left.length < left.length := Nat.mod_lt _ (by omega)
    show (match left[next k % left.length]? with | some x => pickOrder.go next fuel (k + 1) (left.eraseIdx (next k % left.length)) (out.push x) | none => out).toList.Perm _
    rw [List.getElem?_eq_getElem hlt]
    dsimp only
    refine (pick_go next fuel (k + 1) _ _ (by rw [List.length_eraseIdx_of_lt hlt]; omega)).trans ?_
    rw [Array.toList_push, List.append_assoc]
    exact List.Perm.append_left _ (erase_perm _ _ hlt)
theorem pick_perm {α : Type} (next : Nat → Nat) (xs : Array α) : (pickOrder next xs).toList.Perm xs.toList := by
  have := pick_go next xs.size 0 xs.toList #[] (by simp)
  simpa [pickOrder] using this
section
variable {prog : Program} {w : World} {A : Around} {E : Value → Shared → Prop} {s : Shared}
theorem wpAny_choose' {M : Model} {src : Source} {n : Nat} (hn : n ≠ 0) {Q : Nat → Shared → Prop} (h : ∀ i d, i < n → Q i { s with drawn := d }) : wpAny M A (choose src n) Q E s := by
  intro Γ p hΓ
  show Sem.wp M Γ (.choose src n .pure) _ _ p s
  rw [Sem.wp_choose]
  exact ⟨hn, h _ _ (Nat.mod_lt _ (by omega))⟩
theorem wpAny_drawOrder {M : Model} {α : Type} : ∀ (n : Nat) (xs : List α) (s : Shared) (Q : List α → Shared → Prop), xs.length = n → (∀ ys d, ys.Perm xs → Q ys { s with drawn := d }) → wpAny M A (drawOrder n xs) Q E s
  | 0, xs, s, Q, h, q => by
    have e : xs = [] := List.length_eq_zero_iff.mp h
    subst e
    exact wpAny_pure (q [] s.drawn (List.Perm.refl _))
  | n + 1, [], s, Q, h, q => by cases h
  | n + 1, x :: xs, s, Q, h, q => by
    show wpAny M A (choose .order (x :: xs).length >>= fun i => match (x :: xs)[i]? with | some y => (do return y :: (← drawOrder n ((x :: xs).eraseIdx i))) | none => unsupported "internal:drawOrder") Q E s
    refine wpAny_bind (wpAny_choose' (by simp) fun i d hi => ?_)
    rw [List.getElem?_eq_getElem hi]
    dsimp only
    refine wpAny_bind (wpAny_drawOrder n _ _ _ (by rw [List.length_eraseIdx_of_lt hi]; omega) fun ys d' hp => ?_)
    exact wpAny_pure (q _ d' ((hp.cons _).trans (erase_perm _ _ hi)))
end
end L2

set_option Elab.async false
set_option linter.all false
set_option maxRecDepth 100000
set_option maxHeartbeats 8000000
namespace L2
open PySem PySem.Spec PyProof.Rows
def IsSI (h : Heap) (I : Addr) (first : Value) (i : Nat) (a : Addr) (n ep : Nat) : Prop := ∃ o, h.get? I = some o ∧ o.cls = .type "set_iterator" ∧ o.data = .fields #[first, .int i 0, .ref a, .int n 0, .int ep 0]
theorem IsSI.typeIs {s : Shared} {I : Addr} {f : Value} {i : Nat} {a : Addr} {n ep : Nat} (x : IsSI s.heap I f i a n ep) : s.TypeIs (.ref I) "set_iterator" := let ⟨o, ho, hc, _⟩ := x; ⟨o, ho, hc⟩
theorem IsSI.at_ {h h' : Heap} {I : Addr} {f : Value} {i : Nat} {a : Addr} {n ep : Nat} (x : IsSI h I f i a n ep) (e : ∀ o, h.get? I = some o → h'.get? I = some o) : IsSI h' I f i a n ep := let ⟨o, ho, r⟩ := x; ⟨o, e _ ho, r⟩
section
variable {prog : Program} {w : World} {A : Around} {E : Value → Shared → Prop} {s : Shared} {I a : Addr} {n ep k : Nat} {oS : Obj} {es : Array (Int × Value)} {t : SetTable}
theorem si_self {f : Value} {i : Nat} {Q : Value → Shared → Prop} (hit : IsSI s.heap I f i a n ep) (h : Q (.ref I) s) : wpAny (model prog w) A (pyIter (.ref I)) Q E s := by
  refine wpAny_pyIter_slot hit.typeIs sw_slot_iter (wpAny_call_entry sw_slot_iter hit.typeIs sw_entry_iter ?_ (sw_args_iter _))
  show wpAny _ _ (ret (.ref I)) _ _ s
  exact wpAny_pure ⟨_, rfl, "set_iterator", _, hit.typeIs, sw_slot_next.lookup, h⟩
theorem si_slot_item {sl sl' : Nat} {x : Value} {Q : Option Value → Shared → Prop} (hit : IsSI s.heap I (.int sl 0) k a n ep) (ho : s.heap.get? a = some oS) (hd : oS.data = .set es ep t) (hf : t.fits es.size = true) (hn : es.size = n)
    (hN : ∀ (A : Around) (E : Value → Shared → Prop) (Q : Option (Value × Nat) → Shared → Prop), Q (some (x, sl')) s → wpAny (model prog w) A (setNext a sl k ep) Q E s)
    (hQ : ∀ h', IsSI h' I (.int sl' 0) (k + 1) a n ep → Heap.SameBut I s.heap h' → Q (some x) { s with heap := h' }) :
    wpAny (model prog w) A (pyNext (.ref I)) Q E s := by
  obtain ⟨o, hoI, hc, hdI⟩ := id hit
  unfold pyNext
  refine wpAny_bind (wpAny_attempt (wpAny_callSpecial?_slot (name := Str.ofString "__next__") hit.typeIs sw_slot_next
    (wpAny_call_entry sw_slot_next hit.typeIs sw_entry_next ?_ (sw_args_next _))))
  show wpAny _ _ (fieldsOf (.ref I) >>= _) _ _ s
  refine wpAny_bind (wpAny_fieldsOf hoI hdI ?_)
  show wpAny _ _ (setEntries a >>= _) _ _ s
  refine wpAny_bind (wpAny_setEntries_of ho hd hf ?_)
  rw [if_neg (by rw [hn]; simp)]
  show wpAny _ _ (setNext a (Int.toNat (sl : Int)) (Int.toNat (k : Int)) (Int.toNat (ep : Int)) >>= _) _ _ s
  simp only [Int.toNat_natCast]
  refine wpAny_bind (hN _ _ _ ?_)
  dsimp only
  refine wpAny_bind (wpAny_setField hoI hdI (by simp) ?_)
  have ho1 := Heap.get?_update_self (Obj.mapFields (·.setIfInBounds 0 (rawInt (sl' : Int)))) hoI (Obj.isFreed_of_fields (Obj.data_mapFields hdI _))
  refine wpAny_bind (wpAny_setField ho1 (Obj.data_mapFields hdI _) (by simp) ?_)
  refine wpAny_pure ⟨x, rfl, wpAny_pure (hQ _ ?_ ((Heap.SameBut.update ..).trans (Heap.SameBut.update ..)))⟩
  exact ⟨_, Heap.get?_update_self _ ho1 (Obj.isFreed_of_fields (Obj.data_mapFields (Obj.data_mapFields hdI _) _)), (Obj.cls_mapFields ..).trans ((Obj.cls_mapFields ..).trans hc), by
    rw [Obj.data_mapFields (Obj.data_mapFields hdI _)]; simp [rawInt]⟩
theorem si_slot_end {sl : Nat} {Q : Option Value → Shared → Prop} (hh : A.handled = none) (hit : IsSI s.heap I (.int sl 0) k a n ep) (ho : s.heap.get? a = some oS) (hd : oS.data = .set es ep t) (hf : t.fits es.size = true) (hn : es.size = n)
    (hN : ∀ (A : Around) (E : Value → Shared → Prop) (Q : Option (Value × Nat) → Shared → Prop), Q none s → wpAny (model prog w) A (setNext a sl k ep) Q E s)
    (hQ : ∀ h', Heap.ExtBut I s.heap h' → Q none { s with heap := h' }) :
    wpAny (model prog w) A (pyNext (.ref I)) Q E s := by
  obtain ⟨o, hoI, hc, hdI⟩ := id hit
  unfold pyNext
  refine wpAny_bind (wpAny_attempt (wpAny_callSpecial?_slot (name := Str.ofString "__next__") hit.typeIs sw_slot_next
    (wpAny_call_entry sw_slot_next hit.typeIs sw_entry_next ?_ (sw_args_next _))))
  show wpAny _ _ (fieldsOf (.ref I) >>= _) _ _ s
  refine wpAny_bind (wpAny_fieldsOf hoI hdI ?_)
  show wpAny _ _ (setEntries a >>= _) _ _ s
  refine wpAny_bind (wpAny_setEntries_of ho hd hf ?_)
  rw [if_neg (by rw [hn]; simp)]
  show wpAny _ _ (setNext a (Int.toNat (sl : Int)) (Int.toNat (k : Int)) (Int.toNat (ep : Int)) >>= _) _ _ s
  simp only [Int.toNat_natCast]
  refine wpAny_bind (hN _ _ _ ?_)
  dsimp only
  refine wpAny_bind (wpAny_setField hoI hdI (by simp) ?_)
  show wpAny _ _ (newExc (.type "StopIteration") [] >>= _) _ _ _
  refine wpAny_bind ?_
  simp only [newExc, newTuple]
  refine wpAny_bind (wpAny_newObj_type ?_ (by size_fits))
  refine wpAny_bind (m := firstArgMember _ _) (wpAny_of_eq (a := Value.none) (by first | rfl | (simp only [firstArgMember]; rfl)) ?_)
  refine wpAny_newObj_type ?_ (by size_fits)
  simp only [raiseNew]
  refine wpAny_bind (wpAny_handled ?_)
  rw [show A.in1.handled = none from hh]
  refine wpAny_bind (wpAny_pure (wpAny_throw ?_))
  refine wpAny_bind (wpAny_isInstance (T := "StopIteration") (b := true) ⟨_, Heap.get?_push_size _ rfl, rfl⟩ isSubtype_stop ?_)
  exact wpAny_pure (hQ _ (((Heap.SameBut.update ..).extBut.push _).push _))
theorem si_tup_item {T : Addr} {ps : Array Value} {j : Nat} {x : Value} {hx : Int} {oT : Obj} {nT : Nat} {Q : Option Value → Shared → Prop} (hit : IsSI s.heap I (.ref T) k a n ep) (hT : s.heap.get? T = some oT) (hdT : oT.data = .seq ps nT)
    (ho : s.heap.get? a = some oS) (hd : oS.data = .set es ep t) (hf : t.fits es.size = true) (hn : es.size = n) (hp : ps[k]? = some (rawInt (j : Int))) (he : es[j]? = some (hx, x))
    (hQ : ∀ h', IsSI h' I (.ref T) (k + 1) a n ep → Heap.SameBut I s.heap h' → Q (some x) { s with heap := h' }) :
    wpAny (model prog w) A (pyNext (.ref I)) Q E s := by
  obtain ⟨o, hoI, hc, hdI⟩ := id hit
  unfold pyNext
  refine wpAny_bind (wpAny_attempt (wpAny_callSpecial?_slot (name := Str.ofString "__next__") hit.typeIs sw_slot_next
    (wpAny_call_entry sw_slot_next hit.typeIs sw_entry_next ?_ (sw_args_next _))))
  show wpAny _ _ (fieldsOf (.ref I) >>= _) _ _ s
  refine wpAny_bind (wpAny_fieldsOf hoI hdI ?_)
  show wpAny _ _ (setEntries a >>= _) _ _ s
  refine wpAny_bind (wpAny_setEntries_of ho hd hf ?_)
  rw [if_neg (by rw [hn]; simp)]
  show wpAny _ _ (seqItems? (.ref T) >>= _) _ _ s
  refine wpAny_bind (wpAny_seqItems hT hdT ?_)
  simp only [Int.toNat_natCast, hp, rawInt]
  unfold setNextDrawn
  refine wpAny_bind (wpAny_bind (wpAny_setState_of ho hd hf ?_))
  simp only [bne_self_eq_false, Bool.false_eq_true, ↓reduceIte, he]
  refine wpAny_bind (wpAny_pure ?_)
  refine wpAny_pure ?_
  refine wpAny_bind (wpAny_setField hoI hdI (by simp) ?_)
  refine wpAny_pure ⟨x, rfl, wpAny_pure (hQ _ ?_ (Heap.SameBut.update ..))⟩
  exact ⟨_, Heap.get?_update_self _ hoI (Obj.isFreed_of_fields (Obj.data_mapFields hdI _)), (Obj.cls_mapFields ..).trans hc, by
    rw [Obj.data_mapFields hdI]; simp [rawInt]⟩
theorem si_tup_end {T : Addr} {ps : Array Value} {oT : Obj} {nT : Nat} {Q : Option Value → Shared → Prop} (hh : A.handled = none) (hit : IsSI s.heap I (.ref T) k a n ep) (hT : s.heap.get? T = some oT) (hdT : oT.data = .seq ps nT)
    (ho : s.heap.get? a = some oS) (hd : oS.data = .set es ep t) (hf : t.fits es.size = true) (hn : es.size = n) (hp : ps[k]? = none)
    (hQ : ∀ h', Heap.ExtBut I s.heap h' → Q none { s with heap := h' }) :
    wpAny (model prog w) A (pyNext (.ref I)) Q E s := by
  obtain ⟨o, hoI, hc, hdI⟩ := id hit
  unfold pyNext
  refine wpAny_bind (wpAny_attempt (wpAny_callSpecial?_slot (name := Str.ofString "__next__") hit.typeIs sw_slot_next
    (wpAny_call_entry sw_slot_next hit.typeIs sw_entry_next ?_ (sw_args_next _))))
  show wpAny _ _ (fieldsOf (.ref I) >>= _) _ _ s
  refine wpAny_bind (wpAny_fieldsOf hoI hdI ?_)
  show wpAny _ _ (setEntries a >>= _) _ _ s
  refine wpAny_bind (wpAny_setEntries_of ho hd hf ?_)
  rw [if_neg (by rw [hn]; simp)]
  show wpAny _ _ (seqItems? (.ref T) >>= _) _ _ s
  refine wpAny_bind (wpAny_seqItems hT hdT ?_)
  simp only [Int.toNat_natCast, hp]
  refine wpAny_bind (wpAny_setField hoI hdI (by simp) ?_)
  have ho1 := Heap.get?_update_self (Obj.mapFields (·.setIfInBounds 0 (rawInt 0))) hoI (Obj.isFreed_of_fields (Obj.data_mapFields hdI _))
  refine wpAny_bind (wpAny_setField ho1 (Obj.data_mapFields hdI _) (by simp) ?_)
  show wpAny _ _ (newExc (.type "StopIteration") [] >>= _) _ _ _
  refine wpAny_bind ?_
  simp only [newExc, newTuple]
  refine wpAny_bind (wpAny_newObj_type ?_ (by size_fits))
  refine wpAny_bind (m := firstArgMember _ _) (wpAny_of_eq (a := Value.none) (by first | rfl | (simp only [firstArgMember]; rfl)) ?_)
  refine wpAny_newObj_type ?_ (by size_fits)
  simp only [raiseNew]
  refine wpAny_bind (wpAny_handled ?_)
  rw [show A.in1.handled = none from hh]
  refine wpAny_bind (wpAny_pure (wpAny_throw ?_))
  refine wpAny_bind (wpAny_isInstance (T := "StopIteration") (b := true) ⟨_, Heap.get?_push_size _ rfl, rfl⟩ isSubtype_stop ?_)
  exact wpAny_pure (hQ _ ((((Heap.SameBut.update ..).trans (Heap.SameBut.update ..)).extBut.push _).push _))
end
end L2

set_option Elab.async false
set_option linter.all false
set_option maxRecDepth 100000
set_option maxHeartbeats 8000000
namespace L2
open PySem PySem.Spec PyProof.Rows
theorem perm_of_nodup {K : Type} [DecidableEq K] : ∀ (L ks : List K), L.Nodup → (∀ x ∈ L, x ∈ ks) → ks.length ≤ L.length → ks.Perm L
  | [], ks, _, _, h => by
    have e : ks = [] := List.length_eq_zero_iff.mp (by simpa using h)
    rw [e]
  | x :: L, ks, hn, hs, h => by
    have hx : x ∈ ks := hs x (.head _)
    have hp := List.perm_cons_erase hx
    refine hp.trans (List.Perm.cons x (perm_of_nodup L _ (List.nodup_cons.mp hn).2 (fun y hy => ?_) ?_))
    · exact (List.mem_erase_of_ne (fun e => (List.nodup_cons.mp hn).1 (by rw [← e]; exact hy))).mpr (hs y (.tail _ hy))
    · rw [List.length_erase_of_mem hx]; simp only [List.length_cons] at h; omega
section
variable {prog : Program} {w : World} {A : Around} {E : Value → Shared → Prop} {s : Shared} {I a : Addr} {n ep k : Nat} {oS : Obj} {es : Array (Int × Value)} {t : SetTable}
theorem setNext_text (hw : ledOf w = false) (ho : s.heap.get? a = some oS) (hd : oS.data = .set es ep t) (hf : t.fits es.size = true) {sl : Nat} {Q : Option (Value × Nat) → Shared → Prop}
    (h : Q (((pickOrder (w.params.setOrder a ep) es)[k]?).map fun e => (e.2, sl)) s) : wpAny (model prog w) A (setNext a sl k ep) Q E s := by
  have hb : w.params.followText "set-order" = true := by unfold ledOf at hw; simpa using hw
  unfold setNext setsByText
  refine wpAny_bind (wpAny_setState_of ho hd hf ?_)
  refine wpAny_bind (wpAny_bind (wpAny_askSetting (wpAny_pure ?_)))
  show wpAny _ _ (if w.params.followText "set-order" = true then _ else _) _ _ s
  rw [if_pos hb]
  simp only [bne_self_eq_false, Bool.false_eq_true, ↓reduceIte]
  unfold setWalk setsByText
  refine wpAny_bind (wpAny_bind (wpAny_setState_of ho hd hf ?_))
  refine wpAny_bind (wpAny_bind (wpAny_askSetting (wpAny_pure ?_)))
  show wpAny _ _ (if w.params.followText "set-order" = true then _ else _) _ _ s
  rw [if_pos hb]
  refine wpAny_bind (wpAny_askSetting (wpAny_pure ?_))
  exact wpAny_pure h
theorem setNext_led (hw : ledOf w = true) (hl : t.led = true) (hnd : (!t.plain && decide (es.size > 1)) = false) (ho : s.heap.get? a = some oS) (hd : oS.data = .set es ep t) (hf : t.fits es.size = true) {sl : Nat} {Q : Option (Value × Nat) → Shared → Prop}
    (h : Q (match es[SetTable.below t.place sl]?, t.place[SetTable.below t.place sl]? with | some (_, x), some j => some (x, j + 1) | _, _ => none) s) : wpAny (model prog w) A (setNext a sl k ep) Q E s := by
  have hb : w.params.followText "set-order" = false := by unfold ledOf at hw; simpa using hw
  unfold setNext setsByText
  refine wpAny_bind (wpAny_setState_of ho hd hf ?_)
  refine wpAny_bind (wpAny_bind (wpAny_askSetting (wpAny_pure ?_)))
  show wpAny _ _ (if w.params.followText "set-order" = true then _ else _) _ _ s
  rw [if_neg (by rw [hb]; exact Bool.false_ne_true)]
  show wpAny _ _ (if (!t.plain && decide (es.size > 1)) = true then _ else _) _ _ s
  rw [if_neg (by rw [hnd]; exact Bool.false_ne_true)]
  show wpAny _ _ ((if (!t.led && !es.isEmpty) = true then unsupported "set:maker-not-led" else pure ()) >>= _) _ _ s
  rw [if_neg (by rw [hl]; simp)]
  refine wpAny_bind (wpAny_pure ?_)
  exact wpAny_pure h
def SIt (I a : Addr) (oS : Obj) (f : Nat → Value) (n ep : Nat) (i : Nat) (h : Heap) : Prop := IsSI h I (f i) i a n ep ∧ h.get? a = some oS
theorem walks_slot (hh : A.handled = none) (hne : a ≠ I) (hd : oS.data = .set es ep t) (hf : t.fits es.size = true) (hn : es.size = n) (sl : Nat → Nat) (vs : List Value) (hv : vs.length = n)
    (hN : ∀ (k : Nat) (s : Shared) (A : Around) (E : Value → Shared → Prop) (Q : Option (Value × Nat) → Shared → Prop), k ≤ n → s.heap.get? a = some oS → Q ((vs[k]?).map fun v => (v, sl (k + 1))) s → wpAny (model prog w) A (setNext a (sl k) k ep) Q E s) :
    Walks prog w A I [I, a] [I] n (fun k v => vs[k]? = some v) (SIt I a oS (fun i => .int (sl i) 0) n ep) where
  sub := fun b hb => by simp at hb; simp [hb]
  frame := fun i h h' st hk => ⟨st.1.at_ fun o e => hk I (by simp) o e, hk a (by simp) _ st.2⟩
  item := fun i s Q E hi st hQ => by
    have hx : vs[i]? = some (vs[i]'(by omega)) := List.getElem?_eq_getElem (by omega)
    refine si_slot_item st.1 st.2 hd hf hn (sl' := sl (i + 1)) (x := vs[i]'(by omega)) (fun A E Q q => hN i s A E Q (by omega) st.2 (by rw [hx]; exact q)) fun h' hit' sb => ?_
    exact hQ _ h' s.toks hx ⟨hit', (sb.2 a hne).trans st.2⟩ fun b o hb e => (sb.2 b (fun h => hb (by simp [h]))).trans e
  done := fun s Q E st hQ => by
    have hx : vs[n]? = none := List.getElem?_eq_none_iff.mpr (by omega)
    exact si_slot_end hh st.1 st.2 hd hf hn (fun A E Q q => hN n s A E Q (Nat.le_refl _) st.2 (by rw [hx]; exact q)) fun h' eb => hQ h' s.toks fun b o hb e => eb b o (fun h => hb (by simp [h])) e
  self := fun _ _ _ _ st hQ => si_self st.1 hQ
theorem walks_tup {T : Addr} {oT : Obj} {nT : Nat} {ps : List Nat} (hh : A.handled = none) (hne : a ≠ I) (hTne : T ≠ I) (hd : oS.data = .set es ep t) (hf : t.fits es.size = true) (hn : es.size = n) (hdT : oT.data = .seq (ps.map fun (i : Nat) => rawInt i).toArray nT) (hp : ps.length = n) (hlt : ∀ p ∈ ps, p < n) :
    Walks prog w A I [I, a, T] [I] n (fun k v => (ps.filterMap fun p => (es[p]?).map (·.2))[k]? = some v) (fun i h => SIt I a oS (fun _ => .ref T) n ep i h ∧ h.get? T = some oT) where
  sub := fun b hb => by simp at hb; simp [hb]
  frame := fun i h h' st hk => ⟨⟨st.1.1.at_ fun o e => hk I (by simp) o e, hk a (by simp) _ st.1.2⟩, hk T (by simp) _ st.2⟩
  item := fun i s Q E hi st hQ => by
    obtain ⟨p, hx⟩ : ∃ p, ps[i]? = some p := ⟨_, List.getElem?_eq_getElem (by omega)⟩
    have hj : p < es.size := by rw [hn]; exact hlt _ (List.mem_of_getElem? hx)
    obtain ⟨e, he⟩ : ∃ e, es[p]? = some e := ⟨_, Array.getElem?_eq_getElem hj⟩
    obtain ⟨e1, e2⟩ := e
    have hfm : ∀ (l : List Nat), (∀ p ∈ l, p < es.size) → ∀ (k p : Nat), l[k]? = some p → (l.filterMap fun p => (es[p]?).map (·.2))[k]? = (es[p]?).map (·.2) := by
      intro l
      induction l with
      | nil => intro _ k p h; cases h
      | cons q l ih =>
        intro hl k p h
        obtain ⟨eq, hq⟩ : ∃ e, es[q]? = some e := ⟨_, Array.getElem?_eq_getElem (hl q (.head _))⟩
        rw [List.filterMap_cons_some (b := eq.2) (by rw [hq]; rfl)]
        cases k with
        | zero => cases h; rw [hq]; rfl
        | succ k => exact ih (fun p hp => hl p (.tail _ hp)) k p h
    refine si_tup_item st.1.1 st.2 hdT st.1.2 hd hf hn (j := p) (by simp [hx]) he fun h' hit' sb => ?_
    refine hQ _ h' s.toks ?_ ⟨⟨hit', (sb.2 a hne).trans st.1.2⟩, (sb.2 T hTne).trans st.2⟩ fun b o hb e => (sb.2 b (fun h => hb (by simp [h]))).trans e
    rw [hfm ps (fun p hp => by rw [hn]; exact hlt p hp) i _ hx, he]
    rfl
  done := fun s Q E st hQ => by
    refine si_tup_end hh st.1.1 st.2 hdT st.1.2 hd hf hn ?_ fun h' eb => hQ h' s.toks fun b o hb e => eb b o (fun h => hb (by simp [h])) e
    simp [hp]
  self := fun _ _ _ _ st hQ => si_self st.1.1 hQ
end
end L2

set_option Elab.async false
set_option linter.all false
set_option maxRecDepth 100000
set_option maxHeartbeats 8000000
namespace L2
open PySem PySem.Spec PyProof.Rows PySem.W
section
variable {prog : Program} {w : World} {A : Around} {E : Value → Shared → Prop} {s : Shared} {a : Addr} {n : Nat} {K : Type} [DecidableEq K] {knd : KeyKind prog w K} {S : K → Bool}
def Drew (knd : KeyKind prog w K) (S : K → Bool) (n : Nat) (vs : List Value) : Prop := vs.length = n ∧ (∀ v ∈ vs, ∃ k, knd.is k v = true ∧ S k = true) ∧ ∀ k, S k = true → ∃ v ∈ vs, knd.is k v = true
theorem Drew.perm {vs vs' : List Value} (d : Drew knd S n vs) (p : vs'.Perm vs) : Drew knd S n vs' :=
  ⟨p.length_eq.trans d.1, fun v hv => d.2.1 v (p.mem_iff.mp hv), fun k hk => let ⟨v, hv, e⟩ := d.2.2 k hk; ⟨v, p.mem_iff.mpr hv, e⟩⟩
theorem set_iter (hh : A.handled = none) (hS : SetL knd (ledOf w) s.heap a S n) {Q : Value → Shared → Prop}
    (h : ∀ (I : Addr) (h' : Heap) d (St : Nat → Heap → Prop) (vs : List Value) (fp : List Addr), s.heap.objs.size ≤ I → (∀ b o, s.heap.get? b = some o → h'.get? b = some o) → (∀ b ∈ fp, b = a ∨ s.heap.objs.size ≤ b) → Walks prog w A I fp [I] n (fun k v => vs[k]? = some v) St → St 0 h' →
      Drew knd S n vs → Q (.ref I) { s with heap := h', drawn := d }) : wpAny (model prog w) A (pyIter (.ref a)) Q E s := by
  obtain ⟨oS, es, ep, t, ho, hex, hd, hel, hmem, hb, hf, hn, hup, hled⟩ := hS
  have hT : s.TypeIs (.ref a) "set" := ⟨oS, ho, hex.1⟩
  have hlt := Heap.lt_size ho
  have hdr : Drew knd S n (es.toList.map (·.2)) := by
    refine ⟨by rw [List.length_map, Array.length_toList]; exact hn, fun v hv => ?_, fun k hk => ?_⟩
    · obtain ⟨e, he, rfl⟩ := List.mem_map.mp hv
      obtain ⟨⟨k, hk, _⟩, _⟩ := hel e he
      exact ⟨k, hk, (hmem k).mpr ⟨e, he, hk⟩⟩
    · obtain ⟨e, he, hk'⟩ := (hmem k).mp hk
      exact ⟨e.2, List.mem_map.mpr ⟨e, he, rfl⟩, hk'⟩
  refine wpAny_pyIter_slot hT F.slot_set_iter (wpAny_call_entry F.slot_set_iter hT sw_entry_set_iter ?_ (F.args_set_iter_1 _))
  unfold Builtin.«frozenset.__iter__»
  refine wpAny_bind (wpAny_pure ?_)
  unfold Builtin.Frozenset.sizeOf
  refine wpAny_bind (wpAny_bind (wpAny_setEntries_of ho hd hf (wpAny_pure ?_)))
  unfold setDrawn setsByText
  refine wpAny_bind (wpAny_bind (wpAny_setState_of ho hd hf ?_))
  refine wpAny_bind (wpAny_bind (wpAny_askSetting (wpAny_pure ?_)))
  refine wpAny_pure ?_
  show wpAny _ _ (if (!(w.params.followText "set-order") && (!t.plain && decide (es.size > 1))) = true then _ else _) _ _ s
  by_cases hdw : (!(w.params.followText "set-order") && (!t.plain && decide (es.size > 1))) = true
  · rw [if_pos hdw]
    refine wpAny_bind (wpAny_drawOrder _ _ _ _ (by simp) fun ps d hp => ?_)
    refine wpAny_bind (wpAny_newTuple ?_ (by rw [List.length_map, hp.length_eq, List.length_range]; exact fits_of_scanBound hb))
    refine wpAny_bind (wpAny_setEpoch_of (o := oS) (Heap.get?_push_of_some _ ho) hd hf ?_)
    refine wpAny_bind (wpAny_newObj_type ?_)
    have hps : ps.length = n := by rw [hp.length_eq, List.length_range]; exact hn
    refine wpAny_pure ⟨_, rfl, "set_iterator", _, ⟨_, Heap.get?_push_size _ rfl, rfl⟩, sw_slot_next.lookup, ?_⟩
    have hz1 : (s.heap.push { cls := .type "tuple", data := .seq (ps.map fun (i : Nat) => rawInt i).toArray }).objs.size = s.heap.objs.size + 1 := Heap.size_push ..
    refine h _ _ d (fun i h => SIt _ a oS (fun _ => .ref s.heap.objs.size) n ep i h ∧ h.get? s.heap.objs.size = some _) _ _ (by rw [hz1]; omega) (fun b o e => Heap.get?_push_of_some _ (Heap.get?_push_of_some _ e)) ?_
      (walks_tup (oT := { cls := .type "tuple", data := .seq (ps.map fun (i : Nat) => rawInt i).toArray }) hh (by rw [hz1]; exact Nat.ne_of_lt (Nat.lt_succ_of_lt hlt)) (by rw [hz1]; exact Nat.ne_of_lt (Nat.lt_succ_self _)) hd hf hn rfl hps (fun p hp' => by have := List.mem_range.mp (hp.mem_iff.mp hp'); omega)) ?_ ?_
    · intro b hb
      simp only [List.mem_cons, List.not_mem_nil, or_false] at hb
      rcases hb with rfl | rfl | rfl
      · exact .inr (by rw [hz1]; omega)
      · exact .inl rfl
      · exact .inr (Nat.le_refl _)
    · refine ⟨⟨⟨_, Heap.get?_push_size _ rfl, rfl, ?_⟩, Heap.get?_push_of_some _ (Heap.get?_push_of_some _ ho)⟩, Heap.get?_push_of_some _ (Heap.get?_push_size _ rfl)⟩
      simp [rawInt, hn]
    · refine hdr.perm ?_
      have := (hp.filterMap fun p => (es[p]?).map (·.2))
      refine this.trans ?_
      have e : (List.range es.size).filterMap (fun p => (es[p]?).map (·.2)) = es.toList.map (·.2) := by
        rw [← filterMap_getElem?_range es, List.map_filterMap]
      rw [e]
  · rw [if_neg hdw]
    refine wpAny_bind (wpAny_pure ?_)
    refine wpAny_bind (wpAny_setEpoch_of (o := oS) ho hd hf ?_)
    refine wpAny_bind (wpAny_newObj_type ?_)
    refine wpAny_pure ⟨_, rfl, "set_iterator", _, ⟨_, Heap.get?_push_size _ rfl, rfl⟩, sw_slot_next.lookup, ?_⟩
    have hfp : ∀ b ∈ [s.heap.objs.size, a], b = a ∨ s.heap.objs.size ≤ b := fun b hb => by
      simp only [List.mem_cons, List.not_mem_nil, or_false] at hb
      rcases hb with rfl | rfl
      · exact .inr (Nat.le_refl _)
      · exact .inl rfl
    cases hw : ledOf w with
    | false =>
      refine h _ _ s.drawn (SIt _ a oS (fun i => .int ((fun _ => 0 : Nat → Nat) i) 0) n ep) _ _ (Nat.le_refl _) (fun b o e => Heap.get?_push_of_some _ e) hfp
        (walks_slot hh (Nat.ne_of_lt hlt) hd hf hn (fun _ => 0) ((pickOrder (w.params.setOrder a ep) es).toList.map (·.2)) (by rw [List.length_map, (pick_perm _ es).length_eq, Array.length_toList]; exact hn) fun k s A E Q _ ho' q => setNext_text hw ho' hd hf (by simpa [List.getElem?_map, Option.map_map, Function.comp_def] using q)) ?_ (hdr.perm ((pick_perm _ es).map _))
      exact ⟨⟨_, Heap.get?_push_size _ rfl, rfl, by simp [rawInt, hn]⟩, Heap.get?_push_of_some _ ho⟩
    | true =>
      have hb' : w.params.followText "set-order" = false := by unfold ledOf at hw; simpa using hw
      have hnd : (!t.plain && decide (es.size > 1)) = false := by rw [hb'] at hdw; simpa using hdw
      have hps : t.place.size = n := by simp only [SetTable.fits, Bool.and_eq_true, beq_iff_eq] at hf; omega
      have hbel : ∀ k, k ≤ n → SetTable.below t.place (if k = 0 then 0 else t.place.getD (k - 1) 0 + 1) = k := by
        intro k hk
        generalize hsl : (if k = 0 then 0 else t.place.getD (k - 1) 0 + 1) = sl
        obtain ⟨b1, b2, b3⟩ := below_is hup sl
        refine Nat.le_antisymm (Nat.le_of_not_lt fun hlt => ?_) (Nat.le_of_not_lt fun hlt => ?_)
        · have := b2 k hlt
          by_cases h0 : k = 0
          · rw [if_pos h0] at hsl; omega
          · rw [if_neg h0] at hsl
            have := hup.lt (i := k - 1) (k := k) (by omega) (by omega)
            omega
        · by_cases h0 : k = 0
          · omega
          · rw [if_neg h0] at hsl
            have := b3 (k - 1) (by omega) (by omega)
            omega
      refine h _ _ s.drawn (SIt _ a oS (fun i => .int ((fun k => if k = 0 then 0 else t.place.getD (k - 1) 0 + 1 : Nat → Nat) i) 0) n ep) _ _ (Nat.le_refl _) (fun b o e => Heap.get?_push_of_some _ e) hfp
        (walks_slot hh (Nat.ne_of_lt hlt) hd hf hn (fun k => if k = 0 then 0 else t.place.getD (k - 1) 0 + 1) (es.toList.map (·.2)) (by rw [List.length_map, Array.length_toList]; exact hn) fun k s A E Q hk ho' q => setNext_led hw (hled.trans hw) hnd ho' hd hf (by
          rw [hbel k hk]
          by_cases hkn : k < n
          · obtain ⟨e, he⟩ : ∃ e, es[k]? = some e := ⟨_, Array.getElem?_eq_getElem (by omega)⟩
            obtain ⟨p, hp⟩ : ∃ p, t.place[k]? = some p := ⟨_, Array.getElem?_eq_getElem (by omega)⟩
            rw [he, hp]
            have e1 : (es.toList.map (·.2))[k]? = some e.2 := by rw [List.getElem?_map, Array.getElem?_toList, he]; rfl
            rw [e1] at q
            simp only [Option.map_some, Nat.add_sub_cancel, Nat.succ_ne_zero, Nat.add_eq_zero_iff, Nat.one_ne_zero, and_false, ↓reduceIte, Array.getD_eq_getD_getElem?, hp, Option.getD_some] at q
            exact q
          · have e0 : es[k]? = none := Array.getElem?_eq_none_iff.mpr (by omega)
            rw [e0]
            have e1 : (es.toList.map (·.2))[k]? = none := by rw [List.getElem?_map, Array.getElem?_toList, e0]; rfl
            rw [e1] at q
            exact q)) ?_ hdr
      exact ⟨⟨_, Heap.get?_push_size _ rfl, rfl, by simp [rawInt, hn]⟩, Heap.get?_push_of_some _ ho⟩
end
end L2

set_option Elab.async false
set_option linter.all false
set_option maxRecDepth 100000
set_option maxHeartbeats 8000000
namespace L2
open PySem PySem.Spec PyProof.Rows PySem.W
theorem sw_len_lookup : typeLookup (.type "set") "__len__" = pure (some (.builtin "set.__len__")) := by rw [typeLookup_type, builtinLookup_eq_fast]; kernel_rfl
section
variable {prog : Program} {w : World} {A : Around} {E : Value → Shared → Prop} {s : Shared} {a : Addr} {n : Nat} {K : Type} [DecidableEq K] {knd : KeyKind prog w K} {S : K → Bool}
theorem sw_hint {r : Addr} {Q : Bool → Shared → Prop} (hT : s.TypeIs (.ref r) "set") (h : Q false s) : wpAny (model prog w) A (Builtin.List.listLengthHint (.ref r)) Q E s := by
  unfold Builtin.List.listLengthHint
  refine wpAny_bind (wpAny_specialOf hT sw_len_lookup ?_)
  generalize hid : ("set.__len__" : String) = id0
  wp_delta
  rw [show splitId id0 = some ("set", "__len__") from by subst hid; decide +kernel]
  subst hid
  refine wpAny_bind (wpAny_isInstance (T := "set") (b := true) hT (by rw [isSubtype_type]; kernel_rfl) ?_)
  refine wpAny_ite_split (fun hab => absurd hab (by decide)) (fun _ => ?_)
  refine wpAny_ite_split (fun _ => ?_) (fun hab => absurd (by decide +kernel) hab)
  refine wpAny_bind (wpAny_typeOf hT ?_)
  exact wpAny_pure h
theorem SetL.typeIs {led : Bool} (x : SetL knd led s.heap a S n) : s.TypeIs (.ref a) "set" := let ⟨o, _, _, _, ho, hex, _⟩ := x; ⟨o, ho, hex.1⟩
theorem SetL.lt {led : Bool} {h : Heap} (x : SetL knd led h a S n) : a < h.objs.size := let ⟨o, _, _, _, ho, _⟩ := x; Heap.lt_size ho
theorem SetL.bound {led : Bool} {h : Heap} (x : SetL knd led h a S n) : n ≤ sizeLine := let ⟨_, _, _, _, _, _, _, _, _, hb, _, hn, _⟩ := x; by rw [← hn]; exact fits_of_scanBound hb
theorem sw_extend {R : Result → Shared → Prop} (hh : A.handled = none) (hS : SetL knd (ledOf w) s.heap a S n) (D : Addr) (hDa : D ≠ a) (res : Value) (c₀ : Nat) (hD : s.heap.get? D = some { cls := .type "list", data := .seq #[] c₀ })
    (hR : ∀ h' tk d acc' c', (∀ b o, b ≠ D → s.heap.get? b = some o → h'.get? b = some o) → h'.get? D = some { cls := .type "list", dict := none, data := .seq acc' c', slots := #[] } → Drew knd S n acc'.toList → R (.ok (.ret res)) { s with heap := h', toks := tk, drawn := d }) :
    wpAny (model prog w) A.in1 (Builtin.List.listExtendWith (.ref D) (.ref a) res)
      (fun fin s' => match fin with | .done f => R (.ok f) s' | .again c' => c'.quiet = true ∧ codeAny (model prog w) A c' R s') (fun e s' => R (.error e) s') s := by
  unfold Builtin.List.listExtendWith
  refine wpAny_bind (wpAny_typeOf (T := "set") hS.typeIs ?_)
  have h1 : Builtin.List.listSameRef (.ref D) (.ref a) = false := by simp [Builtin.List.listSameRef, hDa]
  have h2 : (Value.type "set" == Value.type "list") = false := by decide
  have h3 : (Value.type "set" == Value.type "tuple") = false := by decide
  simp only [h1, h2, h3, Bool.or_false, Bool.false_eq_true, if_false]
  refine wpAny_bind (set_iter (A := A.in1) (by exact hh) hS fun I h1 d St vs fp hI hk1 hfp W st hdr => ?_)
  have hDlt := Heap.lt_size hD
  have hDf : D ∉ fp := fun hm => by
    rcases hfp D hm with e | e
    · exact hDa e
    · exact absurd hDlt (Nat.not_lt.mpr e)
  have key : ∀ (h : Heap) (c₁ tk : Nat), St 0 h → (∀ b o, b ≠ D → s.heap.get? b = some o → h.get? b = some o) →
      h.get? D = some { cls := .type "list", data := .seq #[] c₁ } → codeAny (model prog w) A (.builtin "list.extend.loop" ⟨[.ref D, .ref I, res], []⟩) R { s with heap := h, toks := tk, drawn := d } := by
    intro h c₁ tk hst hk hD₁
    refine codeAny_extend_loopS W.toS hS.bound D hDf res n 0 _ #[] c₁ rfl (Nat.zero_le _) hst hD₁ (ItemsOf.nil _) fun s' acc' c' hm hD' hacc => ?_
    rw [Moved.eq_with hm]
    refine hR s'.heap s'.toks d acc' c' (fun b o hb e => hm.heap b o (fun hmem => ?_) (hk b o hb e)) hD' ?_
    · rcases List.mem_cons.mp hmem with e' | hmem
      · exact hb e'
      · exact absurd (Heap.lt_size e) (by rw [List.mem_singleton.mp hmem]; exact Nat.not_lt.mpr hI)
    · have e : acc'.toList = vs := by
        refine List.ext_getElem? fun i => ?_
        rcases Nat.lt_or_ge i n with hi | hi
        · have hi' : i < acc'.size := by rw [hacc.1]; exact hi
          rw [Array.getElem?_toList, Array.getElem?_eq_getElem hi']
          exact (hacc.2 i _ (Array.getElem?_eq_getElem hi')).symm
        · rw [List.getElem?_eq_none_iff.mpr (by rw [Array.length_toList, hacc.1]; exact hi), List.getElem?_eq_none_iff.mpr (by rw [hdr.1]; exact hi)]
      rw [e]; exact hdr
  have hD₁ := hk1 _ _ hD
  refine wpAny_bind (wpAny_holding (sw_hint (s := { s with heap := h1, drawn := d }) (let ⟨o, ho, hc⟩ := hS.typeIs; ⟨o, hk1 _ _ ho, hc⟩) ?_))
  refine wpAny_ite_split (fun _ => ?_) (fun _ => wpAny_pure ⟨plainId_quiet PySem.F.plain_extend_loop _, key _ c₀ _ st (fun b o _ e => hk1 b o e) hD₁⟩)
  refine wpAny_bind (wpAny_rule ?_)
  refine wpAny_bind ?_
  show wpAny _ _ (updateSeq D (·.push .none) >>= fun _ => updateSeq D (·.pop)) _ _ _
  refine wpAny_bind (wpAny_updateSeq hD₁ rfl ?_)
  have hD₂ := Heap.get?_update_self (Obj.mapSeq (·.push Value.none)) hD₁ rfl
  refine wpAny_updateSeq (hz := by seq_fits) hD₂ rfl ?_
  have hD₃ := Heap.get?_update_self (Obj.mapSeq (·.pop)) hD₂ rfl
  refine wpAny_pure ⟨plainId_quiet PySem.F.plain_extend_loop _, key _ _ _ ?_ (fun b o hb e => ?_) hD₃⟩
  · refine W.frame 0 _ _ st fun b hb o e => ?_
    have hbD : b ≠ D := fun h => hDf (h ▸ hb)
    exact (Heap.get?_update_other _ _ (Ne.symm hbD)).trans ((Heap.get?_update_other _ _ (Ne.symm hbD)).trans e)
  · exact (Heap.get?_update_other _ _ (Ne.symm hb)).trans ((Heap.get?_update_other _ _ (Ne.symm hb)).trans (hk1 b o e))
theorem sw_collect {R : List Value → Shared → Prop} (hh : A.handled = none) (hS : SetL knd (ledOf w) s.heap a S n)
    (h : ∀ (h' : Heap) (tk : Nat) d (acc : Array Value), (∀ b o, s.heap.get? b = some o → h'.get? b = some o) → Drew knd S n acc.toList → R acc.toList { s with heap := h', toks := tk, drawn := d }) :
    wpAny (model prog w) A (collect (.ref a)) R E s := by
  have hlt := hS.lt
  unfold collect
  refine wpAny_bind (wpAny_runValue (codeAny_builtin entry_proto_collect' ?_))
  rw [Around.under_plainId PySem.F.plain_proto_collect _]
  show wpAny _ A.in1 (newList [] >>= fun l => again (.builtin "list.__iadd__" ⟨[l, .ref a], []⟩)) _ _ s
  refine wpAny_bind (wpAny_newObj_type ?_)
  refine wpAny_pure ⟨plainId_quiet PySem.F.plain_list_iadd _, codeAny_builtin entry_list_iadd' ?_⟩
  rw [Around.under_plainId PySem.F.plain_list_iadd _]
  have hS₁ : (s.heap.push { cls := .type "list", data := .seq ([] : List Value).toArray }).get? s.heap.objs.size = some { cls := .type "list", data := .seq #[] } := Heap.get?_push_size _ rfl
  show wpAny _ A.in1 (Builtin.List.listExtendWith (.ref s.heap.objs.size) (.ref a) (.ref s.heap.objs.size)) _ _ _
  have key := sw_extend (A := A) (s := { s with heap := s.heap.push { cls := .type "list", data := .seq ([] : List Value).toArray } })
    (R := fun (q : Result) (s' : Shared) => ∃ (h' : Heap) (tk : Nat) (d : PySem.Drawn) (acc' : Array Value) (c' : Nat), q = .ok (.ret (.ref s.heap.objs.size)) ∧ s' = { s with heap := h', toks := tk, drawn := d } ∧
      (∀ b o, s.heap.get? b = some o → h'.get? b = some o) ∧ h'.get? s.heap.objs.size = some { cls := .type "list", dict := none, data := .seq acc' c', slots := #[] } ∧ Drew knd S n acc'.toList)
    hh (hS.at_ fun o e => Heap.get?_push_of_some _ e) s.heap.objs.size (Nat.ne_of_gt hlt) (.ref s.heap.objs.size) 0 hS₁
    (fun h' tk d acc' c' hk hS' hacc => ⟨h', tk, d, acc', c', rfl, rfl, fun b o e => hk b o (Nat.ne_of_lt (Heap.lt_size e)) (Heap.get?_push_of_some _ e), hS', hacc⟩)
  refine wpAny_mono key (fun fin s' x => ?_) fun e s' x => ?_
  · cases fin with
    | done f =>
      obtain ⟨h', tk, d, acc', c', e, rfl, hk, hS', hacc⟩ := x
      cases e
      show wpAny _ A (load s.heap.objs.size >>= _) _ _ _
      refine wpAny_bind (wpAny_load hS' ?_)
      exact wpAny_pure (h h' tk d acc' hk hacc)
    | again c₁ =>
      refine ⟨x.1, codeAny_mono x.2 fun q s₂ y => ?_⟩
      obtain ⟨h', tk, d, acc', c', rfl, rfl, hk, hS', hacc⟩ := y
      show wpAny _ A (load s.heap.objs.size >>= _) _ _ _
      refine wpAny_bind (wpAny_load hS' ?_)
      exact wpAny_pure (h h' tk d acc' hk hacc)
  · obtain ⟨_, _, _, _, _, e', _⟩ := x
    cases e'
end
end L2

set_option Elab.async false
set_option linter.all false
set_option maxRecDepth 100000
set_option maxHeartbeats 8000000
namespace L2
open PySem PySem.Spec PyProof.Rows PySem.W
def SetS (P : Program) (w : World) (p : Addr) (L : List Str) : HO := .ext fun h => SetL (PySem.strKind P w) (ledOf w) h p (fun k => decide (k ∈ L)) L.length
theorem Drew.keys {prog : Program} {w : World} {K : Type} [DecidableEq K] {knd : KeyKind prog w K} {L : List K} {vs : List Value} (hn : L.Nodup) (d : Drew knd (fun k => decide (k ∈ L)) L.length vs) : ∃ ks : List K, ks.Perm L ∧ ks.length = vs.length ∧ ∀ (i : Nat) v, vs[i]? = some v → ∃ k, ks[i]? = some k ∧ knd.is k v = true := by
  obtain ⟨d1, d2, d3⟩ := d
  have h : ∀ us : List Value, (∀ v ∈ us, ∃ k, knd.is k v = true ∧ k ∈ L) → ∃ ks : List K, ks.length = us.length ∧ (∀ (i : Nat) (v : Value), us[i]? = some v → ∃ k, ks[i]? = some k ∧ knd.is k v = true) ∧ ∀ v ∈ us, ∀ k, knd.is k v = true → k ∈ ks := by
    intro us
    induction us with
    | nil => exact fun _ => ⟨[], rfl, (fun i v h => by cases h), fun v hv => by cases hv⟩
    | cons u us ih =>
      intro hu
      obtain ⟨k, hk, _⟩ := hu u (.head _)
      obtain ⟨ks, h1, h2, h3⟩ := ih fun v hv => hu v (.tail _ hv)
      refine ⟨k :: ks, by simp [h1], fun i v hv => ?_, fun v hv k' hk' => ?_⟩
      · cases i with
        | zero => cases hv; exact ⟨k, rfl, hk⟩
        | succ i => exact h2 i v hv
      · rcases List.mem_cons.mp hv with rfl | hv
        · rw [knd.inj _ _ _ hk' hk]; exact .head _
        · exact .tail _ (h3 v hv k' hk')
  obtain ⟨ks, h1, h2, h3⟩ := h vs fun v hv => let ⟨k, a, b⟩ := d2 v hv; ⟨k, a, by simpa using b⟩
  refine ⟨ks, perm_of_nodup L ks hn (fun x hx => ?_) (by omega), h1, h2⟩
  obtain ⟨v, hv, e⟩ := d3 x (by simpa using hx)
  exact h3 v hv x e
section
variable {X : Cx}
theorem call_setS (hc : X.calm = true) : CallR X (.type "set") (fun xs H Q => ∃ (a : Addr) (ss : List Str), xs = [.ref a] ∧ SqL X.K H a (ss.map V.str) ∧ ss.length ≤ 1000 ∧ ∀ p, H p = none → Q (.ref p) (upd H p (SetS X.prog X.w p (metG ss)))) := by
  intro pins s σ H xs us Q I r h
  obtain ⟨a, ss, rfl, ha, hn, q⟩ := h
  obtain ⟨u, rfl, ru⟩ := vals1 r
  cases ru
  obtain ⟨its, rv, pl, _⟩ := I.list ha
  have hl := rv.length
  rw [List.length_map] at hl
  have hk : KeysAre (PySem.strKind X.prog X.w) its.toArray ss := by
    refine ⟨by rw [List.size_toArray]; omega, fun i k hi => ?_⟩
    obtain ⟨u, hu, t, rfl⟩ := rv.get (i := i) (x := V.str k) (by rw [List.getElem?_map, hi]; rfl)
    exact ⟨.str k t, by simpa using hu, strKind_is _ _ _ _, rfl⟩
  refine set_madeL (I.ok.hd hc) pl.isList hk (by rw [List.size_toArray]; unfold scanBound; omega) fun h' tk kk hS => ?_
  have he : ∃ o, h'.get? s.heap.objs.size = some o := by obtain ⟨o, _, _, _, e, _⟩ := hS; exact ⟨o, e⟩
  exact ⟨.ref s.heap.objs.size, _, I.laid (o := SetS X.prog X.w s.heap.objs.size (metG ss)) kk (Nat.le_refl _) ⟨hS, he, fun h1 h2 x k => SetL.at_ x k⟩, rfl, q _ (I.hok.fresh (Nat.le_refl _))⟩
theorem Inv.drew {pins : List (Addr × Obj)} {σ : St} {H : Hp} {s : Shared} {d : PySem.Drawn} (I : Inv X pins σ H s) : Inv X pins σ H { s with drawn := d } :=
  ⟨I.ok, I.os, I.bare, I.base, I.loc, I.cell, I.free, I.freeC, I.pin, I.hok, I.len⟩
theorem call_sortedS (hc : X.calm = true) : CallR X (.builtin "sorted") (fun xs H Q => ∃ (d : Addr) (L : List Str), xs = [.ref d] ∧ H d = some (SetS X.prog X.w d L) ∧ L.Nodup ∧ L.length < 64 ∧ ∀ p ss', H p = none → ss'.Perm L → sortedS ss' = true → Q (.ref p) (upd H p (.lst (ss'.map V.str)))) := by
  intro pins s σ H xs us Q I r h
  obtain ⟨d, L, rfl, hd, hnd, hn, q⟩ := h
  obtain ⟨u, rfl, ru⟩ := vals1 r
  cases ru
  obtain ⟨hS, _⟩ := I.hok d _ hd
  refine Calls.call_function_entry kind_sorted plain_sorted entry_sorted (args_sorted1 _) ?_
  unfold Builtin.«sorted»
  refine wpAny_bind (m := checkCount "sorted" 1 1 _) (wpAny_pure ?_)
  refine wpAny_bind (sw_collect (A := X.A.in1) (I.ok.hd hc) hS fun h' tk d' acc kk hacc => ?_)
  obtain ⟨ks, k1, k2, k3⟩ := hacc.keys hnd
  have hst : StrsAre acc.toList ks := by
    refine strsAre_get k2.symm fun i v hv => ?_
    obtain ⟨k, hk, his⟩ := k3 i v hv
    obtain ⟨t, rfl⟩ := Value.isStrOf_shape his
    exact ⟨k, t, hk, rfl⟩
  have hal : acc.toList.length < 64 := by rw [← k2, k1.length_eq]; exact hn
  refine wpAny_bind (wpAny_newList ?_ (by rw [sizeLine_eq]; omega))
  have hoL : (h'.push (seqObj "list" acc.toList.toArray 0)).get? h'.objs.size = some (seqObj "list" acc.toList.toArray 0) := Heap.get?_push_size _ rfl
  refine wpAny_bind (wpAny_holding (wpAny_call_entry slot_list_sort ⟨_, hoL, rfl⟩ entry_list_sort (list_sort_treeK strKind_oneLt hoL hst.keysOf (fun v1 v2 rest e => keyKind_strs (by rw [← e]; exact hst)) (by omega) fun st' a1 a2 => ⟨_, rfl, ?_⟩) (args_list_sort _)))
  obtain ⟨ss', b1, b2, b3⟩ := sorted_out_str hst a1 a2
  have hp := b2.length_eq
  have I1 : Inv X pins σ H { s with heap := h', toks := tk, drawn := d' } := (I.kept (t' := tk) kk).drew
  obtain ⟨e, he⟩ := sortedHeap_at (out := (arrOf st').map (·.2)) hoL
  refine wpAny_pure ⟨_, rfl, ?_⟩
  refine ⟨.ref h'.objs.size, _, I1.laid (o := .lst (ss'.map V.str)) (t' := tk) (fun b o x => ?_) (Nat.le_refl _) ⟨by rw [List.length_map, sizeLine_eq]; omega, _, e, vals_strs b1, he⟩, rfl, q _ ss' (I1.hok.fresh (Nat.le_refl _)) (b2.trans k1) b3⟩
  have hlt := Heap.lt_size x
  rw [sortedHeap_old (Nat.ne_of_lt hlt) (by rw [Heap.size_push]; exact Nat.lt_succ_of_lt hlt)]
  exact Heap.get?_push_of_some _ x
end
end L2

set_option Elab.async false
set_option linter.all false
set_option maxRecDepth 100000
set_option maxHeartbeats 8000000
namespace L2
open PySem PySem.Spec PyProof.Rows
section
variable {X : Cx} {N' : List Str} {pk : List (Option Nat)} {scope : Scope}
theorem ps_setcI {i : Nat} {y : Str} {elt tg iter cnd : Expr} {wi : TI} {g : TG} {tc : TT} {te : TE} {pos spos py : Pos} (hN : X.N.Nodup) (hiy : X.N[i]? = some y) (hy : Loc X.env.scope y) (hc : X.calm = true) (B : BlkOk X.N X.env scope N' pk) (hi : PI X tg iter wi)
    (hg : ∀ s H ex, PG (cxB X N' scope s H ex) tg g) (ht : ∀ s H ex, PT (cxB X N' scope s H ex) cnd tc) (he : ∀ s H ex, PE (cxB X N' scope s H ex) elt te)
    (hsw : swapsWith (.ListComp elt [⟨tg, iter, [cnd], 0⟩] scope pos) (some (.Name y py)) spos.line X.env = pure true := by rfl)
    (hs : ∀ x, foldedSetIterable iter X.env x = pure x := by intro _; rfl) (hf : X.fn y = true ∨ X.env.scope.names.lookup y = some .local := by first | exact .inl rfl | exact .inr rfl | assumption) :
    PS X (.Assign [.Name y py] (.ListComp elt [⟨tg, iter, [cnd], 0⟩] scope pos) spos) (tAsg (tCompI pk wi g tc te) (gName i)) := by
  intro pins s σ H D0 I h
  rw [exec_Assign_Name_used _ _ _ _ hsw]
  refine wpAny_bind (wpAny_standAt (wpAny_bind ?_))
  show wpAny _ X.A (do let _ ← comprehension (.ListComp elt [⟨tg, iter, [cnd], 0⟩] scope pos) scope X.env _ (newList []) false (eval iter X.env) (some (assign (.Name y py) X.env))) _ _ s
  refine wpAny_bind (wpAny_mono (wpAny_comprehension_free (use := some (assign (.Name y py) X.env)) (Q := fun _ s' => SP X pins D0 .next s') rfl hs (closure_of (blk_has I B)) B.kind B.names
    (thn (hi s σ H _ I h) fun v s1 h1 => thn h1 fun itv s2 ⟨it, fp, tn, J, H2, e, I2, T, st2, f2, hW⟩ => ?_)) (fun _ s' hq => wpAny_pure (wpAny_pure hq)) fun _ _ e => e)
  subst e
  refine comp_runI (QD := fun D H' => D0.nx (σ.set i (some (.ref D))) H') (RR := fun acc C => compPost (model X.prog X.w) X.A X.xe (some (assign (.Name y py) X.env)) (fun _ s' => SP X pins D0 .next s') acc C) I2 B hc T st2 f2 hg ht he hW fun D C s' H' m I' f' hn q => ?_
  refine wpAny_assign_Name (store_ok2 (v := .ref D) I' hN hiy hy rfl (fun s3 I3 ⟨a, hsa, ha⟩ => ?_) hf)
  have hCa : C ≠ a := by
    rcases ha with z | z
    · exact z ▸ f'.2.1
    · exact fun e => f'.2.2.2.2.1 _ _ z e.symm
  exact ⟨m, hn.sameBut hsa hCa, fun h' hs' => ⟨_, H', I3.gone f' hs', q⟩⟩
end
end L2

set_option Elab.async false
set_option linter.all false
set_option maxRecDepth 100000
set_option maxHeartbeats 8000000
namespace L2
open PySem PySem.Spec PyProof.Rows
/-! ### zip of three lists -/
section
variable {prog : Program} {w : World} {A : Around} {E : Value → Shared → Prop} {s : Shared}
end
end L2

set_option Elab.async false
set_option linter.all false
set_option maxRecDepth 100000
set_option maxHeartbeats 8000000
namespace L2
open PySem PySem.Spec PyProof.Rows
section
variable {prog : Program} {w : World} {A : Around} {E : Value → Shared → Prop} {s : Shared} {z TI TO i1 i2 i3 l1 l2 l3 : Addr} {k : Nat} {xs ys us : Array Value} {x y u a b c : Value}
end
end L2

set_option Elab.async false
set_option linter.all false
set_option maxRecDepth 100000
set_option maxHeartbeats 8000000
namespace L2
open PySem PySem.Spec PyProof.Rows
section
variable {prog : Program} {w : World} {A : Around} {E : Value → Shared → Prop} {s : Shared} {z TI TO i1 i2 i3 l1 l2 l3 : Addr} {k : Nat} {xs ys us : Array Value} {x y u a b c : Value}
end
def It3 (K : PySem.W.Frag) (a b c : Addr) : It :=
  ⟨fun i H => ∃ xs x ys y us u, SqL K H a xs ∧ xs[i]? = some x ∧ SqL K H b ys ∧ ys[i]? = some y ∧ SqL K H c us ∧ us[i]? = some u,
    fun i H v H' => ∃ T x y u, H T = none ∧ v = .ref T ∧ H' = upd H T (.tup [x, y, u]) ∧ (∀ xs, SqL K H a xs → xs[i]? = some x) ∧ (∀ ys, SqL K H b ys → ys[i]? = some y) ∧ ∀ us, SqL K H c us → us[i]? = some u,
    fun i H => ∃ xs ys us, SqL K H a xs ∧ SqL K H b ys ∧ SqL K H c us ∧ xs.length ≤ i⟩
def iZip3 (K : PySem.W.Frag) (ta : TA) : TI := fun σ H R => ta σ H fun vs H1 => ∃ a b c, vs = [.ref a, .ref b, .ref c] ∧ (∃ xs, SqL K H1 a xs) ∧ (∃ ys, SqL K H1 b ys) ∧ (∃ us, SqL K H1 c us) ∧ R (It3 K a b c) H1
section
variable {X : Cx}
end
end L2

set_option Elab.async false
set_option linter.all false
set_option maxRecDepth 100000
set_option maxHeartbeats 8000000
namespace L2
open PySem PySem.Spec PyProof.Rows
def tRev (K : PySem.W.Frag) (te : TE) (ts : TO) : TE := fun σ H Q => te σ H fun x H1 => ts σ H1 fun st H2 => st = some (-1) ∧ ∃ a xs, x = .ref a ∧ SqL K H2 a xs ∧ ∀ p, H2 p = none → Q (.ref p) (upd H2 p (.lst xs.reverse))
section
variable {X : Cx} {te : TE} {ts : TO} {e ce : Expr} {p2 p3 pos : Pos}
end
end L2

set_option Elab.async false
set_option linter.all false
namespace L2
open PySem
def eqTs (e xs : List V) : Bool := (e.zip xs).all fun p => eqV p.1 p.2
def eqTu (H : Hp) (xs : List V) (u : Value) : Bool := match u with
  | .ref q => (match H q with | some (.tup e) => eqTs e xs | _ => false)
  | _ => false
theorem any_eqTu {H : Hp} {xs : List V} : ∀ {qs : List Addr} {us : List Value} {L : List (List V)}, Vals (qs.map V.ref) us → qs.length = L.length → (∀ (i : Nat) q e, qs[i]? = some q → L[i]? = some e → H q = some (.tup e)) → us.any (eqTu H xs) = L.any fun e => eqTs e xs
  | [], _, [], .nil, _, _ => rfl
  | q :: qs, u :: us, e :: L, .cons r t, hl, h => by
    cases r
    have h0 := h 0 q e rfl rfl
    rw [List.any_cons, List.any_cons, any_eqTu t (Nat.succ.inj hl) fun i => h (i + 1)]
    congr 1
    show (match H q with | some (.tup e) => eqTs e xs | _ => false) = _
    rw [h0]
theorem zip_range : ∀ (xs ys : List V), xs.length = ys.length → ((List.range xs.length).all fun j => eqV (xs.getD j .non) (ys.getD j .non)) = eqTs xs ys := fun xs ys h => all_eqV xs ys h
def rInT (K : PySem.W.Frag) (neg : Bool) : R2 := fun x y H Q => ∃ (a p : Addr) (xs : List V) (qs : List Addr) (L : List (List V)), x = .ref a ∧ y = .ref p ∧ H a = some (.tup xs) ∧ SqL K H p (qs.map V.ref) ∧ qs.length = L.length ∧ (∀ (i : Nat) q e, qs[i]? = some q → L[i]? = some e → H q = some (.tup e)) ∧ a ∉ qs ∧ (∀ e ∈ L, e.length = xs.length ∧ e.all flatV = true) ∧ xs.all flatV = true ∧ Q (.bl (neg ^^ L.any fun e => eqTs e xs)) H
section
variable {X : Cx}
theorem op_notInT (hu : X.A.units + 1 < cLine) : OpR X (compareOp .NotIn) (rInT X.K true) := by
  intro pins s σ H x y v u Q I rx ry h
  obtain ⟨a, p, xs, qs, L, rfl, rfl, ha, hp, hlen, hT, hn, hf, fx, q⟩ := h
  cases rx
  cases ry
  obtain ⟨its, r, pl, hz⟩ := I.list hp
  obtain ⟨it2, r2, pl2, _⟩ := I.tuple (SqT.of ha)
  refine SeqAt.notIn_listAt (eqTu H xs) pl.isList (fun w hw => ?_) ⟨.bl _, H, I, rfl, ?_⟩
  · obtain ⟨i, hi⟩ := List.getElem?_of_mem (show w ∈ its by simpa using hw)
    have hil := (List.getElem?_eq_some_iff.mp hi).1
    have rl := r.length
    rw [List.length_map] at rl
    obtain ⟨qq, hq⟩ : ∃ z, qs[i]? = some z := ⟨_, List.getElem?_eq_getElem (by omega)⟩
    obtain ⟨e, he⟩ : ∃ z, L[i]? = some z := ⟨_, List.getElem?_eq_getElem (by omega)⟩
    obtain ⟨u1, hu1, ru1⟩ := r.get (show (qs.map V.ref)[i]? = some (V.ref qq) by rw [List.getElem?_map, hq]; rfl)
    rw [hi] at hu1
    cases hu1
    cases ru1
    have hqe := hT i qq e hq he
    obtain ⟨it1, r1, pl1, _⟩ := I.tuple (SqT.of hqe)
    have hfe := hf e (List.mem_of_getElem? he)
    have l1 := r1.length
    have l2 := r2.length
    have ev : eqTu H xs (.ref qq) = ((List.range (min it1.toArray.size it2.toArray.size)).all (fun j => eqV (e.getD j .non) (xs.getD j .non)) && it1.toArray.size == it2.toArray.size) := by
      have e1 : it1.toArray.size = e.length := by simp [l1]
      have e2 : it2.toArray.size = e.length := by simp [← l2, hfe.1]
      rw [e1, e2, Nat.min_self, beq_self_eq_true, Bool.and_true, zip_range _ _ hfe.1]
      show (match H qq with | some (.tup e) => eqTs e xs | _ => false) = _
      rw [hqe]
    rw [ev]
    exact SeqAt.EqAt.of_refs (fun z => hn (by rw [← z]; exact List.mem_of_getElem? hq)) (SeqAt.RcAt.tuples pl1 pl2 hu (eqL_core r1 r2 hfe.2 fx hfe.1))
  · rw [show its.toArray.any (eqTu H xs) = its.any (eqTu H xs) by simp, any_eqTu r hlen hT]
    rw [Bool.true_xor] at q
    exact q
end
end L2

set_option Elab.async false
set_option linter.all false
set_option maxRecDepth 100000
set_option maxHeartbeats 8000000
namespace DM
open PySem L2
def top (i : Nat) : Stmt := PySem.Challenge.pw_dipmaps_k40_whole_cloths_to_one.main.body.getD i (.Pass ⟨0, 0, 0, 0⟩)
abbrev sHInit : Stmt := inClass (top 39) 0
abbrev sHBring : Stmt := inClass (top 39) 1
abbrev sHDip : Stmt := inClass (top 39) 4
abbrev sHBook : Stmt := inClass (top 39) 7
abbrev sHShade : Stmt := inClass (top 39) 8
abbrev sHTrail : Stmt := inClass (top 39) 9
abbrev sHNewest : Stmt := inClass (top 39) 11
abbrev sHCCloth : Stmt := inClass (top 39) 12
abbrev sHCDay : Stmt := inClass (top 39) 13
abbrev sCDay : Stmt := top 38
abbrev sTextIs : Stmt := top 59
abbrev sGood : Stmt := top 24
abbrev sAt : Stmt := top 47
abbrev sDraws : Stmt := top 48
abbrev sName : Stmt := top 49
abbrev sNames : Stmt := top 50
abbrev sTurned : Stmt := top 51
abbrev sOuts : Stmt := top 52
abbrev sShape : Stmt := top 53
abbrev sNamed : Stmt := top 54
abbrev sSized : Stmt := top 55
abbrev sDrawn : Stmt := top 56
abbrev sTables : Stmt := top 57
abbrev sHanded : Stmt := top 58
abbrev sLaw : Stmt := top 69
abbrev sCNames : Stmt := top 28
abbrev sCShades : Stmt := top 29
abbrev sCOuts : Stmt := top 30
abbrev sCBaths : Stmt := top 31
abbrev sInit : Stmt := inClass (top 32) 0
abbrev sBShades : Stmt := inClass (top 32) 1
abbrev sBBaths : Stmt := inClass (top 32) 2
abbrev sBTable : Stmt := inClass (top 32) 3
abbrev sBOut : Stmt := inClass (top 32) 4
abbrev sBCheck : Stmt := inClass (top 32) 6
abbrev sBCShade : Stmt := inClass (top 32) 7
abbrev sWRow : Stmt := top 41
abbrev sWBook : Stmt := top 42
abbrev sText : Stmt := top 62
abbrev sWalk : Stmt := top 14
abbrev sRow : Stmt := top 61
abbrev sAtEnd : Stmt := top 60
abbrev sBathOf : Stmt := top 43
abbrev sLoose : Stmt := top 44
abbrev sRead : Stmt := top 45
abbrev sPair : Stmt := top 64
abbrev sListOf : Stmt := top 63
abbrev sAllPairs : Stmt := top 16
abbrev sJRow : Stmt := top 17
abbrev sJRows : Stmt := top 18
abbrev sJoined : Stmt := top 19
abbrev sAllToOne : Stmt := top 20
abbrev sToOne : Stmt := top 65
abbrev sStuck : Stmt := top 66
abbrev sAllDip : Stmt := top 67
abbrev sApart : Stmt := top 68
local macro_rules | `(tactic| walk_at "dm") => `(tactic| simp only [tSeq, tIfS, tTest, tOp, tVar, tCB, tCons, tNil, tRet, tC, rI0, rI, rIxL, rIxT, rIxS, tAsg, gName, tDrop, tNext, tOr, tAnd, tNot, tB, tAndV, tOrV, tNotV, tIf, tLst, tTup, tComp, tCall, tFor_eq, tUn, rU, tSl, rSlS, tNoPart, tPart, rIn, rRep, rPopAt, rAppend, rExtend, tDictZip, iDict, tDGet, tDNewK, tDNewT, tRaise, tCompI, tTup, tDIn, tDNotIn, sDPut, sFld, tMake, rSlL,  iList, iZip2, iZip3, tRev, iEnum, tAug, ipI, iTup, iRng1, iRng2, iStr, gCons, gNil, gSub, tBM, tBM0, tFld, tMeth, tInts, tStrs, rListOf, rEqL, tThaw, tDisp, tPairs, cxOf_H0, nox_H0, pickS, rEq, rNe, rSetL, CMul, CDiv, sgn_eq, cxOf_K, cxB_K, start_eq, List.map_cons, List.map_nil, List.length_cons, List.length_nil, List.cons_append, List.nil_append, Nat.sub_self, Nat.reduceSub, Nat.reduceAdd, List.replicate, List.getElem?_cons_zero, List.getElem?_cons_succ, List.getElem?_nil, Option.bind_some, Option.bind_none, id_eq, Option.some.injEq, exists_eq_left', exists_eq_left, V.int.injEq, V.ref.injEq, V.str.injEq, V.bl.injEq, V.ty.injEq, List.cons.injEq, and_true, true_and, List.set_cons_zero, List.set_cons_succ, List.append_nil, exists_and_left, exists_and_right, and_assoc, exists_const, decide_eq_true_eq, Bool.not_eq_true', decide_eq_false_iff_not, if_true, if_false, Bool.false_eq_true])
def letters : Str := "abcdefghijklmnopqrstuvwxyz"
def inS (z : Str) : Bool := !(Builtin.Str.occurrences letters z 0 letters.length 1).isEmpty
def inL (c : Nat) : Bool := inS ⟨#[c]⟩
def goodB (z : Str) : Bool := (decide (1 ≤ z.length) && decide (z.length ≤ 8)) && z.cps.toList.all inL
def atL (ns : List Int) (k : Int) : Int := if k < ns.length then ns.getD k.toNat 0 else 0
def spAt (K : PySem.W.Frag) : Sp := fun vs H Q _ => ∃ (a : Addr) (ns : List Int) (k : Int), vs = [.ref a, .int k] ∧ SqL K H a (ns.map V.int) ∧ 0 ≤ k ∧ Q (.int (atL ns k)) H
def spGood : Sp := fun vs H Q _ => ∃ z : Str, vs = [.str z] ∧ z.length ≤ 1000 ∧ ∀ H', Same H H' → Q (.bl (goodB z)) H'
theorem at_use {K : PySem.W.Frag} {H : Hp} {a : Addr} {ns : List Int} {k : Int} {Q : VK} {E : XK} (ha : SqL K H a (ns.map V.int)) (h0 : 0 ≤ k) (q : Q (.int (atL ns k)) H) : spAt K [.ref a, .int k] H Q E := ⟨a, ns, k, rfl, ha, h0, q⟩
structure Txt (mg : Str → Option Value) : Prop where
  len : mg "len" = none
  all : mg "all" = none
  range : mg "range" = none
  isi : mg "isinstance" = none
  list : mg "list" = none
  str : mg "str" = none
  sorted : mg "sorted" = none
  tuple : mg "tuple" = none
  dict : mg "dict" = none
  zip : mg "zip" = none
  set : mg "set" = none
  min : mg "min" = none
  int : mg "int" = none
  lett : ∃ t, mg "LETTERS" = some (.str letters t)
  long : ∃ t, mg "LONGEST" = some (.int 8 t)
theorem sz1000 : (1000 : Nat) ≤ sizeLine := by rw [sizeLine_eq]; decide
theorem map_range {α : Type} (n : Nat) (l : List α) (f : Nat → V) (h : α → V) (hl : l.length = n) (e : ∀ i x, l[i]? = some x → f i = h x) : (List.range n).map f = l.map h := by
  refine List.ext_getElem? fun i => ?_
  rw [List.getElem?_map, List.getElem?_map]
  by_cases hi : i < n
  · rw [List.getElem?_range hi, List.getElem?_eq_getElem (by omega)]
    show some (f i) = some (h _)
    rw [e i _ (List.getElem?_eq_getElem (by omega))]
  · rw [List.getElem?_eq_none (by simpa using hi), List.getElem?_eq_none (by omega)]
    rfl
section
variable {P : Program} {w : World} {K : PySem.W.Frag} {mg : Str → Option Value} {base : Heap}
theorem scAt : FnScope ["_law_script", "_law_k"] ["_law_script", "_law_k"] (defScope sAt) := ⟨rfl, rfl, rfl, by decide +kernel, rfl, by decide +kernel, by decide +kernel⟩
theorem ok_at {f : Addr} {fd : FuncData} (F : Fun K "_law_at" "_law_at" sAt f fd) (T : Txt mg) : FnOk P w K mg base CX0 1 f fd ["_law_script", "_law_k"] (spAt K) := by
  refine F.ok scAt (fun vs H Q E h => ?_) (fun cdv A outer s H vs Q E hr h => ?_)
  · obtain ⟨a, ns, k, rfl, _⟩ := h
    rfl
  · obtain ⟨a, ns, k, rfl, ha, h0, q⟩ := h
    refine ⟨_, pss_cons (ps_if (pt_cmpR op_lt (pv 1) (pe_callB call_len_seq (by rfl) T.len PySem.boot_len (pa_cons (pv 0) pa_nil)) (nomark _)) (pss_one (ps_ret (pe_ix ix_list (pv 0) (pv 1) (fun _ _ => rfl)))) pss_nil) (pss_one (ps_ret pe_int)), ?_⟩
    walk_at "dm"
    refine ⟨_, .inl ha, ?_⟩
    rw [List.length_map]
    unfold atL at q
    refine ite2 (fun hk => ?_) (fun hk => ?_)
    · rw [if_pos hk] at q
      refine ⟨_, ha, _, ?_, q⟩
      obtain ⟨j, rfl⟩ := Int.eq_ofNat_of_zero_le h0
      have hl : j < ns.length := by omega
      refine atI_nat ?_
      rw [List.getElem?_map, List.getD_eq_getElem?_getD, Int.toNat_natCast, List.getElem?_eq_getElem hl]
      rfl
    · rw [if_neg hk] at q
      exact q
theorem scGood : FnScope ["text"] ["text"] (defScope sGood) := ⟨rfl, rfl, rfl, by decide +kernel, rfl, by decide +kernel, by decide +kernel⟩
theorem ok_good {f : Addr} {fd : FuncData} (F : Fun K "good_name" "good_name" sGood f fd) (T : Txt mg) : FnOk P w K mg base CX0 1 f fd ["text"] spGood := by
  refine F.ok scGood (fun vs H Q E h => ?_) (fun cdv A outer s H vs Q E hr h => ?_)
  · obtain ⟨z, rfl, _⟩ := h
    rfl
  · obtain ⟨z, rfl, hz, q⟩ := h
    obtain ⟨tl, hlett⟩ := T.lett
    obtain ⟨tg, hlong⟩ := T.long
    refine ⟨_, pss_cons (ps_if (PW.pt (pw_or (pt_cmpR op_lt (pe_callB call_len_str (by rfl) T.len PySem.boot_len (pa_cons (pv 0) pa_nil)) pe_int (nomark _)) (pw_or1 (pt_cmpR op_gt (pe_callB call_len_str (by rfl) T.len PySem.boot_len (pa_cons (pv 0) pa_nil)) (pe_glob (v := .int 8) rfl hlong ⟨_, rfl⟩) (nomark _))))) (pss_one (ps_ret pe_bl)) pss_nil)
      (pss_one (ps_ret (pe_callB (call_all rfl) (by rfl) T.all (by decide +kernel) (pa_cons (pe_comp (N' := ["sign"]) (pk := [none]) rfl (BlkOk.of (by rfl)) (pi_str (pv 0)) (fun s H ex => pg_name (i := 0) (by show (["sign"] : List Str).Nodup; decide) rfl (Or.inl rfl)) (fun s H ex => pe_cmpR op_in_str (pv 0) (pe_glob (v := .str letters) rfl hlett ⟨_, rfl⟩) (by with_unfolding_all rfl))) pa_nil)))), ?_⟩
    have hsz := sz1000
    walk_at "dm"
    have main : 1 ≤ z.length → z.length ≤ 8 → ∀ (D : Addr), H D = none → CompW (Itw z.cps.size fun i v => ∃ c, z.cps[i]? = some c ∧ v = V.str ⟨#[c]⟩) (gName 0)
          (tOp (fun x y H Q => ∃ i, x = V.str i ∧ ∃ x, y = V.str x ∧ Q (V.bl !(Builtin.Str.occurrences x i 0 x.length 1).isEmpty) H) (tVar 0) (tC (V.str letters)))
          D (fun H' => ∃ x, SqL K H' D (List.map V.bl x) ∧ Q (V.bl (x.all id)) H') [none] (upd H D (HO.lst [])) := fun h1 h8 D hD => by
      have hsize : z.cps.size = z.length := rfl
      refine comp_pure steady_walk (by omega) hD (fun σ => ∃ o, σ = [o]) (fun i => .bl (inL (z.cps.getD i 0))) ⟨none, rfl⟩ ?_ ?_
      · rintro i x σ' H' hi ⟨c, hc, rfl⟩ ⟨o, rfl⟩ hS R hR
        walk_at "dm"
        have e : inL (z.cps.getD i 0) = !(Builtin.Str.occurrences letters ⟨#[c]⟩ 0 letters.length 1).isEmpty := by
          rw [Array.getD_eq_getD_getElem?, hc]
          rfl
        rw [← e]
        exact hR _ ⟨_, rfl⟩
      · have e : (List.range z.cps.size).map (fun i => V.bl (inL (z.cps.getD i 0))) = (z.cps.toList.map inL).map V.bl := by
          rw [List.map_map]
          refine map_range _ z.cps.toList _ _ (by simp) fun i x hx => ?_
          have hx' : z.cps[i]? = some x := by simpa using hx
          rw [Array.getD_eq_getD_getElem?, hx']
          rfl
        rw [e]
        refine ⟨z.cps.toList.map inL, SqL.of upd_same, ?_⟩
        have e2 : (z.cps.toList.map inL).all id = goodB z := by
          unfold goodB
          rw [List.all_map, decide_eq_true h1, decide_eq_true h8]
          rfl
        rw [e2]
        exact q _ (Same.updN hD)
    have f0 : ¬ (1 ≤ z.length ∧ z.length ≤ 8) → goodB z = false := fun h => by
      unfold goodB
      by_cases h1 : 1 ≤ z.length
      · rw [decide_eq_false (p := z.length ≤ 8) (fun h8 => h ⟨h1, h8⟩)]; simp
      · rw [decide_eq_false h1]; simp
    refine ⟨by omega, ite2 (fun h1 => ?_) (fun h1 => ⟨by omega, ite2 (fun h2 => ?_) (fun h2 => main (by omega) (by omega))⟩)⟩
    · rw [← f0 (by omega)]; exact q H (Same.refl H)
    · rw [← f0 (by omega)]; exact q H (Same.refl H)
def dst (cell bound mixed : Int) : Nat → Int × Int × List Int
  | 0 => (cell, (cell % 2147483647 * 48271 + 11) % 2147483647, [])
  | i + 1 => ((dst cell bound mixed i).1 / bound, ((dst cell bound mixed i).2.1 * 69621 + 40014 + i) % 2147483647,
      (dst cell bound mixed i).2.2 ++ [if mixed = 0 then (dst cell bound mixed i).1 % bound else ((dst cell bound mixed i).2.1 * 69621 + 40014 + i) % 2147483647 / 8 % bound])
def drawsL (cell bound mixed : Int) (n : Nat) : List Int := (dst cell bound mixed n).2.2
theorem draws_len (cell bound mixed : Int) : ∀ n, (drawsL cell bound mixed n).length = n
  | 0 => rfl
  | n + 1 => by
    have ih := draws_len cell bound mixed n
    unfold drawsL at ih ⊢
    show ((dst cell bound mixed n).2.2 ++ _).length = n + 1
    rw [List.length_append, ih]
    rfl
theorem draws_rng {cell bound mixed : Int} (hb : 0 < bound) : ∀ n, ∀ x ∈ drawsL cell bound mixed n, 0 ≤ x ∧ x < bound
  | 0, x, h => by cases h
  | n + 1, x, h => by
    have h' : x ∈ (dst cell bound mixed n).2.2 ++ [if mixed = 0 then (dst cell bound mixed n).1 % bound else ((dst cell bound mixed n).2.1 * 69621 + 40014 + n) % 2147483647 / 8 % bound] := h
    rcases List.mem_append.mp h' with q | q
    · exact draws_rng hb n x q
    · rw [List.mem_singleton.mp q]
      split
      · exact ⟨Int.emod_nonneg _ (by omega), Int.emod_lt_of_pos _ hb⟩
      · exact ⟨Int.emod_nonneg _ (by omega), Int.emod_lt_of_pos _ hb⟩
def spDraws : Sp := fun vs H Q _ => ∃ cell many bound mixed : Int, vs = [.int cell, .int many, .int bound, .int mixed] ∧ 0 ≤ many ∧ many ≤ 1000 ∧ 0 < bound ∧ bound < 2 ^ 62 ∧ (mixed = 0 ∨ mixed = 1) ∧
  ∀ l H', H l = none → Same H H' → H' l = some (.lst ((drawsL cell bound mixed many.toNat).map V.int)) → Q (.ref l) H'
theorem scDraws : FnScope ["_law_cell", "_law_many", "_law_bound", "_law_mixed", "_law_drawn_here", "_law_rest", "_law_spun", "_law_k"] ["_law_cell", "_law_many", "_law_bound", "_law_mixed"] (defScope sDraws) := ⟨rfl, rfl, rfl, by decide +kernel, rfl, by decide +kernel, by decide +kernel⟩
theorem ok_draws {f : Addr} {fd : FuncData} (F : Fun K "_law_draws" "_law_draws" sDraws f fd) (T : Txt mg) : FnOk P w K mg base CX0 1 f fd ["_law_cell", "_law_many", "_law_bound", "_law_mixed"] spDraws := by
  refine F.ok scDraws (fun vs H Q E h => ?_) (fun cdv A outer s H vs Q E hr h => ?_)
  · obtain ⟨_, _, _, _, rfl, _⟩ := h
    rfl
  · obtain ⟨cell, many, bound, mixed, rfl, hm0, hm1, hb0, hb1, hmix, q⟩ := h
    refine ⟨_, pss_cons (ps_set (i := 4) scDraws.nd rfl (Or.inl rfl) (pe_lst pa_nil))
      (pss_cons (ps_set (i := 5) scDraws.nd rfl (Or.inl rfl) (pv 0))
      (pss_cons (ps_set (i := 6) scDraws.nd rfl (Or.inl rfl) (pe_op op_mod (pe_op op_add (pe_op op_mul (pe_op op_mod (pv 0) pe_int) pe_int) pe_int) pe_int))
      (pss_cons (ps_for PassesOwn.never rfl (pi_range1 rfl T.range (pa_cons (pv 1) pa_nil)) (pg_name (i := 7) scDraws.nd rfl (Or.inl rfl))
        (pss_cons (ps_set (i := 6) scDraws.nd rfl (Or.inl rfl) (pe_op op_mod (pe_op op_add (pe_op op_add (pe_op op_mul (pv 6) pe_int) pe_int) (pv 7)) pe_int))
        (pss_cons (ps_expr (pe_bm PySem.F.plainAttrs_list PySem.F.slot_list_append PySem.F.type_list_append mt_append (pv 4) (pa_cons (pe_ix ix_list (pe_lst (pa_cons (pe_op op_mod (pv 5) (pv 2)) (pa_cons (pe_op op_mod (pe_op op_fdivB (pv 6) pe_int) (pv 2)) pa_nil))) (pv 3) (fun _ _ => rfl)) pa_nil)))
        (pss_one (ps_set (i := 5) scDraws.nd rfl (Or.inl rfl) (pe_op op_fdivB (pv 5) (pv 2)))))))
      (pss_one (ps_ret (pv 4)))))), ?_⟩
    have hs := sz1000
    walk_at "dm"
    refine ⟨by omega, fun l hl => ⟨by omega, .inr ⟨by omega, by omega⟩, by omega, by omega, by omega, ?_⟩⟩
    refine for_steady (H0 := H) steady_range (fun i σ H' => ∃ o, σ = [some (V.int cell), some (V.int many), some (V.int bound), some (V.int mixed), some (V.ref l), some (V.int (dst cell bound mixed i).1), some (V.int (dst cell bound mixed i).2.1), o] ∧ Same H H' ∧ H' l = some (.lst ((drawsL cell bound mixed i).map V.int)))
      ⟨none, rfl, Same.updN hl, upd_same⟩ (fun _ _ _ _ ⟨_, _, h, _⟩ => h) ?_ ?_
    · rintro i x σ H' hi rfl ⟨o, rfl, hS, hH⟩
      walk_at "dm"
      have ne : ∀ p, H' p = none → l ≠ p := fun p hp => ne_of_none hH hp
      refine ⟨.inr ⟨by omega, by omega⟩, by omega, .inl ⟨rfl, _, SqL.of hH⟩, hb0, by omega, by omega, hb0, by omega, fun p hp => ?_⟩
      have hz : (0 : Int) + (i : Int) = i := by omega
      rw [hz]
      refine ⟨_, SqL.of upd_same, (V.int (if mixed = 0 then (dst cell bound mixed i).1 % bound else ((dst cell bound mixed i).2.1 * 69621 + 40014 + i) % 2147483647 / 8 % bound)), ?_, _, by rw [upd_ne (ne p hp)]; exact hH, ?_, hb0, by omega, rfl, rfl, ?_, ?_⟩
      · rcases hmix with rfl | rfl
        · rfl
        · rfl
      · rw [List.length_map, draws_len]; omega
      · exact (hS.step (hS.free hp)).step hl
      · rw [upd_same]
        unfold drawsL
        rw [show (dst cell bound mixed (i + 1)).2.2 = (dst cell bound mixed i).2.2 ++ [if mixed = 0 then (dst cell bound mixed i).1 % bound else ((dst cell bound mixed i).2.1 * 69621 + 40014 + i) % 2147483647 / 8 % bound] from rfl, List.map_append]
        rfl
    · rintro σ H' ⟨o, rfl, hS, hH⟩
      walk_at "dm"
      exact q l H' hl hS hH
end

section
variable {P : Program} {w : World} {K : PySem.W.Frag} {mg : Str → Option Value} {base : Heap}
def isLet (c : Nat) : Prop := 97 ≤ c ∧ c ≤ 122
theorem let_list : letters.cps.toList = (List.range 26).map (fun i => 97 + i) := by decide +kernel
theorem let_get {j : Nat} (h : j < 26) : letters.cps.toList[j]? = some (97 + j) := by rw [let_list, List.getElem?_map, List.getElem?_range h]; rfl
theorem let_at {i : Int} (h0 : 0 ≤ i) (h1 : i < 26) : atI letters.cps.toList i = some (97 + i.toNat) := by
  obtain ⟨j, rfl⟩ := Int.eq_ofNat_of_zero_le h0
  exact atI_nat (let_get (by omega))
theorem inL_let {c : Nat} (h : isLet c) : inL c = true := by
  have key : ∀ i : _root_.Fin 26, inL (97 + i.val) = true := by decide +kernel
  have := key ⟨c - 97, by unfold isLet at h; omega⟩
  have e : 97 + (c - 97) = c := by unfold isLet at h; omega
  rw [show (97 + (⟨c - 97, by unfold isLet at h; omega⟩ : _root_.Fin 26).val) = c from e] at this
  exact this
theorem find_let {c : Nat} (h : isLet c) : Txt.find letters ⟨#[c]⟩ = ((c - 97 : Nat) : Int) := by
  have key : ∀ i : _root_.Fin 26, Txt.find letters ⟨#[97 + i.val]⟩ = (i.val : Int) := by decide +kernel
  have := key ⟨c - 97, by unfold isLet at h; omega⟩
  have e : 97 + (c - 97) = c := by unfold isLet at h; omega
  rw [show (97 + (⟨c - 97, by unfold isLet at h; omega⟩ : _root_.Fin 26).val) = c from e] at this
  exact this
structure Nm (z : Str) : Prop where
  lo : 1 ≤ z.length
  hi : z.length ≤ 8
  all : ∀ c ∈ z.cps.toList, isLet c
theorem Nm.good {z : Str} (h : Nm z) : goodB z = true := by
  unfold goodB
  rw [decide_eq_true h.lo, decide_eq_true h.hi, Bool.true_and, Bool.true_and]
  exact List.all_eq_true.mpr fun c hc => inL_let (h.all c hc)
theorem Nm.of_list {z : Str} {l : List Nat} (e : z.cps.toList = l) (h1 : 1 ≤ l.length) (h8 : l.length ≤ 8) (ha : ∀ c ∈ l, isLet c) : Nm z := by
  have hl : z.length = l.length := by rw [← e]; exact Array.length_toList.symm
  exact ⟨by omega, by omega, by rw [e]; exact ha⟩
theorem app_list (a y : Str) : (a ++ y).cps.toList = a.cps.toList ++ y.cps.toList := by
  rw [Str.cps_append, Array.toList_append]
theorem app_len (a y : Str) : (a ++ y).length = a.length + y.length := PySem.Str.length_append a y
theorem len_list (z : Str) : z.length = z.cps.toList.length := Array.length_toList.symm
theorem empty_list : (Str.ofString "").cps.toList = [] := by decide +kernel
def spName : Sp := fun vs H Q _ => ∃ seed style : Int, vs = [.int seed, .int style] ∧ 0 ≤ style ∧ style < 4 ∧ ∀ z H', Nm z → Same H H' → Q (.str z) H'
theorem mid_names : ∀ (i : _root_.Fin 8), (Txt.slice (Str.ofString "mmmmmmmm") none (some (i.val : Int))).cps.toList = List.replicate i.val 109 ∧ (Txt.slice (Str.ofString "mmmmmmmm") (some ((i.val : Int) + 1)) none).cps.toList = List.replicate (7 - i.val) 109 := by decide +kernel
end

section
variable {P : Program} {w : World} {K : PySem.W.Frag} {mg : Str → Option Value} {base : Heap}
theorem scName : FnScope ["_law_seed", "_law_style", "_law_letters", "_law_rest", "_law_wide", "_law_word", "_law_k"] ["_law_seed", "_law_style"] (defScope sName) := ⟨rfl, rfl, rfl, by decide +kernel, rfl, by decide +kernel, by decide +kernel⟩
theorem ok_name {f : Addr} {fd : FuncData} (F : Fun K "_law_name" "_law_name" sName f fd) (T : Txt mg) : FnOk P w K mg base CX0 1 f fd ["_law_seed", "_law_style"] spName := by
  refine F.ok scName (fun vs H Q E h => ?_) (fun cdv A outer s H vs Q E hr h => ?_)
  · obtain ⟨_, _, rfl, _⟩ := h
    rfl
  · obtain ⟨seed, style, rfl, h0, h4, q⟩ := h
    refine ⟨_, pss_cons (ps_set (i := 2) scName.nd rfl (Or.inl rfl) pe_str)
      (pss_cons (ps_set (i := 3) scName.nd rfl (Or.inl rfl) (pe_op op_fdivB (pv 0) pe_int))
      (pss_cut (ps_if (pt_cmpR op_eq (pv 1) pe_int (nomark _)) (pss_one (ps_ret (pe_op op_add_str (pe_op op_add_str (pe_slice sl_str pe_str po_none (po_some (pe_op op_mod (pv 3) pe_int))) (pe_ix ix_str (pv 2) (pe_op op_mod (pe_op op_fdivB (pv 3) pe_int) pe_int) (fun _ _ => rfl))) (pe_slice sl_str pe_str (po_some (pe_op op_add (pe_op op_mod (pv 3) pe_int) pe_int)) po_none)))) pss_nil)
      (pss_cut (ps_if (pt_cmpR op_eq (pv 1) pe_int (nomark _)) (pss_one (ps_ret (pe_ix ix_list (pe_lst pa_s8) (pe_op op_mod (pv 0) pe_int) (fun _ _ => rfl)))) pss_nil)
      (pss_cut (ps_set (i := 4) scName.nd rfl (Or.inl rfl) (pe_ix ix_list (pe_lst (pa_cons pe_int (pa_cons pe_int pa_nil))) (pv 1) (fun _ _ => rfl)))
      (pss_cons (ps_set (i := 5) scName.nd rfl (Or.inl rfl) pe_str)
      (pss_cons (ps_for PassesOwn.never rfl (pi_range1 rfl T.range (pa_cons (pe_op op_add pe_int (pe_op op_mod (pv 0) pe_int)) pa_nil)) (pg_name (i := 6) scName.nd rfl (Or.inl rfl))
        (pss_cons (ps_set (i := 5) scName.nd rfl (Or.inl rfl) (pe_op op_add_str (pv 5) (pe_ix ix_str (pv 2) (pe_op op_mod (pv 3) (pv 4)) (fun _ _ => rfl))))
        (pss_one (ps_set (i := 3) scName.nd rfl (Or.inl rfl) (pe_op op_fdivB (pv 3) (pv 4))))))
      (pss_one (ps_ret (pv 5))))))))), ?_⟩
    have hs := sz1000
    walk_at "dm"
    refine ⟨by decide, by decide, ?_⟩
    refine cut (fun σ' H' => σ' = [some (.int seed), some (.int style), some (.str letters), some (.int (seed / 8)), none, none, none] ∧ H' = H ∧ style ≠ 2) ?_ ?_
    · walk_at "dm"
      refine ⟨rfl, ite2 (fun _ => ?_) (fun h => ⟨rfl, h⟩)⟩
      have hi : ∃ i : _root_.Fin 8, seed / 8 % 8 = (i.val : Int) := ⟨⟨(seed / 8 % 8).toNat, by omega⟩, by show seed / 8 % 8 = (((seed / 8 % 8).toNat : Nat) : Int); omega⟩
      obtain ⟨i, hi⟩ := hi
      rw [hi]
      obtain ⟨m1, m2⟩ := mid_names i
      have l1 : (Txt.slice (Str.ofString "mmmmmmmm") none (some (i.val : Int))).length = i.val := by rw [len_list, m1, List.length_replicate]
      have l2 : (Txt.slice (Str.ofString "mmmmmmmm") (some ((i.val : Int) + 1)) none).length = 7 - i.val := by rw [len_list, m2, List.length_replicate]
      have hl := i.isLt
      refine ⟨by decide, by decide +kernel, by decide, by decide, by decide, by decide +kernel, _, let_at (by omega) (by omega), ?_⟩
      have l3 : ∀ c : Nat, (⟨#[c]⟩ : Str).length = 1 := fun _ => rfl
      rw [l1, l3, app_len, l1, l3, l2]
      refine ⟨by omega, by decide, by decide +kernel, by omega, q _ H (Nm.of_list (l := List.replicate i.val 109 ++ [97 + (seed / 8 / 8 % 26).toNat] ++ List.replicate (7 - i.val) 109) ?_ ?_ ?_ ?_) (Same.refl H)⟩
      · rw [app_list, app_list, m1, m2]
      · simp only [List.length_append, List.length_replicate, List.length_singleton]; omega
      · simp only [List.length_append, List.length_replicate, List.length_singleton]; omega
      · intro c hc
        rcases List.mem_append.mp hc with hc | hc
        · rcases List.mem_append.mp hc with hc | hc
          · rw [(List.mem_replicate.mp hc).2]; exact ⟨by decide, by decide⟩
          · rw [List.mem_singleton.mp hc]; unfold isLet; omega
        · rw [(List.mem_replicate.mp hc).2]; exact ⟨by decide, by decide⟩
    rintro σ1 H1 ⟨rfl, rfl, h2⟩
    refine cut (fun σ' H' => σ' = [some (.int seed), some (.int style), some (.str letters), some (.int (seed / 8)), none, none, none] ∧ H' = H1 ∧ style ≠ 3) ?_ ?_
    · walk_at "dm"
      refine ⟨rfl, ite2 (fun _ => ⟨by omega, fun p hp => ⟨by decide, _, SqL.of upd_same, ?_⟩⟩) (fun h => h)⟩
      have h8 : seed % 8 = 0 ∨ seed % 8 = 1 ∨ seed % 8 = 2 ∨ seed % 8 = 3 ∨ seed % 8 = 4 ∨ seed % 8 = 5 ∨ seed % 8 = 6 ∨ seed % 8 = 7 := by omega
      have nm : ∀ z : Str, (decide (1 ≤ z.length) && decide (z.length ≤ 8) && z.cps.toList.all fun c => decide (97 ≤ c) && decide (c ≤ 122)) = true → Nm z := fun z h => by
        rw [Bool.and_eq_true, Bool.and_eq_true] at h
        refine ⟨by simpa using h.1.1, by simpa using h.1.2, fun c hc => ?_⟩
        have := List.all_eq_true.mp h.2 c hc
        simpa [isLet] using this
      rcases h8 with e | e | e | e | e | e | e | e <;> (rw [e]; exact ⟨_, rfl, q _ _ (nm _ (by decide +kernel)) (Same.updN hp)⟩)
    rintro σ2 H2 ⟨rfl, rfl, h3⟩
    refine cut (fun σ' H' => ∃ wd : Int, (wd = 26 ∨ wd = 2) ∧ σ' = [some (.int seed), some (.int style), some (.str letters), some (.int (seed / 8)), some (.int wd), none, none] ∧ Same H2 H') ?_ ?_
    · walk_at "dm"
      refine ⟨by omega, fun p hp => ⟨_, SqL.of upd_same, ?_⟩⟩
      have h01 : style = 0 ∨ style = 1 := by omega
      rcases h01 with e | e
      · rw [e]; exact ⟨_, rfl, 26, .inl rfl, rfl, Same.updN hp⟩
      · rw [e]; exact ⟨_, rfl, 2, .inr rfl, rfl, Same.updN hp⟩
    rintro σ3 H3 ⟨wd, hwd, rfl, S3⟩
    walk_at "dm"
    refine ⟨by decide, by omega, by omega, ?_⟩
    refine for_steady (H0 := H3) steady_range (fun i σ' H' => ∃ (rest : Int) (z : Str) (o : Option V), σ' = [some (.int seed), some (.int style), some (.str letters), some (.int rest), some (.int wd), some (.str z), o] ∧ H' = H3 ∧ z.length = i ∧ ∀ c ∈ z.cps.toList, isLet c)
      ⟨_, _, none, rfl, rfl, by decide +kernel, fun c hc => by rw [empty_list] at hc; cases hc⟩ (fun _ _ _ _ ⟨_, _, _, _, e, _⟩ => by rw [e]; exact Same.refl _) ?_ ?_
    · rintro i x σ H' hi rfl ⟨rest, z, o, rfl, rfl, hl, ha⟩
      have hw0 : 0 < wd := by omega
      have hm0 := Int.emod_nonneg rest (show wd ≠ 0 by omega)
      have hm1 := Int.emod_lt_of_pos rest hw0
      have hi8 : i < 8 := by omega
      have l3 : ∀ c : Nat, (⟨#[c]⟩ : Str).length = 1 := fun _ => rfl
      walk_at "dm"
      refine ⟨hw0, by decide +kernel, _, let_at hm0 (by omega), by rw [l3]; omega, ⟨_, rfl⟩, hw0, by omega, by rw [app_len, l3, hl], fun c hc => ?_⟩
      rw [app_list] at hc
      rcases List.mem_append.mp hc with hc | hc
      · exact ha c hc
      · rw [List.mem_singleton.mp hc]; unfold isLet; omega
    · rintro σ H' ⟨rest, z, o, rfl, rfl, hl, ha⟩
      walk_at "dm"
      exact q z _ ⟨by omega, by omega, ha⟩ S3
end

section
variable {P : Program} {w : World} {K : PySem.W.Frag} {mg : Str → Option Value} {base : Heap}
theorem range_pick (l : List Nat) : ∀ n, n ≤ l.length → (List.range n).filterMap (fun i => l[i]?) = l.take n
  | 0, _ => by simp
  | n + 1, h => by
    rw [List.range_succ, List.filterMap_append, range_pick l n (by omega), List.take_succ, List.getElem?_eq_getElem (by omega)]
    simp [List.getElem?_eq_getElem (show n < l.length by omega)]
theorem idx_init (n : Nat) (h : 1 ≤ n) : Builtin.Str.strSliceIndices none (some (-1)) 1 n = List.range (n - 1) := by
  rw [StrLaws.sliceIdx_neg_hi none n (by decide) (by omega)]
  have e : (-1 : Int) + (n : Int) = ((n - 1 : Nat) : Int) := by omega
  rw [e]
  have h0 := StrLaws.strSliceIndices_plain (a := 0) (b := n - 1) (len := n) (by omega) (by omega)
  have e0 : Builtin.Str.strSliceIndices none (some ((n - 1 : Nat) : Int)) 1 n = Builtin.Str.strSliceIndices (some ((0 : Nat) : Int)) (some ((n - 1 : Nat) : Int)) 1 n := by
    have m0 : max (0 : Int) (min (0 : Int) (n : Int)) = 0 := by omega
    simp [Builtin.Str.strSliceIndices, m0]
  rw [e0, h0]
  simp
theorem slice_init (z : Str) (h : 1 ≤ z.length) : (Txt.slice z none (some (-1))).cps.toList = z.cps.toList.dropLast := by
  unfold Txt.slice
  rw [idx_init _ h, List.length_range]
  have hne : ¬ ((1 : Int) == 1 && (z.length - 1) == z.length) = true := by
    rw [Bool.and_eq_true]
    intro hh
    have := of_decide_eq_true hh.2
    omega
  rw [if_neg hne]
  show (List.filterMap (fun i => z.cps[i]?) (List.range (z.length - 1))).toArray.toList = _
  have e : (fun i : Nat => z.cps[i]?) = fun i => z.cps.toList[i]? := by funext i; simp
  rw [e, range_pick _ _ (by rw [Array.length_toList]; exact Nat.sub_le _ _), List.dropLast_eq_take, ← len_list]
def mkN (p : List Nat) (k : Nat) : Str := ⟨(p ++ [97 + k % 26]).toArray⟩
theorem mkN_list (p : List Nat) (k : Nat) : (mkN p k).cps.toList = p ++ [97 + k % 26] := by simp [mkN]
theorem mkN_len (p : List Nat) (k : Nat) : (mkN p k).length = p.length + 1 := by rw [len_list, mkN_list]; simp
theorem mkN_inj {p : List Nat} {j k : Nat} (h : mkN p j = mkN p k) : j % 26 = k % 26 := by
  have := congrArg (fun z : Str => z.cps.toList) h
  simp only [mkN_list] at this
  have := List.append_cancel_left this
  simp at this
  exact this
theorem str_ext {a b : Str} (h : a.cps.toList = b.cps.toList) : a = b := by
  have e2 : a.cps = b.cps := Array.toList_inj.mp h
  cases a
  cases b
  simp only at e2
  rw [e2]
theorem Nm.toMk {z : Str} (h : Nm z) : ∃ p k, z = mkN p k ∧ p.length ≤ 7 ∧ ∀ c ∈ p, isLet c := by
  have hne : z.cps.toList ≠ [] := by
    intro e
    have := h.lo
    rw [len_list, e] at this
    simp at this
  have hl := h.all _ (List.getLast_mem hne)
  refine ⟨z.cps.toList.dropLast, z.cps.toList.getLast hne - 97, str_ext ?_, ?_, fun c hc => h.all c (List.dropLast_subset _ hc)⟩
  · rw [mkN_list]
    have e : 97 + (z.cps.toList.getLast hne - 97) % 26 = z.cps.toList.getLast hne := by unfold isLet at hl; omega
    rw [e]; exact (List.dropLast_concat_getLast hne).symm
  · have := h.hi
    rw [len_list] at this
    rw [List.length_dropLast]
    omega
theorem Nm.of_mk {p : List Nat} {k : Nat} (hp : p.length ≤ 7) (ha : ∀ c ∈ p, isLet c) : Nm (mkN p k) := by
  refine Nm.of_list (mkN_list p k) (by simp) (by simp; omega) fun c hc => ?_
  rcases List.mem_append.mp hc with hc | hc
  · exact ha c hc
  · rw [List.mem_singleton.mp hc]; unfold isLet; omega
theorem pigeon : ∀ {l m : List Str}, l.Nodup → (∀ x ∈ l, x ∈ m) → l.length ≤ m.length
  | [], m, _, _ => Nat.zero_le _
  | a :: l, m, hn, hs => by
    obtain ⟨h1, h2⟩ := List.nodup_cons.mp hn
    have ham : a ∈ m := hs a List.mem_cons_self
    have := pigeon (l := l) (m := m.erase a) h2 fun x hx => (List.mem_erase_of_ne (fun e => h1 (by rw [← e]; exact hx))).mpr (hs x (List.mem_cons_of_mem _ hx))
    rw [List.length_erase_of_mem ham] at this
    have hpos := List.length_pos_of_mem ham
    rw [List.length_cons]
    omega
theorem free_letter (p : List Nat) (k : Nat) (ws : List Str) (h : ws.length ≤ 25) : ∃ t, t ≤ 25 ∧ mkN p (k + t) ∉ ws := by
  refine Classical.byContradiction fun hno => ?_
  have hall : ∀ t, t ≤ 25 → mkN p (k + t) ∈ ws := fun t ht => Classical.byContradiction fun hn => hno ⟨t, ht, hn⟩
  have hnd : ((List.range 26).map fun t => mkN p (k + t)).Nodup := by
    refine List.pairwise_map.mpr ?_
    refine List.Pairwise.imp_of_mem ?_ List.nodup_range
    intro a b ha hb hab e
    have := mkN_inj e
    have := List.mem_range.mp ha
    have := List.mem_range.mp hb
    omega
  have := pigeon hnd fun x hx => by
    obtain ⟨t, ht, rfl⟩ := List.mem_map.mp hx
    exact hall t (by have := List.mem_range.mp ht; omega)
  rw [List.length_map, List.length_range] at this
  omega
theorem inV_str (x : Str) : ∀ ws : List Str, inV (.str x) (ws.map V.str) = decide (x ∈ ws)
  | [] => rfl
  | y :: r => by
    have ih := inV_str x r
    unfold inV at ih ⊢
    rw [List.map_cons, List.any_cons, ih]
    show ((y == x) || decide (x ∈ r)) = decide (x ∈ y :: r)
    rw [Bool.eq_iff_iff]
    simp only [Bool.or_eq_true, beq_iff_eq, decide_eq_true_eq, List.mem_cons]
    constructor
    · rintro (h | h)
      · exact .inl h.symm
      · exact .inr h
    · rintro (h | h)
      · exact .inl h.symm
      · exact .inr h
theorem flat_strs (ws : List Str) : (ws.map V.str).all flatV = true := by
  rw [List.all_map]
  exact List.all_eq_true.mpr fun _ _ => rfl
end

section
variable {P : Program} {w : World} {K : PySem.W.Frag} {mg : Str → Option Value} {base : Heap}
def spNames : Sp := fun vs H Q _ => ∃ cell many style mixed : Int, vs = [.int cell, .int many, .int style, .int mixed] ∧ 0 ≤ many ∧ many ≤ 20 ∧ 0 ≤ style ∧ style < 4 ∧ (mixed = 0 ∨ mixed = 1) ∧
  ∀ l (ws : List Str) H', H l = none → Same H H' → H' l = some (.lst (ws.map V.str)) → (ws.length : Int) = many → ws.Nodup → (∀ x ∈ ws, Nm x) → Q (.ref l) H'
theorem scNames : FnScope ["_law_cell", "_law_many", "_law_style", "_law_mixed", "_law_letters", "_law_words", "_law_seed", "_law_one"] ["_law_cell", "_law_many", "_law_style", "_law_mixed"] (defScope sNames) := ⟨rfl, rfl, rfl, by decide +kernel, rfl, by decide +kernel, by decide +kernel⟩
theorem ok_names {f fD fN : Addr} {fd fdD fdN : FuncData} (F : Fun K "_law_names" "_law_names" sNames f fd) (T : Txt mg) (GD : FnOk P w K mg base CX0 1 fD fdD ["_law_cell", "_law_many", "_law_bound", "_law_mixed"] spDraws) (kD : PySem.W.keepIn K (.ref fD) = true) (bD : Binds K fdD ["_law_cell", "_law_many", "_law_bound", "_law_mixed"] []) (mD : mg "_law_draws" = some (.ref fD))
    (GN : FnOk P w K mg base CX0 1 fN fdN ["_law_seed", "_law_style"] spName) (kN : PySem.W.keepIn K (.ref fN) = true) (bN : Binds K fdN ["_law_seed", "_law_style"] []) (mN : mg "_law_name" = some (.ref fN)) :
    FnOk P w K mg base CX0 2 f fd ["_law_cell", "_law_many", "_law_style", "_law_mixed"] spNames := by
  refine F.ok scNames (fun vs H Q E h => ?_) (fun cdv A outer s H vs Q E hr h => ?_)
  · obtain ⟨_, _, _, _, rfl, _⟩ := h
    rfl
  · obtain ⟨cell, many, style, mixed, rfl, hm0, hm1, hs0, hs4, hmix, q⟩ := h
    refine ⟨_, pss_cons (ps_set (i := 4) scNames.nd rfl (Or.inl rfl) pe_str)
      (pss_cons (ps_set (i := 5) scNames.nd rfl (Or.inl rfl) (pe_lst pa_nil))
      (pss_cons (ps_for PassesOwn.never rfl (pi_list (pe_call GD hr rfl mD kD bD .nil pass0 (pa_cons (pv 0) (pa_cons (pv 1) (pa_cons (pe_op op_mul pe_int (pe_op op_pow pe_int pe_int)) (pa_cons (pv 3) pa_nil)))))) (pg_name (i := 6) scNames.nd rfl (Or.inl rfl))
        (pss_cons (ps_set (i := 7) scNames.nd rfl (Or.inl rfl) (pe_call GN hr rfl mN kN bN .nil pass0 (pa_cons (pv 6) (pa_cons (pv 2) pa_nil))))
        (pss_cut (ps_while PassesOwn.never (pt_cmpR op_in_seq (pv 7) (pv 5) (by with_unfolding_all rfl)) (pss_one (ps_set (i := 7) scNames.nd rfl (Or.inl rfl) (pe_op op_add_str (pe_slice sl_str (pv 7) po_none (po_some (pe_un un_neg pe_int))) (pe_ix ix_str (pv 4) (pe_op op_mod (pe_op op_add (pe_bm PySem.F.plainAttrs_str PySem.F.slot_str_index PySem.F.type_str_index (mt_index rfl) (pv 4) (pa_cons (pe_ix ix_str (pv 7) (pe_un un_neg pe_int) (fun _ _ => rfl)) pa_nil)) pe_int) pe_int) (fun _ _ => rfl))))))
        (pss_one (ps_expr (pe_bm PySem.F.plainAttrs_list PySem.F.slot_list_append PySem.F.type_list_append mt_append (pv 5) (pa_cons (pv 7) pa_nil)))))))
      (pss_one (ps_ret (pv 5))))), ?_⟩
    have hs := sz1000
    walk_at "dm"
    refine ⟨by omega, fun p hp => ⟨⟨by decide, by decide, by decide⟩, .inl ⟨by decide, by decide⟩, _, _, _, _, rfl, hm0, by omega, by decide, by decide, hmix, fun l H1 hl S1 hH1 => ?_⟩⟩
    walk_at "dm"
    have hpl : p ≠ l := fun e => by rw [e, upd_same] at hl; cases hl
    have hHl : H l = none := by rw [upd_ne (Ne.symm hpl)] at hl; exact hl
    have hL := draws_len cell (8 * 26 ^ Int.toNat 8) mixed many.toNat
    generalize drawsL cell (8 * 26 ^ Int.toNat 8) mixed many.toNat = L at hH1 hL
    have S0 : Same (upd H l (.lst (L.map V.int))) H1 := fun b o e => by
      by_cases hb : b = l
      · rw [hb, upd_same] at e; rw [hb, ← e]; exact hH1
      · rw [upd_ne hb] at e
        exact S1 b o (by rw [upd_ne (ne_of_none e hp)]; exact e)
    have hp0 : (upd H l (.lst (L.map V.int))) p = none := by rw [upd_ne hpl]; exact hp
    refine ⟨⟨_, SqL.of hH1⟩, ?_⟩
    refine for_steady (H0 := upd H l (.lst (L.map V.int))) (steady_list (SqL.of upd_same)) (fun i σ' H' => ∃ (ws : List Str) (o1 o2 : Option V), σ' = [some (.int cell), some (.int many), some (.int style), some (.int mixed), some (.str letters), some (.ref p), o1, o2] ∧
      Same (upd H l (.lst (L.map V.int))) H' ∧ H' p = some (.lst (ws.map V.str)) ∧ ws.length = i ∧ ws.Nodup ∧ ∀ x ∈ ws, Nm x)
      ⟨[], none, none, rfl, S0, S1 _ _ upd_same, rfl, List.nodup_nil, fun x hx => by cases hx⟩ (fun _ _ _ _ ⟨_, _, _, _, h, _⟩ => h) ?_ ?_
    · rintro i x σ H' hi hx ⟨ws, o1, o2, rfl, hS, hH, hwl, hnd, hnm⟩
      rw [List.getElem?_map] at hx
      obtain ⟨y, hy, rfl⟩ := Option.map_eq_some_iff.mp hx
      rw [List.length_map] at hi
      walk_at "dm"
      refine ⟨_, _, rfl, hs0, hs4, fun z H2 hz S2 => ?_⟩
      have hH2 : H2 p = some (.lst (ws.map V.str)) := S2 _ _ hH
      refine cut (fun σ' H' => ∃ z', Nm z' ∧ z' ∉ ws ∧ σ' = [some (.int cell), some (.int many), some (.int style), some (.int mixed), some (.str letters), some (.ref p), some (.int y), some (.str z')] ∧ H' = H2) ?_ ?_
      · obtain ⟨pp, k0, rfl, hp7, hpa⟩ := hz.toMk
        obtain ⟨t0, ht0, hfree⟩ := free_letter pp k0 ws (by omega)
        refine ⟨fun m σ' H' => ∃ k t, t ≤ m ∧ mkN pp (k + t) ∉ ws ∧ σ' = [some (.int cell), some (.int many), some (.int style), some (.int mixed), some (.str letters), some (.ref p), some (.int y), some (.str (mkN pp k))] ∧ H' = H2, ⟨25, k0, t0, ht0, hfree, rfl, rfl⟩, ?_⟩
        rintro m σ' H' ⟨k, t, htm, hfr, rfl, rfl⟩
        walk_at "dm"
        refine ⟨_, .inl (SqL.of hH2), rfl, flat_strs ws, ?_⟩
        rw [inV_str]
        refine ite2 (fun hin => ?_) (fun hin => ?_)
        · have hin' : mkN pp k ∈ ws := of_decide_eq_true hin
          have ht : t ≠ 0 := fun e => hfr (by rw [e]; exact hin')
          have hlen8 : (mkN pp k).length ≤ 8 := by rw [mkN_len]; omega
          have hlet : isLet (97 + k % 26) := by unfold isLet; omega
          have hf := find_let hlet
          have hn1 : 97 + k % 26 - 97 = k % 26 := by omega
          rw [hn1] at hf
          have hsl : (Txt.slice (mkN pp k) none (some (-1))).cps.toList = pp := by rw [slice_init _ (by rw [mkN_len]; omega), mkN_list, List.dropLast_concat]
          have hsll : (Txt.slice (mkN pp k) none (some (-1))).length = pp.length := by rw [len_list, hsl]
          have e1 : (((k % 26 : Nat) : Int) + 1) % 26 = (((k + 1) % 26 : Nat) : Int) := by omega
          have hnew : Txt.slice (mkN pp k) none (some (-1)) ++ (⟨#[97 + (((k + 1) % 26 : Nat) : Int).toNat]⟩ : Str) = mkN pp (k + 1) := by
            refine str_ext ?_
            rw [app_list, hsl, mkN_list, Int.toNat_natCast]
          refine ⟨fun σ' H'' => σ' = [some (.int cell), some (.int many), some (.int style), some (.int mixed), some (.str letters), some (.ref p), some (.int y), some (.str (mkN pp (k + 1)))] ∧ H'' = H', ?_, by omega, rfl, by omega, _, by rw [mkN_list]; exact atI_last _ _, by rw [hf]; omega, by decide, by decide +kernel, _, by rw [hf, e1]; exact let_at (by omega) (by omega), ?_, ?_⟩
          · rintro σ' H'' ⟨rfl, rfl⟩
            refine ⟨m - 1, by omega, k + 1, t - 1, by omega, ?_, rfl, rfl⟩
            rw [show k + 1 + (t - 1) = k + t by omega]
            exact hfr
          · rw [hsll]; show pp.length + 1 ≤ sizeLine; omega
          · rw [hnew]; exact ⟨rfl, rfl⟩
        · have hin' : mkN pp k ∉ ws := of_decide_eq_false (by simpa using hin)
          exact ⟨mkN pp k, Nm.of_mk hp7 hpa, hin', rfl⟩
      rintro σ2 H3 ⟨z', hz', hnin, rfl, rfl⟩
      walk_at "dm"
      have hnd' : (ws ++ [z']).Nodup := nd_snoc hnd hnin
      refine ⟨.inl ⟨rfl, _, SqL.of hH2⟩, _, hH2, by rw [List.length_map]; omega, ⟨_, rfl⟩, (fun b o e => by rw [upd_ne (ne_of_none e hp0)]; exact S2 b o (hS b o e)), ws ++ [z'], ?_, ?_, hnd', ?_⟩
      · rw [upd_same, List.map_append]; rfl
      · rw [List.length_append, hwl]; rfl
      · intro x hx
        rcases List.mem_append.mp hx with hx | hx
        · exact hnm x hx
        · rw [List.mem_singleton.mp hx]; exact hz'
    · rintro σ H' ⟨ws, o1, o2, rfl, hS, hH, hwl, hnd, hnm⟩
      walk_at "dm"
      refine q p ws H' hp (fun b o e => hS b o (by rw [upd_ne (ne_of_none e hHl)]; exact e)) hH ?_ hnd hnm
      rw [hwl, List.length_map]; omega
end

section
variable {P : Program} {w : World} {K : PySem.W.Frag} {mg : Str → Option Value} {base : Heap}
def inR (n : Nat) (l : List Int) : Prop := l.length = n ∧ ∀ x ∈ l, 0 ≤ x ∧ x < n
def spTurned (K : PySem.W.Frag) : Sp := fun vs H Q _ => ∃ (n : Nat) (shape : Int) (a : Addr) (L : List Int), vs = [.int n, .int shape, .ref a] ∧ 1 ≤ n ∧ n ≤ 12 ∧ SqL K H a (L.map V.int) ∧ inR n L ∧
  ∀ l (os : List Int) H', H l = none → Same H H' → H' l = some (.lst (os.map V.int)) → inR n os → Q (.ref l) H'
theorem inR_get {n : Nat} {l : List Int} (h : inR n l) {i : Nat} (hi : i < n) : ∃ x, l[i]? = some x ∧ 0 ≤ x ∧ x < n := by
  have hl : i < l.length := by rw [h.1]; exact hi
  exact ⟨l[i], List.getElem?_eq_getElem hl, h.2 _ (List.getElem_mem hl)⟩
theorem inR_snoc {n k : Nat} {l : List Int} {x : Int} (h : l.length = k ∧ ∀ y ∈ l, 0 ≤ y ∧ y < n) (h0 : 0 ≤ x) (h1 : x < n) : (l ++ [x]).length = k + 1 ∧ ∀ y ∈ l ++ [x], 0 ≤ y ∧ y < n := by
  refine ⟨by rw [List.length_append, h.1]; rfl, fun y hy => ?_⟩
  rcases List.mem_append.mp hy with hy | hy
  · exact h.2 y hy
  · rw [List.mem_singleton.mp hy]; exact ⟨h0, h1⟩
theorem atI_int {L : List Int} {i : Nat} {x : Int} (h : L[i]? = some x) : atI (L.map V.int) (i : Int) = some (V.int x) := atI_nat (by rw [List.getElem?_map, h]; rfl)
theorem scTurned : FnScope ["_law_many", "_law_shape_here", "_law_drawn_here", "_law_outs_here", "_law_k", "_law_low", "_law_high"] ["_law_many", "_law_shape_here", "_law_drawn_here"] (defScope sTurned) := ⟨rfl, rfl, rfl, by decide +kernel, rfl, by decide +kernel, by decide +kernel⟩
theorem ok_turned {f : Addr} {fd : FuncData} (F : Fun K "_law_turned" "_law_turned" sTurned f fd) (T : Txt mg) : FnOk P w K mg base CX0 1 f fd ["_law_many", "_law_shape_here", "_law_drawn_here"] (spTurned K) := by
  refine F.ok scTurned (fun vs H Q E h => ?_) (fun cdv A outer s H vs Q E hr h => ?_)
  · obtain ⟨_, _, _, _, rfl, _⟩ := h
    rfl
  · obtain ⟨n, shape, a, L, rfl, hn1, hn12, ha, hL, q⟩ := h
    refine ⟨_, pss_cut (ps_if (pt_cmpR op_eq (pv 1) pe_int (nomark _)) (pss_one (ps_ret (pe_comp (N' := ["_law_k", "_law_many", "_law_drawn_here"]) (pk := [none, some 0, some 2]) rfl (BlkOk.of (by rfl)) (pi_range1 rfl T.range (pa_cons (pv 0) pa_nil)) (fun s H ex => pg_name (i := 0) (by show (["_law_k", "_law_many", "_law_drawn_here"] : List Str).Nodup; decide +kernel) rfl (Or.inl rfl))
          (fun s H ex => pe_callB (call_min2 rfl) (by rfl) T.min (by decide +kernel) (pa_cons (pe_op op_add (pv 0) (pe_op op_mod (pe_ix (ix_list : IxR _ (rIxL K)) (pv 2) (pv 0) (fun _ _ => rfl)) pe_int)) (pa_cons (pe_op op_sub (pv 1) pe_int) pa_nil)))))) pss_nil)
      (pss_cut (ps_if (pt_cmpR op_eq (pv 1) pe_int (nomark _)) (pss_one (ps_ret (pe_op op_rep (pe_lst (pa_cons (pe_ix ix_list (pv 2) pe_int (fun _ _ => rfl)) pa_nil)) (pv 0)))) pss_nil)
      (pss_cons (ps_set (i := 3) scTurned.nd rfl (Or.inl rfl) (pe_lst pa_nil))
      (pss_cons (ps_for PassesOwn.never rfl (pi_range1 rfl T.range (pa_cons (pv 0) pa_nil)) (pg_name (i := 4) scTurned.nd rfl (Or.inl rfl))
        (pss_cut (ps_set (i := 5) scTurned.nd rfl (Or.inl rfl) (pe_ix ix_list (pe_lst (pa_cons pe_int (pa_cons (pe_op op_fdivB (pv 0) pe_int) pa_nil))) (pe_callTy call_int1 (by rfl) T.int (by decide +kernel) (pa_cons (pe_cmpR op_ge (pv 4) (pe_op op_fdivB (pv 0) pe_int) (nomark _)) pa_nil)) (fun _ _ => rfl)))
        (pss_cut (ps_set (i := 6) scTurned.nd rfl (Or.inl rfl) (pe_ix ix_list (pe_lst (pa_cons (pe_op op_fdivB (pv 0) pe_int) (pa_cons (pv 0) pa_nil))) (pe_callTy call_int1 (by rfl) T.int (by decide +kernel) (pa_cons (pe_cmpR op_ge (pv 4) (pe_op op_fdivB (pv 0) pe_int) (nomark _)) pa_nil)) (fun _ _ => rfl)))
        (pss_one (ps_if (pt_cmpR op_eq (pv 1) pe_int (nomark _))
          (pss_cut (ps_set (i := 5) scTurned.nd rfl (Or.inl rfl) (pe_ix ix_list (pe_lst (pa_cons pe_int (pa_cons pe_int (pa_cons pe_int pa_nil)))) (pe_op op_add (pe_callTy call_int1 (by rfl) T.int (by decide +kernel) (pa_cons (pe_cmpR op_ge (pv 4) pe_int (nomark _)) pa_nil)) (pe_callTy call_int1 (by rfl) T.int (by decide +kernel) (pa_cons (pe_cmpR op_ge (pv 4) pe_int (nomark _)) pa_nil))) (fun _ _ => rfl)))
          (pss_cut (ps_set (i := 6) scTurned.nd rfl (Or.inl rfl) (pe_callB (call_min2 rfl) (by rfl) T.min (by decide +kernel) (pa_cons (pe_ix ix_list (pe_lst (pa_cons pe_int (pa_cons pe_int (pa_cons pe_int pa_nil)))) (pe_op op_add (pe_callTy call_int1 (by rfl) T.int (by decide +kernel) (pa_cons (pe_cmpR op_ge (pv 4) pe_int (nomark _)) pa_nil)) (pe_callTy call_int1 (by rfl) T.int (by decide +kernel) (pa_cons (pe_cmpR op_ge (pv 4) pe_int (nomark _)) pa_nil))) (fun _ _ => rfl)) (pa_cons (pv 0) pa_nil))))
          (pss_one (ps_expr (pe_bm PySem.F.plainAttrs_list PySem.F.slot_list_append PySem.F.type_list_append mt_append (pv 3) (pa_cons (pe_ix ix_list (pe_lst (pa_cons (pv 5) (pa_cons (pe_op op_add (pv 4) pe_int) pa_nil))) (pe_callTy call_int1 (by rfl) T.int (by decide +kernel) (pa_cons (pe_cmpR op_lt (pe_op op_add (pv 4) pe_int) (pv 6) (nomark _)) pa_nil)) (fun _ _ => rfl)) pa_nil))))))
          (pss_one (ps_expr (pe_bm PySem.F.plainAttrs_list PySem.F.slot_list_append PySem.F.type_list_append mt_append (pv 3) (pa_cons (pe_op op_add (pv 5) (pe_op op_mod (pe_ix ix_list (pv 2) (pv 4) (fun _ _ => rfl)) (pe_op op_sub (pv 6) (pv 5)))) pa_nil)))))))))
      (pss_one (ps_ret (pv 3)))))), ?_⟩
    have hs := sz1000
    refine cut (fun σ' H' => σ' = [some (.int n), some (.int shape), some (.ref a), none, none, none, none] ∧ H' = H) ?_ ?_
    · walk_at "dm"
      refine ⟨rfl, ite2 (fun h4 => ⟨by omega, by omega, fun D hD => ?_⟩) (fun _ => trivial)⟩
      have out : ∀ i, ∃ y : Int, i < n → ∃ x, L[i]? = some x ∧ (0 ≤ y ∧ y < n) ∧ y = (if (n : Int) - 1 < (0 + (i : Int)) + x % 2 then (n : Int) - 1 else (0 + (i : Int)) + x % 2) := fun i => by
        by_cases hi : i < n
        · obtain ⟨x, hx, h0, h1⟩ := inR_get hL hi
          refine ⟨_, fun _ => ⟨x, hx, ?_, rfl⟩⟩
          split <;> omega
        · exact ⟨0, fun h => absurd h hi⟩
      refine comp_pure steady_range (by omega) hD (fun σ => ∃ o, σ = [o, some (.int n), some (.ref a)]) (fun i => .int (out i).choose) ⟨none, rfl⟩ ?_ ?_
      · rintro i x σ' H' hi rfl ⟨o, rfl⟩ hS R hR
        obtain ⟨x, hx, _, e⟩ := (out i).choose_spec (by omega)
        walk_at "dm"
        refine ⟨_, hS.seq ha, V.int x, ?_, _, rfl, by decide, ?_⟩
        · rw [show (0 : Int) + (i : Int) = (i : Int) by omega]; exact atI_int hx
        · rw [← e]; exact hR _ ⟨_, rfl⟩
      · have en : ((n : Int)).toNat = n := by omega
        rw [en]
        refine q D ((List.range n).map fun i => (out i).choose) _ hD (Same.updN hD) ?_ ⟨by rw [List.length_map, List.length_range], fun x hx => ?_⟩
        · rw [upd_same, List.map_map]; rfl
        · obtain ⟨i, hi, rfl⟩ := List.mem_map.mp hx
          obtain ⟨_, _, h, _⟩ := (out i).choose_spec (List.mem_range.mp hi)
          exact h
    rintro σ1 H1 ⟨rfl, rfl⟩
    refine cut (fun σ' H' => σ' = [some (.int n), some (.int shape), some (.ref a), none, none, none, none] ∧ H' = H1) ?_ ?_
    · walk_at "dm"
      refine ⟨rfl, ite2 (fun h6 => ?_) (fun _ => trivial)⟩
      obtain ⟨x, hx, h0, h1⟩ := inR_get hL (show 0 < n by omega)
      refine ⟨_, ha, _, atI_int hx, by omega, fun p hp => ⟨_, upd_same, by omega, by omega, ?_, fun p1 hp1 => ?_⟩⟩
      · rw [List.length_singleton]; omega
      · have en : ((n : Int)).toNat = n := by omega
        rw [en]
        have hp1' : H1 p1 = none := (Same.updN hp).free hp1
        refine q p1 (List.replicate n x) _ hp1' ((Same.updN hp).step hp1') ?_ ⟨List.length_replicate, fun y hy => ?_⟩
        · rw [upd_same, List.map_replicate, List.flatten_replicate_singleton]
        · rw [(List.mem_replicate.mp hy).2]; exact ⟨h0, h1⟩
    rintro σ2 H2 ⟨rfl, rfl⟩
    walk_at "dm"
    refine ⟨by omega, fun p hp => ⟨by omega, by omega, ?_⟩⟩
    refine for_steady (H0 := H2) steady_range (fun i σ' H' => ∃ (os : List Int) (o4 o5 o6 : Option V), σ' = [some (.int n), some (.int shape), some (.ref a), some (.ref p), o4, o5, o6] ∧ Same H2 H' ∧ H' p = some (.lst (os.map V.int)) ∧ os.length = i ∧ ∀ y ∈ os, 0 ≤ y ∧ y < n)
      ⟨[], none, none, none, rfl, Same.updN hp, upd_same, rfl, fun y hy => by cases hy⟩ (fun _ _ _ _ ⟨_, _, _, _, _, h, _⟩ => h) ?_ ?_
    · rintro i x σ H' hi rfl ⟨os, o4, o5, o6, rfl, hS, hH, hl⟩
      have hin : i < n := by omega
      have ei : (0 : Int) + (i : Int) = i := by omega
      rw [ei]
      walk_at "dm"
      refine cut (fun σ' H'' => ∃ lo : Int, lo = (if (n : Int) / 2 ≤ i then (n : Int) / 2 else 0) ∧ σ' = [some (.int n), some (.int shape), some (.ref a), some (.ref p), some (.int i), some (.int lo), o6] ∧ Same H2 H'' ∧ H'' p = some (.lst (os.map V.int))) ?_ ?_
      · walk_at "dm"
        refine ⟨by decide, by decide, by omega, fun p1 hp1 => ⟨by decide, by decide, .inr ⟨_, SqL.of upd_same, V.int (if (n : Int) / 2 ≤ i then (n : Int) / 2 else 0), ?_, rfl, hS.step (hS.free hp1), ?_⟩⟩⟩
        · split <;> rfl
        · rw [upd_ne (ne_of_none hH hp1)]; exact hH
      rintro σ3 H3 ⟨lo, hlo, rfl, S3, hH3⟩
      refine cut (fun σ' H'' => ∃ hi : Int, hi = (if (n : Int) / 2 ≤ i then (n : Int) else (n : Int) / 2) ∧ σ' = [some (.int n), some (.int shape), some (.ref a), some (.ref p), some (.int i), some (.int lo), some (.int hi)] ∧ Same H2 H'' ∧ H'' p = some (.lst (os.map V.int))) ?_ ?_
      · walk_at "dm"
        refine ⟨by decide, by decide, by omega, fun p1 hp1 => ⟨by decide, by decide, .inr ⟨_, SqL.of upd_same, V.int (if (n : Int) / 2 ≤ i then (n : Int) else (n : Int) / 2), ?_, rfl, S3.step (S3.free hp1), ?_⟩⟩⟩
        · split <;> rfl
        · rw [upd_ne (ne_of_none hH3 hp1)]; exact hH3
      rintro σ4 H4 ⟨hi, hhi, rfl, S4, hH4⟩
      walk_at "dm"
      refine ⟨rfl, ite2 (fun h7 => ?_) (fun h7 => ?_)⟩
      · refine cut (fun σ' H'' => ∃ lo : Int, (0 ≤ lo ∧ lo ≤ i) ∧ σ' = [some (.int n), some (.int shape), some (.ref a), some (.ref p), some (.int i), some (.int lo), some (.int hi)] ∧ Same H2 H'' ∧ H'' p = some (.lst (os.map V.int))) ?_ ?_
        · walk_at "dm"
          refine ⟨by omega, fun p1 hp1 => .inr (.inr ?_)⟩
          refine ⟨_, SqL.of upd_same, V.int (if (7 : Int) ≤ i then 7 else if (3 : Int) ≤ i then 3 else 0), ?_, _, ?_, ?_, rfl, S4.step (S4.free hp1), ?_⟩
          · by_cases c7 : (7 : Int) ≤ i
            · rw [if_pos c7, if_pos c7, if_pos (show (3 : Int) ≤ i by omega)]; rfl
            · rw [if_neg c7, if_neg c7]; split <;> rfl
          · split <;> (try split) <;> omega
          · split <;> (try split) <;> omega
          · rw [upd_ne (ne_of_none hH4 hp1)]; exact hH4
        rintro σ5 H5 ⟨lo', hlo', rfl, S5, hH5⟩
        refine cut (fun σ' H'' => ∃ hi : Int, hi ≤ n ∧ σ' = [some (.int n), some (.int shape), some (.ref a), some (.ref p), some (.int i), some (.int lo'), some (.int hi)] ∧ Same H2 H'' ∧ H'' p = some (.lst (os.map V.int))) ?_ ?_
        · walk_at "dm"
          refine ⟨by omega, fun p1 hp1 => .inr (.inr ?_)⟩
          refine ⟨_, SqL.of upd_same, V.int (if (7 : Int) ≤ i then 12 else if (3 : Int) ≤ i then 7 else 3), ?_, _, rfl, _, ?_, rfl, S5.step (S5.free hp1), ?_⟩
          · by_cases c7 : (7 : Int) ≤ i
            · rw [if_pos c7, if_pos c7, if_pos (show (3 : Int) ≤ i by omega)]; rfl
            · rw [if_neg c7, if_neg c7]; split <;> rfl
          · split <;> omega
          · rw [upd_ne (ne_of_none hH5 hp1)]; exact hH5
        rintro σ6 H6 ⟨hi', hhi', rfl, S6, hH6⟩
        walk_at "dm"
        refine ⟨.inl ⟨rfl, _, SqL.of hH6⟩, by omega, fun p1 hp1 => .inr ⟨_, SqL.of upd_same, V.int (if (i : Int) + 1 < hi' then (i : Int) + 1 else lo'), ?_, _, by rw [upd_ne (ne_of_none hH6 hp1)]; exact hH6, by rw [List.length_map]; omega, ⟨_, rfl⟩, (S6.step (S6.free hp1)).step hp, os ++ [if (i : Int) + 1 < hi' then (i : Int) + 1 else lo'], ?_, inR_snoc hl ?_ ?_⟩⟩
        · split <;> rfl
        · rw [upd_same, List.map_append]; rfl
        · split <;> omega
        · split <;> omega
      · obtain ⟨x, hx, h0, h1⟩ := inR_get hL hin
        have hpos : 0 < hi - lo := by rw [hhi, hlo]; split <;> omega
        have hm0 := Int.emod_nonneg x (show hi - lo ≠ 0 by omega)
        have hm1 := Int.emod_lt_of_pos x hpos
        have hlo0 : 0 ≤ lo := by rw [hlo]; split <;> omega
        have hhin : hi ≤ n := by rw [hhi]; split <;> omega
        refine ⟨.inl ⟨rfl, _, SqL.of hH4⟩, _, S4.seq ha, _, atI_int hx, _, rfl, hpos, _, hH4, by rw [List.length_map]; omega, ⟨_, rfl⟩, S4.step hp, os ++ [lo + x % (hi - lo)], ?_, inR_snoc hl (by omega) (by omega)⟩
        rw [upd_same, List.map_append]; rfl
    · rintro σ H' ⟨os, o4, o5, o6, rfl, hS, hH, hl⟩
      walk_at "dm"
      have en : ((n : Int)).toNat = n := by omega
      rw [en] at hl
      exact q p os H' hp hS hH hl
end

section
variable {P : Program} {w : World} {K : PySem.W.Frag} {mg : Str → Option Value} {base : Heap}
def spOuts : Sp := fun vs H Q _ => ∃ (cell : Int) (n : Nat) (shape mixed : Int), vs = [.int cell, .int n, .int shape, .int mixed] ∧ 1 ≤ n ∧ n ≤ 12 ∧ (mixed = 0 ∨ mixed = 1) ∧
  ∀ l (os : List Int) H', H l = none → Same H H' → H' l = some (.lst (os.map V.int)) → inR n os → Q (.ref l) H'
theorem ixN_nat {n j : Nat} (h : j < n) : ixN n (j : Int) = some j := by
  unfold ixN
  rw [if_pos (by omega), if_pos (by omega)]
  simp
theorem idx_of {n : Nat} {k : Int} (h0 : 0 ≤ k) (h1 : k < n) : seqIndex? k n = some k.toNat := by
  obtain ⟨j, rfl⟩ := Int.eq_ofNat_of_zero_le h0
  rw [Int.toNat_natCast]
  exact (ixN_seq (ixN_nat (by omega))).1
theorem set_inR {n i : Nat} {l : List Int} {x : Int} (h : inR n l) (h0 : 0 ≤ x) (h1 : x < n) : inR n (l.set i x) := by
  refine ⟨by rw [List.length_set]; exact h.1, fun y hy => ?_⟩
  rcases List.mem_or_eq_of_mem_set hy with hy | hy
  · exact h.2 y hy
  · rw [hy]; exact ⟨h0, h1⟩
theorem atI_lastI {L : List Int} (h : 1 ≤ L.length) : ∃ x ∈ L, atI (L.map V.int) (-1) = some (V.int x) := by
  have hne : L ≠ [] := fun e => by rw [e] at h; simp at h
  refine ⟨L.getLast hne, List.getLast_mem hne, ?_⟩
  have e : L.map V.int = L.dropLast.map V.int ++ [V.int (L.getLast hne)] := by
    rw [← List.map_singleton, ← List.map_append, List.dropLast_concat_getLast hne]
  rw [e]
  exact atI_last _ _
theorem erase_inR {n m i : Nat} {l : List Int} (h : l.length = m + 1 ∧ ∀ y ∈ l, 0 ≤ y ∧ y < n) (hi : i < m + 1) : (l.eraseIdx i).length = m ∧ ∀ y ∈ l.eraseIdx i, 0 ≤ y ∧ y < n := by
  refine ⟨by rw [List.length_eraseIdx_of_lt (by omega)]; omega, fun y hy => h.2 y (List.mem_of_mem_eraseIdx hy)⟩
theorem er_map {α β : Type} (f : α → β) : ∀ (l : List α) (i : Nat), (l.map f).eraseIdx i = (l.eraseIdx i).map f
  | [], _ => rfl
  | _ :: _, 0 => rfl
  | x :: r, i + 1 => congrArg (f x :: ·) (er_map f r i)
theorem rng_list (n : Nat) : (List.range n).map (fun i : Nat => V.int i) = ((List.range n).map fun i : Nat => (i : Int)).map V.int := by rw [List.map_map]; rfl
theorem rng_in (n : Nat) : inR n ((List.range n).map fun i : Nat => (i : Int)) := ⟨by rw [List.length_map, List.length_range], fun x hx => by
  obtain ⟨i, hi, rfl⟩ := List.mem_map.mp hx
  have := List.mem_range.mp hi
  omega⟩
theorem scOuts : FnScope ["_law_cell", "_law_many", "_law_shape_here", "_law_mixed", "_law_drawn_here", "_law_left", "_law_outs_here", "_law_one"] ["_law_cell", "_law_many", "_law_shape_here", "_law_mixed"] (defScope sOuts) := ⟨rfl, rfl, rfl, by decide +kernel, rfl, by decide +kernel, by decide +kernel⟩
theorem ok_outs {f fD fT : Addr} {fd fdD fdT : FuncData} (F : Fun K "_law_outs" "_law_outs" sOuts f fd) (T : Txt mg) (GD : FnOk P w K mg base CX0 1 fD fdD ["_law_cell", "_law_many", "_law_bound", "_law_mixed"] spDraws) (kD : PySem.W.keepIn K (.ref fD) = true) (bD : Binds K fdD ["_law_cell", "_law_many", "_law_bound", "_law_mixed"] []) (mD : mg "_law_draws" = some (.ref fD))
    (GT : FnOk P w K mg base CX0 1 fT fdT ["_law_many", "_law_shape_here", "_law_drawn_here"] (spTurned K)) (kT : PySem.W.keepIn K (.ref fT) = true) (bT : Binds K fdT ["_law_many", "_law_shape_here", "_law_drawn_here"] []) (mT : mg "_law_turned" = some (.ref fT)) :
    FnOk P w K mg base CX0 2 f fd ["_law_cell", "_law_many", "_law_shape_here", "_law_mixed"] spOuts := by
  refine F.ok scOuts (fun vs H Q E h => ?_) (fun cdv A outer s H vs Q E hr h => ?_)
  · obtain ⟨_, _, _, _, rfl, _⟩ := h
    rfl
  · obtain ⟨cell, n, shape, mixed, rfl, hn1, hn12, hmix, q⟩ := h
    refine ⟨_, pss_cut (ps_set (i := 4) scOuts.nd rfl (Or.inl rfl) (pe_call GD hr rfl mD kD bD .nil pass0 (pa_cons (pv 0) (pa_cons (pv 1) (pa_cons (pv 1) (pa_cons (pv 3) pa_nil))))))
      (pss_cut (ps_if (pt_cmpR op_eq (pv 2) pe_int (nomark _)) (pss_one (ps_ret (pv 4))) pss_nil)
      (pss_cut (ps_if (pt_cmpR op_eq (pv 2) pe_int (nomark _))
        (pss_cons (ps_set (i := 5) scOuts.nd rfl (Or.inl rfl) (pe_callTy (call_listR rfl) (by rfl) T.list (by decide +kernel) (pa_cons (pe_callTy call_rangeO (by rfl) T.range (by decide +kernel) (pa_cons (pv 1) pa_nil)) pa_nil)))
        (pss_cons (ps_set (i := 6) scOuts.nd rfl (Or.inl rfl) (pe_lst pa_nil))
        (pss_cons (ps_for PassesOwn.never rfl (pi_list (pv 4)) (pg_name (i := 7) scOuts.nd rfl (Or.inl rfl))
          (pss_one (ps_expr (pe_bm PySem.F.plainAttrs_list PySem.F.slot_list_append PySem.F.type_list_append mt_append (pv 6) (pa_cons (pe_bm PySem.F.plainAttrs_list PySem.F.slot_list_pop PySem.F.type_list_pop mt_popAt (pv 5) (pa_cons (pe_op op_mod (pv 7) (pe_callB call_len_seq (by rfl) T.len PySem.boot_len (pa_cons (pv 5) pa_nil))) pa_nil)) pa_nil)))))
        (pss_one (ps_ret (pv 6)))))) pss_nil)
      (pss_cut (ps_if (pt_cmpR op_eq (pv 2) pe_int (nomark _)) (pss_one (ps_ret (pe_comp (N' := ["_law_k", "_law_many"]) (pk := [none, some 1]) rfl (BlkOk.of (by rfl)) (pi_range1 rfl T.range (pa_cons (pv 1) pa_nil)) (fun s H ex => pg_name (i := 0) (by show (["_law_k", "_law_many"] : List Str).Nodup; decide +kernel) rfl (Or.inl rfl))
          (fun s H ex => pe_op op_mod (pe_op op_add (pv 0) pe_int) (pv 1))))) pss_nil)
      (pss_cut (ps_if (pt_cmpR op_eq (pv 2) pe_int (nomark _))
        (pss_cons (ps_set (i := 6) scOuts.nd rfl (Or.inl rfl) (pe_callTy (call_listR rfl) (by rfl) T.list (by decide +kernel) (pa_cons (pe_callTy call_rangeO (by rfl) T.range (by decide +kernel) (pa_cons (pv 1) pa_nil)) pa_nil)))
        (pss_cons (ps_asg (pe_ix ix_list (pv 4) (pe_un un_neg pe_int) (fun _ _ => rfl)) (pg_sub (pv 6) (pe_ix ix_list (pv 4) pe_int (fun _ _ => rfl)) set_list))
        (pss_one (ps_ret (pv 6))))) pss_nil)
      (pss_one (ps_ret (pe_call GT hr rfl mT kT bT .nil pass0 (pa_cons (pv 1) (pa_cons (pv 2) (pa_cons (pv 4) pa_nil)))))))))), ?_⟩
    have hs := sz1000
    refine cut (fun σ' H' => ∃ d L, σ' = [some (.int cell), some (.int n), some (.int shape), some (.int mixed), some (.ref d), none, none, none] ∧ H d = none ∧ Same H H' ∧ H' d = some (.lst (L.map V.int)) ∧ inR n L) ?_ ?_
    · walk_at "dm"
      refine ⟨_, _, _, _, rfl, by omega, by omega, by omega, by omega, hmix, fun l H' hl S1 hH => ⟨l, rfl, hl, S1, _, hH, ?_⟩⟩
      have en : ((n : Int)).toNat = n := by omega
      rw [en]
      exact ⟨draws_len _ _ _ _, draws_rng (by omega) _⟩
    rintro σ1 H1 ⟨d, L, rfl, hd, S1, hH1, hL⟩
    refine cut (fun σ' H' => σ' = [some (.int cell), some (.int n), some (.int shape), some (.int mixed), some (.ref d), none, none, none] ∧ H' = H1) ?_ ?_
    · walk_at "dm"
      exact ⟨rfl, ite2 (fun _ => q d L H1 hd S1 hH1 hL) (fun _ => trivial)⟩
    rintro σ2 H2 ⟨rfl, rfl⟩
    refine cut (fun σ' H' => σ' = [some (.int cell), some (.int n), some (.int shape), some (.int mixed), some (.ref d), none, none, none] ∧ H' = H2) ?_ ?_
    · walk_at "dm"
      refine ⟨rfl, ite2 (fun _ p hp => ⟨n, upd_same, by omega, fun l hl => ⟨by omega, fun p1 hp1 => ?_⟩⟩) (fun _ => trivial)⟩
      have Sa : Same H2 (upd H2 p (.rng 0 n)) := Same.updN hp
      have hl2 : H2 l = none := Sa.free hl
      have Sb : Same H2 (upd (upd H2 p (.rng 0 n)) l (.lst ((List.range n).map fun i : Nat => V.int i))) := Sa.step hl2
      have hp12 : H2 p1 = none := Sb.free hp1
      have hlp1 : l ≠ p1 := fun e => by rw [← e, upd_same] at hp1; cases hp1
      have Sc := Sb.step (o := HO.lst []) hp12
      refine ⟨⟨_, SqL.of (Sc _ _ hH1)⟩, ?_⟩
      refine for_steady (H0 := H2) (steady_list (SqL.of hH1)) (fun i σ' H' => ∃ (ls os : List Int) (o : Option V), σ' = [some (.int cell), some (.int n), some (.int shape), some (.int mixed), some (.ref d), some (.ref l), some (.ref p1), o] ∧ Same H2 H' ∧ H' l = some (.lst (ls.map V.int)) ∧ H' p1 = some (.lst (os.map V.int)) ∧
        (ls.length = n - i ∧ ∀ y ∈ ls, 0 ≤ y ∧ y < n) ∧ (os.length = i ∧ ∀ y ∈ os, 0 ≤ y ∧ y < n))
        ⟨(List.range n).map fun i : Nat => (i : Int), [], none, rfl, Sc, ?_, upd_same, rng_in n, rfl, fun y hy => by cases hy⟩ (fun _ _ _ _ ⟨_, _, _, _, h, _⟩ => h) ?_ ?_
      · rw [upd_ne hlp1, upd_same, rng_list]
      · rintro i x σ H' hi hx ⟨ls, os, o, rfl, hS, hHl, hHp, hls, hos⟩
        rw [List.getElem?_map] at hx
        obtain ⟨y, hy, rfl⟩ := Option.map_eq_some_iff.mp hx
        rw [List.length_map, hL.1] at hi
        have hpos : (0 : Int) < (ls.length : Nat) := by rw [hls.1]; omega
        have hm0 := Int.emod_nonneg y (show ((ls.length : Nat) : Int) ≠ 0 by omega)
        have hm1 := Int.emod_lt_of_pos y hpos
        have hk : (y % (ls.length : Nat)).toNat < ls.length := by omega
        obtain ⟨z, hz⟩ : ∃ z, ls[(y % (ls.length : Nat)).toNat]? = some z := ⟨_, List.getElem?_eq_getElem hk⟩
        have hzm : z ∈ ls := List.mem_of_getElem? hz
        walk_at "dm"
        refine ⟨.inl ⟨rfl, _, SqL.of hHp⟩, .inl ⟨rfl, _, SqL.of hHl⟩, _, .inl (SqL.of hHl), ?_⟩
        rw [List.length_map]
        refine ⟨hpos, _, hHl, by omega, by omega, _, by rw [List.length_map]; exact idx_of hm0 hm1, _, by rw [List.getElem?_map, hz]; rfl, _, by rw [upd_ne (Ne.symm hlp1)]; exact hHp, by rw [List.length_map]; omega, (hS.step hl2).step hp12, ls.eraseIdx (y % (ls.length : Nat)).toNat, ?_, ?_⟩
        · rw [upd_ne hlp1, upd_same, er_map]
        · have e1 := erase_inR (m := n - (i + 1)) (n := n) (l := ls) (i := (y % (ls.length : Nat)).toNat) ⟨by omega, hls.2⟩ (by omega)
          have e2 := inR_snoc hos (hls.2 z hzm).1 (hls.2 z hzm).2
          exact ⟨os ++ [z], by rw [upd_same, List.map_append]; rfl, e1.1, e1.2, e2.1, e2.2⟩
      · rintro σ H' ⟨ls, os, o, rfl, hS, hHl, hHp, hls, hos⟩
        walk_at "dm"
        rw [List.length_map, hL.1] at hos
        exact q p1 os H' (S1.free hp12) (S1.trans hS) hHp hos
    rintro σ3 H3 ⟨rfl, rfl⟩
    refine cut (fun σ' H' => σ' = [some (.int cell), some (.int n), some (.int shape), some (.int mixed), some (.ref d), none, none, none] ∧ H' = H3) ?_ ?_
    · walk_at "dm"
      refine ⟨rfl, ite2 (fun _ => ⟨by omega, by omega, fun D hD => ?_⟩) (fun _ => trivial)⟩
      refine comp_pure steady_range (by omega) hD (fun σ => ∃ o, σ = [o, some (.int n)]) (fun i => .int ((0 + (i : Int) + 1) % n)) ⟨none, rfl⟩ ?_ ?_
      · rintro i x σ' H' hi rfl ⟨o, rfl⟩ hS R hR
        walk_at "dm"
        exact ⟨by omega, hR _ ⟨_, rfl⟩⟩
      · have en : ((n : Int)).toNat = n := by omega
        rw [en]
        refine q D ((List.range n).map fun i : Nat => (0 + (i : Int) + 1) % n) _ (S1.free hD) (S1.step (S1.free hD)) ?_ ⟨by rw [List.length_map, List.length_range], fun x hx => ?_⟩
        · rw [upd_same, List.map_map]; rfl
        · obtain ⟨i, hi, rfl⟩ := List.mem_map.mp hx
          exact ⟨Int.emod_nonneg _ (by omega), Int.emod_lt_of_pos _ (by omega)⟩
    rintro σ4 H4 ⟨rfl, rfl⟩
    refine cut (fun σ' H' => σ' = [some (.int cell), some (.int n), some (.int shape), some (.int mixed), some (.ref d), none, none, none] ∧ H' = H4) ?_ ?_
    · walk_at "dm"
      refine ⟨rfl, ite2 (fun _ p hp => ⟨n, upd_same, by omega, fun l hl => ?_⟩) (fun _ => trivial)⟩
      have Sa : Same H4 (upd H4 p (.rng 0 n)) := Same.updN hp
      have hl2 : H4 l = none := Sa.free hl
      have Sb : Same H4 (upd (upd H4 p (.rng 0 n)) l (.lst ((List.range n).map fun i : Nat => V.int i))) := Sa.step hl2
      obtain ⟨z, hzm, hz⟩ := atI_lastI (L := L) (by rw [hL.1]; omega)
      obtain ⟨y, hy, hy0, hy1⟩ := inR_get hL (show 0 < n by omega)
      refine ⟨_, SqL.of (Sb _ _ hH1), _, hz, _, SqL.of (Sb _ _ hH1), _, atI_int hy, _, _, rfl, upd_same, y.toNat, ?_, ?_⟩
      · rw [List.length_map, List.length_range]
        have := ixN_nat (n := n) (j := y.toNat) (by omega)
        rwa [Int.toNat_of_nonneg hy0] at this
      · refine q l (((List.range n).map fun i : Nat => (i : Int)).set y.toNat z) _ (S1.free hl2) (S1.trans (Sb.step hl2)) ?_ (set_inR (rng_in n) (hL.2 z hzm).1 (hL.2 z hzm).2)
        rw [upd_same, rng_list, List.map_set]
    rintro σ5 H5 ⟨rfl, rfl⟩
    walk_at "dm"
    refine ⟨_, _, _, _, rfl, hn1, hn12, SqL.of hH1, hL, fun l os H' hl S2 hH hos => q l os H' (S1.free hl) (S1.trans S2) hH hos⟩
end

section
variable {P : Program} {w : World} {K : PySem.W.Frag} {mg : Str → Option Value} {base : Heap}
def spShape : Sp := fun vs H Q _ => ∃ pick k : Int, vs = [.int pick, .int k] ∧ ∀ r H', Same H H' → Q (.int r) H'
theorem scShape : FnScope ["_law_pick", "_law_k"] ["_law_pick", "_law_k"] (defScope sShape) := ⟨rfl, rfl, rfl, by decide +kernel, rfl, by decide +kernel, by decide +kernel⟩
theorem atI_8 {a0 a1 a2 a3 a4 a5 a6 a7 : Int} {k : Int} (h0 : 0 ≤ k) (h8 : k < 8) : ∃ r, atI [V.int a0, V.int a1, V.int a2, V.int a3, V.int a4, V.int a5, V.int a6, V.int a7] k = some (V.int r) := by
  have h : k = 0 ∨ k = 1 ∨ k = 2 ∨ k = 3 ∨ k = 4 ∨ k = 5 ∨ k = 6 ∨ k = 7 := by omega
  rcases h with e | e | e | e | e | e | e | e <;> (rw [e]; exact ⟨_, rfl⟩)
theorem ok_shape {f : Addr} {fd : FuncData} (F : Fun K "_law_shape" "_law_shape" sShape f fd) (T : Txt mg) : FnOk P w K mg base CX0 1 f fd ["_law_pick", "_law_k"] spShape := by
  refine F.ok scShape (fun vs H Q E h => ?_) (fun cdv A outer s H vs Q E hr h => ?_)
  · obtain ⟨_, _, rfl, _⟩ := h
    rfl
  · obtain ⟨pick, k, rfl, q⟩ := h
    refine ⟨_, pss_cons (ps_if (pt_cmpR op_eq (pe_op op_mod (pv 0) pe_int) pe_int (nomark _)) (pss_one (ps_ret (pe_op op_mod (pe_op op_add (pv 1) (pe_op op_fdivB (pv 0) pe_int)) pe_int))) pss_nil)
      (pss_cons (ps_if (pt_cmpR op_eq (pv 1) pe_int (nomark _)) (pss_one (ps_ret (pe_ix ix_list (pe_lst pa_i8) (pe_op op_mod (pv 0) pe_int) (fun _ _ => rfl)))) pss_nil)
      (pss_one (ps_ret (pe_ix ix_list (pe_lst pa_i8) (pe_op op_mod (pv 0) pe_int) (fun _ _ => rfl))))), ?_⟩
    have hs := sz1000
    walk_at "dm"
    refine ⟨by decide, rfl, ite2 (fun _ => ⟨by decide, by decide, by decide, q _ H (Same.refl H)⟩) (fun _ => ⟨rfl, ite2 (fun _ => ⟨by omega, fun p hp => ⟨by decide, _, SqL.of upd_same, ?_⟩⟩) (fun _ => ⟨by omega, fun p hp => ⟨by decide, _, SqL.of upd_same, ?_⟩⟩)⟩)⟩
    · obtain ⟨r, hr⟩ := atI_8 (k := pick % 8) (a0 := 0) (a1 := 1) (a2 := 0) (a3 := 2) (a4 := 4) (a5 := 5) (a6 := 3) (a7 := 7) (by omega) (by omega)
      exact ⟨_, hr, q _ _ (Same.updN hp)⟩
    · obtain ⟨r, hr⟩ := atI_8 (k := pick % 8) (a0 := 0) (a1 := 1) (a2 := 0) (a3 := 3) (a4 := 4) (a5 := 5) (a6 := 1) (a7 := 1) (by omega) (by omega)
      exact ⟨_, hr, q _ _ (Same.updN hp)⟩
structure NmL (ws : List Str) (n : Nat) : Prop where
  len : ws.length = n
  nd : ws.Nodup
  nm : ∀ x ∈ ws, Nm x
def spNamed (K : PySem.W.Frag) : Sp := fun vs H Q _ => ∃ (a : Addr) (ns : List Int) (n c : Nat), vs = [.ref a, .int n, .int c] ∧ SqL K H a (ns.map V.int) ∧ n ≤ 12 ∧ c ≤ 12 ∧
  ∀ p l1 l2 (ws ts : List Str) H', Same H H' → H' p = some (.tup [.ref l1, .ref l2]) → H' l1 = some (.lst (ws.map V.str)) → H' l2 = some (.lst (ts.map V.str)) → NmL ws (n + 1) → NmL ts (c + 1) → Q (.ref p) H'
abbrev pAt : List Str := ["_law_script", "_law_k"]
abbrev pNames : List Str := ["_law_cell", "_law_many", "_law_style", "_law_mixed"]
theorem scNamed : FnScope ["_law_script", "_law_many", "_law_count", "_law_mixed", "_law_style", "_law_shades"] ["_law_script", "_law_many", "_law_count"] (defScope sNamed) := ⟨rfl, rfl, rfl, by decide +kernel, rfl, by decide +kernel, by decide +kernel⟩
theorem ok_named {f fA fN : Addr} {fd fdA fdN : FuncData} (F : Fun K "_law_named" "_law_named" sNamed f fd) (T : Txt mg) (GA : FnOk P w K mg base CX0 1 fA fdA pAt (spAt K)) (kA : PySem.W.keepIn K (.ref fA) = true) (bA : Binds K fdA pAt []) (mA : mg "_law_at" = some (.ref fA))
    (GN : FnOk P w K mg base CX0 2 fN fdN pNames spNames) (kN : PySem.W.keepIn K (.ref fN) = true) (bN : Binds K fdN pNames []) (mN : mg "_law_names" = some (.ref fN)) :
    FnOk P w K mg base CX0 3 f fd ["_law_script", "_law_many", "_law_count"] (spNamed K) := by
  refine F.ok scNamed (fun vs H Q E h => ?_) (fun cdv A outer s H vs Q E hr h => ?_)
  · obtain ⟨_, _, _, _, rfl, _⟩ := h
    rfl
  · obtain ⟨a, ns, n, c, rfl, ha, hn, hc, q⟩ := h
    have hr1 := hr.mono (j := 1) (by omega)
    refine ⟨_, pss_cons (ps_set (i := 3) scNamed.nd rfl (Or.inl rfl) (pe_op op_mod (pe_call GA hr1 rfl mA kA bA .nil pass0 (pa_cons (pv 0) (pa_cons pe_int pa_nil))) pe_int))
      (pss_cons (ps_set (i := 4) scNamed.nd rfl (Or.inl rfl) (pe_op op_mod (pe_op op_fdivB (pe_call GA hr1 rfl mA kA bA .nil pass0 (pa_cons (pv 0) (pa_cons pe_int pa_nil))) pe_int) pe_int))
      (pss_cons (ps_set (i := 5) scNamed.nd rfl (Or.inl rfl) (pe_call GN hr rfl mN kN bN .nil pass0 (pa_cons (pe_call GA hr1 rfl mA kA bA .nil pass0 (pa_cons (pv 0) (pa_cons pe_int pa_nil))) (pa_cons (pe_op op_add (pv 1) pe_int) (pa_cons (pv 4) (pa_cons (pv 3) pa_nil))))))
      (pss_one (ps_ret (pe_tup (pa_cons (pv 5) (pa_cons (pe_call GN hr rfl mN kN bN .nil pass0 (pa_cons (pe_call GA hr1 rfl mA kA bA .nil pass0 (pa_cons (pv 0) (pa_cons pe_int pa_nil))) (pa_cons (pe_op op_add (pv 2) pe_int) (pa_cons (pv 4) (pa_cons (pv 3) pa_nil))))) pa_nil))))))), ?_⟩
    have hs := sz1000
    walk_at "dm"
    refine at_use ha (by decide) ⟨_, rfl, by decide, at_use ha (by decide) ⟨_, rfl, by decide, by decide, by decide, at_use ha (by decide) ⟨_, _, _, _, rfl, by omega, by omega, by omega, by omega, by omega, fun l1 ws H1 hl1 S1 hH1 hw1 hd1 hm1 => ?_⟩⟩⟩
    refine at_use (S1.seq ha) (by decide) ⟨_, _, _, _, rfl, by omega, by omega, by omega, by omega, by omega, fun l2 ts H2 hl2 S2 hH2 hw2 hd2 hm2 => ⟨by omega, fun p hp => ?_⟩⟩
    have S3 := (S1.trans S2)
    refine q p l1 l2 ws ts _ (S3.step (S3.free hp)) upd_same ?_ ?_ ⟨by omega, hd1, hm1⟩ ⟨by omega, hd2, hm2⟩
    · rw [upd_ne (ne_of_none (S2 _ _ hH1) hp)]; exact S2 _ _ hH1
    · rw [upd_ne (ne_of_none hH2 hp)]; exact hH2
end

section
variable {P : Program} {w : World} {K : PySem.W.Frag} {mg : Str → Option Value} {base : Heap}
def BthAt (H : Hp) (p : Addr) (b : Str × List Str) : Prop := ∃ o, H p = some (.tup [.str b.1, .ref o]) ∧ H o = some (.lst (b.2.map V.str))
def Bths (H : Hp) (lb : Addr) (bs : List (Str × List Str)) : Prop := ∃ ps : List Addr, H lb = some (.lst (ps.map V.ref)) ∧ ps.length = bs.length ∧ ∀ (i : Nat) p b, ps[i]? = some p → bs[i]? = some b → BthAt H p b
theorem Same.bthAt {H H' : Hp} {p : Addr} {b : Str × List Str} (S : Same H H') (h : BthAt H p b) : BthAt H' p b := by
  obtain ⟨o, h1, h2⟩ := h
  exact ⟨o, S _ _ h1, S _ _ h2⟩
theorem Same.bths {H H' : Hp} {lb : Addr} {bs : List (Str × List Str)} (S : Same H H') (h : Bths H lb bs) : Bths H' lb bs := by
  obtain ⟨ps, h1, h2, h3⟩ := h
  exact ⟨ps, S _ _ h1, h2, fun i p b hp hb => Same.bthAt S (h3 i p b hp hb)⟩
def Shw (z : Str) : Prop := z.length ≤ 1000 ∧ ∀ c ∈ z.cps.toList, c < 1114112
theorem Nm.shw {z : Str} (h : Nm z) : Shw z := ⟨by have := h.hi; omega, fun c hc => by have := (h.all c hc).2; omega⟩
structure BookIn (ss : List Str) (bs : List (Str × List Str)) : Prop where
  s1 : 1 ≤ ss.length
  s12 : ss.length ≤ 12
  snd : ss.Nodup
  snm : ∀ x ∈ ss, goodB x = true
  snw : ∀ x ∈ ss, Shw x
  b8 : bs.length ≤ 8
  bnd : (bs.map (·.1)).Nodup
  bnm : ∀ b ∈ bs, goodB b.1 = true
  bnw : ∀ b ∈ bs, Shw b.1
  bln : ∀ b ∈ bs, b.2.length = ss.length
  bin : ∀ b ∈ bs, ∀ x ∈ b.2, x ∈ ss
theorem cut_take {ws : List Str} {n : Nat} (h : n ≤ ws.length) : cutV (ws.map V.str) none (some (n : Int)) = (ws.take n).map V.str := by
  unfold cutV
  have e1 : HT.sIx (ws.map V.str).length 0 none = 0 := rfl
  have e2 : HT.sIx (ws.map V.str).length (ws.map V.str).length (some (n : Int)) = n := by
    rw [List.length_map, HT.sIx_nat]
    omega
  rw [e1, e2, List.drop_zero, Nat.sub_zero, List.map_take]
theorem atI_str {L : List Str} {i : Nat} {x : Str} (h : L[i]? = some x) : atI (L.map V.str) (i : Int) = some (V.str x) := atI_nat (by rw [List.getElem?_map, h]; rfl)
def spSized (K : PySem.W.Frag) : Sp := fun vs H Q _ => ∃ (a : Addr) (ns : List Int) (n c : Nat), vs = [.ref a, .int n, .int c] ∧ SqL K H a (ns.map V.int) ∧ 1 ≤ n ∧ n ≤ 12 ∧ c ≤ 8 ∧
  ∀ p l lb (ss : List Str) (bs : List (Str × List Str)) (spare other : Str) H', Same H H' → H' p = some (.tup [.ref l, .ref lb, .str spare, .str other]) → H l = none → H' l = some (.lst (ss.map V.str)) → H lb = none → Bths H' lb bs → BookIn ss bs →
    ss.length = n → bs.length = c → Nm spare → spare ∉ ss → Nm other → other ∉ bs.map (·.1) → Q (.ref p) H'
abbrev pOuts : List Str := ["_law_cell", "_law_many", "_law_shape_here", "_law_mixed"]
abbrev pShape : List Str := ["_law_pick", "_law_k"]
abbrev pNamed : List Str := ["_law_script", "_law_many", "_law_count"]
theorem scSized : FnScope ["_law_script", "_law_many", "_law_count", "_law_mixed", "_law_shades", "_law_titles", "_law_baths", "_law_k", "_law_cell", "_law_outs_here"] ["_law_script", "_law_many", "_law_count"] (defScope sSized) := ⟨rfl, rfl, rfl, by decide +kernel, rfl, by decide +kernel, by decide +kernel⟩
theorem last_not {ws : List Str} {n : Nat} {x : Str} (hd : ws.Nodup) (hx : ws[n]? = some x) : x ∉ ws.take n := fun hm => by
  rw [← List.take_append_drop n ws] at hd
  have hx2 : x ∈ ws.drop n := List.mem_of_getElem? (i := 0) (by rw [List.getElem?_drop]; exact hx)
  exact (List.nodup_append.mp hd).2.2 x hm x hx2 rfl
def hide (H : Hp) (p : Addr) : Hp := fun b => if b = p then none else H b
theorem Same.hide {H H2 : Hp} {p : Addr} (S : Same H H2) : Same (hide H p) (DM.hide H2 p) := fun b o e => by
  unfold DM.hide at e ⊢
  by_cases h : b = p
  · rw [if_pos h] at e; cases e
  · rw [if_neg h] at e ⊢; exact S b o e
theorem hide_upd {H : Hp} {p : Addr} {o : HO} : hide (upd H p o) p = hide H p := by
  funext b
  unfold hide upd
  by_cases h : b = p
  · rw [if_pos h, if_pos h]
  · rw [if_neg h, if_neg h, if_neg h]
theorem hide_sub {H : Hp} {p : Addr} : Same (hide H p) H := fun b o e => by
  unfold hide at e
  by_cases h : b = p
  · rw [if_pos h] at e; cases e
  · rw [if_neg h] at e; exact e
theorem hide_at {H : Hp} {p q : Addr} (h : q ≠ p) : hide H p q = H q := by unfold hide; rw [if_neg h]
theorem g_tup2 {K : PySem.W.Frag} {H : Hp} {a : Addr} {x y : V} {i j : Nat} {σ : St} {Q : St → Hp → Prop} (h : H a = some (.tup [x, y])) (q : Q ((σ.set i (some x)).set j (some y)) H) : gTup K 2 (gCons (gName i) (gCons (gName j) gNil)) (.ref a) σ H Q :=
  ⟨a, [x, y], rfl, SqT.of h, rfl, x, [y], rfl, y, [], rfl, rfl, q⟩
theorem g_tup4 {K : PySem.W.Frag} {H : Hp} {a : Addr} {x y z u : V} {i j k l : Nat} {σ : St} {Q : St → Hp → Prop} (h : H a = some (.tup [x, y, z, u])) (q : Q ((((σ.set i (some x)).set j (some y)).set k (some z)).set l (some u)) H) : gTup K 4 (gCons (gName i) (gCons (gName j) (gCons (gName k) (gCons (gName l) gNil)))) (.ref a) σ H Q :=
  ⟨a, [x, y, z, u], rfl, SqT.of h, rfl, x, [y, z, u], rfl, y, [z, u], rfl, z, [u], rfl, u, [], rfl, rfl, q⟩
def nmAt (ws : List Str) (x : Int) : Str := ws.getD x.toNat ⟨#[]⟩
theorem nmAt_get {ws : List Str} {x : Int} (h0 : 0 ≤ x) (h1 : x.toNat < ws.length) : atI (ws.map V.str) x = some (V.str (nmAt ws x)) := by
  have e : ws[x.toNat]? = some (nmAt ws x) := by
    unfold nmAt
    rw [List.getD_eq_getElem?_getD, List.getElem?_eq_getElem h1]
    rfl
  have := atI_str e
  rwa [Int.toNat_of_nonneg h0] at this
theorem nmAt_mem {ws : List Str} {x : Int} {n : Nat} (h0 : 0 ≤ x) (h1 : x < n) (hn : n ≤ ws.length) : nmAt ws x ∈ ws.take n := by
  have hl : x.toNat < ws.length := by omega
  refine List.mem_of_getElem? (i := x.toNat) ?_
  rw [List.getElem?_take, if_pos (by omega)]
  unfold nmAt
  rw [List.getD_eq_getElem?_getD, List.getElem?_eq_getElem hl]
  rfl
theorem ok_sized {f fA fN fS fO : Addr} {fd fdA fdN fdS fdO : FuncData} (F : Fun K "_law_sized" "_law_sized" sSized f fd) (T : Txt mg) (GA : FnOk P w K mg base CX0 1 fA fdA pAt (spAt K)) (kA : PySem.W.keepIn K (.ref fA) = true) (bA : Binds K fdA pAt []) (mA : mg "_law_at" = some (.ref fA))
    (GN : FnOk P w K mg base CX0 3 fN fdN pNamed (spNamed K)) (kN : PySem.W.keepIn K (.ref fN) = true) (bN : Binds K fdN pNamed []) (mN : mg "_law_named" = some (.ref fN))
    (GS : FnOk P w K mg base CX0 1 fS fdS pShape spShape) (kS : PySem.W.keepIn K (.ref fS) = true) (bS : Binds K fdS pShape []) (mS : mg "_law_shape" = some (.ref fS))
    (GO : FnOk P w K mg base CX0 2 fO fdO pOuts spOuts) (kO : PySem.W.keepIn K (.ref fO) = true) (bO : Binds K fdO pOuts []) (mO : mg "_law_outs" = some (.ref fO)) :
    FnOk P w K mg base CX0 4 f fd ["_law_script", "_law_many", "_law_count"] (spSized K) := by
  refine F.ok scSized (fun vs H Q E h => ?_) (fun cdv A outer s H vs Q E hr h => ?_)
  · obtain ⟨_, _, _, _, rfl, _⟩ := h
    rfl
  · obtain ⟨a, ns, n, c, rfl, ha, hn1, hn, hc, q⟩ := h
    have hr1 := hr.mono (j := 1) (by omega)
    have hr2 := hr.mono (j := 2) (by omega)
    refine ⟨_, pss_cons (ps_set (i := 3) scSized.nd rfl (Or.inl rfl) (pe_op op_mod (pe_call GA hr1 rfl mA kA bA .nil pass0 (pa_cons (pv 0) (pa_cons pe_int pa_nil))) pe_int))
      (pss_cut (ps_asg (pe_call GN hr rfl mN kN bN .nil pass0 (pa_cons (pv 0) (pa_cons (pv 1) (pa_cons (pv 2) pa_nil)))) (pg_tup rfl (pgs_cons (pg_name (i := 4) scSized.nd rfl (Or.inr rfl)) (pgs_cons (pg_name (i := 5) scSized.nd rfl (Or.inl rfl)) pgs_nil))))
      (pss_cons (ps_set (i := 6) scSized.nd rfl (Or.inl rfl) (pe_lst pa_nil))
      (pss_cons (ps_for PassesOwn.never rfl (pi_range1 rfl T.range (pa_cons (pv 2) pa_nil)) (pg_name (i := 7) scSized.nd rfl (Or.inl rfl))
        (pss_cons (ps_set (i := 8) scSized.nd rfl (Or.inl rfl) (pe_op op_add (pe_call GA hr1 rfl mA kA bA .nil pass0 (pa_cons (pv 0) (pa_cons (pe_op op_add pe_int (pv 7)) pa_nil))) (pe_op op_mul (pe_op op_mul pe_int (pv 7)) (pv 3))))
        (pss_cut (ps_set (i := 9) scSized.nd rfl (Or.inl rfl) (pe_call GO hr2 rfl mO kO bO .nil pass0 (pa_cons (pv 8) (pa_cons (pv 1) (pa_cons (pe_call GS hr1 rfl mS kS bS .nil pass0 (pa_cons (pe_call GA hr1 rfl mA kA bA .nil pass0 (pa_cons (pv 0) (pa_cons pe_int pa_nil))) (pa_cons (pv 7) pa_nil))) (pa_cons (pv 3) pa_nil))))))
        (pss_one (ps_expr (pe_bm PySem.F.plainAttrs_list PySem.F.slot_list_append PySem.F.type_list_append mt_append (pv 6) (pa_cons (pe_tup (pa_cons (pe_ix ix_list (pv 5) (pv 7) (fun _ _ => rfl)) (pa_cons (pe_comp (N' := ["_law_j", "_law_shades"]) (pk := [none, some 4]) rfl (BlkOk.of (by rfl)) (pi_list (pv 9)) (fun s H ex => pg_name (i := 0) (by show (["_law_j", "_law_shades"] : List Str).Nodup; decide +kernel) rfl (Or.inl rfl))
          (fun s H ex => pe_ix (ix_list : IxR _ (rIxL K)) (pv 1) (pv 0) (fun _ _ => rfl))) pa_nil))) pa_nil)))))))
      (pss_one (ps_ret (pe_tup (pa_cons (pe_slice sl_list (pv 4) po_none (po_some (pv 1))) (pa_cons (pv 6) (pa_cons (pe_ix ix_list (pv 4) (pv 1) (fun _ _ => rfl)) (pa_cons (pe_ix ix_list (pv 5) (pv 2) (fun _ _ => rfl)) pa_nil)))))))))), ?_⟩
    have hs := sz1000
    walk_at "dm"
    refine at_use ha (by decide) ⟨_, rfl, by decide, ?_⟩
    generalize hmx : atL ns 3 % 2 = mixed
    have hmix : mixed = 0 ∨ mixed = 1 := by omega
    refine cut (fun σ' H' => ∃ l1 l2 ws ts, σ' = [some (.ref a), some (.int n), some (.int c), some (.int mixed), some (.ref l1), some (.ref l2), none, none, none, none] ∧ Same H H' ∧ H' l1 = some (.lst (ws.map V.str)) ∧ H' l2 = some (.lst (ts.map V.str)) ∧ NmL ws (n + 1) ∧ NmL ts (c + 1)) ?_ ?_
    · walk_at "dm"
      refine ⟨a, ns, n, c, rfl, ha, hn, by omega, fun p l1 l2 ws ts H' S hp h1 h2 w1 w2 => ?_⟩
      refine g_tup2 hp ?_
      exact ⟨l1, l2, rfl, S, ws, h1, ts, h2, w1, w2⟩
    rintro σ1 H1 ⟨l1, l2, ws, ts, rfl, S1, hH1, hH2, hws, hts⟩
    walk_at "dm"
    refine ⟨by omega, fun p hp => ⟨by omega, by omega, ?_⟩⟩
    have hb : ∀ i, i < n → ∃ x, (ws.take n)[i]? = some x ∧ ws[i]? = some x := fun i hi => by
      have hl : i < ws.length := by rw [hws.len]; omega
      refine ⟨ws[i], ?_, List.getElem?_eq_getElem hl⟩
      rw [List.getElem?_take, if_pos hi]; exact List.getElem?_eq_getElem hl
    refine for_steady (H0 := H1) steady_range (fun i σ' H' => ∃ (ps : List Addr) (bs : List (Str × List Str)) (o7 o8 o9 : Option V), σ' = [some (.ref a), some (.int n), some (.int c), some (.int mixed), some (.ref l1), some (.ref l2), some (.ref p), o7, o8, o9] ∧ Same H1 H' ∧ H' p = some (.lst (ps.map V.ref)) ∧
      ps.length = i ∧ bs.length = i ∧ (∀ (j : Nat) r b, ps[j]? = some r → bs[j]? = some b → BthAt (hide H' p) r b) ∧ bs.map (·.1) = ts.take i ∧ ∀ b ∈ bs, b.2.length = n ∧ ∀ x ∈ b.2, x ∈ ws.take n)
      ⟨[], [], none, none, none, rfl, Same.updN hp, upd_same, rfl, rfl, (by intro j r b h; simp at h), rfl, (by intro b h; cases h)⟩ (fun _ _ _ _ ⟨_, _, _, _, _, _, h, _⟩ => h) ?_ ?_
    · rintro i x σ H' hi rfl ⟨ps, bs, o7, o8, o9, rfl, hS, hH, hpl, hbl, hB, hT, hO⟩
      have ei : (0 : Int) + (i : Int) = i := by omega
      rw [ei]
      have hi9 : i < c := by omega
      have hm9 : (1009 : Int) * i * mixed < 2 ^ 62 := by rcases hmix with e | e <;> (rw [e]; omega)
      walk_at "dm"
      refine at_use ((S1.trans hS).seq ha) (by omega) ⟨.inl ⟨by omega, by omega⟩, .inl ⟨by omega, by omega⟩, _, rfl, ?_⟩
      refine cut (fun σ' H'' => ∃ lo os v8, σ' = [some (.ref a), some (.int n), some (.int c), some (.int mixed), some (.ref l1), some (.ref l2), some (.ref p), some (.int i), v8, some (.ref lo)] ∧ Same H' H'' ∧ H'' lo = some (.lst (os.map V.int)) ∧ inR n os) ?_ ?_
      · walk_at "dm"
        refine at_use ((S1.trans hS).seq ha) (by omega) ⟨_, _, rfl, fun r H2 S2 => ⟨_, _, _, _, rfl, hn1, hn, hmix, fun lo os H3 hlo S3 hH3 hos => ⟨lo, rfl, S2.trans S3, os, hH3, hos⟩⟩⟩
      rintro σ2 H2 ⟨lo, os, v8, rfl, S2, hlo, hos⟩
      have hH1' : H2 l1 = some (.lst (ws.map V.str)) := S2 _ _ (hS _ _ hH1)
      have hH2' : H2 l2 = some (.lst (ts.map V.str)) := S2 _ _ (hS _ _ hH2)
      have hp2 : H2 p = some (.lst (ps.map V.ref)) := S2 _ _ hH
      obtain ⟨tt, htt⟩ : ∃ tt, ts[i]? = some tt := ⟨_, List.getElem?_eq_getElem (by rw [hts.len]; omega)⟩
      walk_at "dm"
      refine ⟨.inl ⟨rfl, _, SqL.of hp2⟩, _, SqL.of hH2', _, atI_str htt, ⟨_, SqL.of hlo⟩, fun D hD => ?_⟩
      have hDp : D ≠ p := fun e => by rw [e, hp2] at hD; cases hD
      refine comp_pure (steady_list (SqL.of hlo)) (by rw [List.length_map, hos.1]; omega) hD (fun σ => ∃ o, σ = [o, some (.ref l1)]) (fun k => V.str (nmAt ws (os.getD k 0))) ⟨none, rfl⟩ ?_ ?_
      · rintro k x σ' H3 hk hx ⟨o, rfl⟩ hS3 R hR
        rw [List.getElem?_map] at hx
        obtain ⟨y, hy, rfl⟩ := Option.map_eq_some_iff.mp hx
        have hyr := hos.2 y (List.mem_of_getElem? hy)
        walk_at "dm"
        refine ⟨_, hS3.seq (SqL.of hH1'), _, nmAt_get hyr.1 (by rw [hws.len]; omega), ?_⟩
        have e : os.getD k 0 = y := by rw [List.getD_eq_getElem?_getD, hy]; rfl
        have := hR [some (V.int y), some (V.ref l1)] ⟨_, rfl⟩
        rw [e] at this
        exact this
      · have e : (List.range (os.map V.int).length).map (fun k => V.str (nmAt ws (os.getD k 0))) = (os.map (nmAt ws)).map V.str := by
          rw [List.map_map]
          refine map_range _ os _ _ (by rw [List.length_map]) fun k x hx => ?_
          rw [List.getD_eq_getElem?_getD, hx]
          rfl
        rw [e]
        refine ⟨by omega, fun t ht => ?_⟩
        have ht2 : H2 t = none := (Same.updN hD).free ht
        have htp : t ≠ p := fun e => by rw [e, hp2] at ht2; cases ht2
        have htD : D ≠ t := fun e => by rw [← e, upd_same] at ht; cases ht
        have S3 : Same H2 (upd (upd H2 D (.lst ((os.map (nmAt ws)).map V.str))) t (.tup [.str tt, .ref D])) := (Same.updN hD).step ht2
        refine ⟨_, S3 _ _ hp2, by rw [List.length_map]; omega, ⟨_, rfl⟩, ((hS.trans S2).trans S3).step hp, ps ++ [t], ?_, ?_, bs ++ [(tt, os.map (nmAt ws))], ?_, ?_, ?_, ?_⟩
        · rw [upd_same, List.map_append]; rfl
        · rw [List.length_append, hpl]; rfl
        · rw [List.length_append, hbl]; rfl
        · intro j r b hr hb
          rw [hide_upd]
          by_cases hj : j < i
          · rw [List.getElem?_append_left (by omega)] at hr hb
            exact Same.bthAt (Same.hide (S2.trans S3)) (hB j r b hr hb)
          · have hj2 : j = i := by
              have := (List.getElem?_eq_some_iff.mp hr).1
              rw [List.length_append, hpl] at this
              simp only [List.length_singleton] at this
              omega
            subst hj2
            rw [List.getElem?_append_right (by omega), hpl, Nat.sub_self] at hr
            rw [List.getElem?_append_right (by omega), hbl, Nat.sub_self] at hb
            cases hr
            cases hb
            refine ⟨D, ?_, ?_⟩
            · rw [hide_at htp]; exact upd_same
            · rw [hide_at hDp, upd_ne htD]; exact upd_same
        · rw [List.map_append, hT, List.take_add_one, htt]; rfl
        · intro b hb
          rcases List.mem_append.mp hb with hb | hb
          · exact hO b hb
          · rw [List.mem_singleton.mp hb]
            refine ⟨by rw [List.length_map]; exact hos.1, fun x hx => ?_⟩
            obtain ⟨y, hy, rfl⟩ := List.mem_map.mp hx
            exact nmAt_mem (hos.2 y hy).1 (hos.2 y hy).2 (by rw [hws.len]; omega)
    · rintro σ H' ⟨ps, bs, o7, o8, o9, rfl, hS, hH, hpl, hbl, hB, hT, hO⟩
      have en : ((c : Int)).toNat = c := by omega
      rw [en] at hpl hbl hT
      walk_at "dm"
      obtain ⟨spare, hsp⟩ : ∃ x, ws[n]? = some x := ⟨_, List.getElem?_eq_getElem (by rw [hws.len]; omega)⟩
      obtain ⟨other, hot⟩ : ∃ x, ts[c]? = some x := ⟨_, List.getElem?_eq_getElem (by rw [hts.len]; omega)⟩
      refine ⟨_, SqL.of (hS _ _ hH1), fun l hl => ?_⟩
      rw [cut_take (by rw [hws.len]; omega)]
      have Sl : Same H' (upd H' l (.lst ((ws.take n).map V.str))) := Same.updN hl
      refine ⟨_, SqL.of (Sl _ _ (hS _ _ hH1)), _, atI_str hsp, _, SqL.of (Sl _ _ (hS _ _ hH2)), _, atI_str hot, by omega, fun t ht => ?_⟩
      have St := Sl.step (o := .tup [.ref l, .ref p, .str spare, .str other]) (Sl.free ht)
      have hlt : l ≠ t := fun e => by rw [← e, upd_same] at ht; cases ht
      have htn : (ts.take c).Nodup := hts.nd.sublist (List.take_sublist _ _)
      refine q t l p (ws.take n) bs spare other _ ((S1.trans hS).trans St) upd_same ((S1.trans hS).free hl) (by rw [upd_ne hlt]; exact upd_same) (S1.free hp) ⟨ps, St _ _ hH, by omega, fun j r b hr hb => Same.bthAt (hide_sub.trans St) (hB j r b hr hb)⟩ ⟨?_, ?_, ?_, ?_, ?_, ?_, ?_, ?_, ?_, ?_, ?_⟩ ?_ hbl ?_ ?_ ?_ ?_
      · rw [List.length_take, hws.len]; omega
      · rw [List.length_take, hws.len]; omega
      · exact hws.nd.sublist (List.take_sublist _ _)
      · exact fun x hx => (hws.nm x (List.mem_of_mem_take hx)).good
      · exact fun x hx => (hws.nm x (List.mem_of_mem_take hx)).shw
      · omega
      · rw [hT]; exact htn
      · intro b hb
        exact (hts.nm b.1 (List.mem_of_mem_take (by rw [← hT]; exact List.mem_map_of_mem hb))).good
      · intro b hb
        exact (hts.nm b.1 (List.mem_of_mem_take (by rw [← hT]; exact List.mem_map_of_mem hb))).shw
      · intro b hb
        rw [(hO b hb).1, List.length_take, hws.len]; omega
      · exact fun b hb => (hO b hb).2
      · rw [List.length_take, hws.len]; omega
      · exact hws.nm _ (List.mem_of_getElem? hsp)
      · exact last_not hws.nd hsp
      · exact hts.nm _ (List.mem_of_getElem? hot)
      · rw [hT]; exact last_not hts.nd hot
end

section
variable {P : Program} {w : World} {K : PySem.W.Frag} {mg : Str → Option Value} {base : Heap}
def spDrawn (K : PySem.W.Frag) : Sp := fun vs H Q _ => ∃ (a : Addr) (ns : List Int), vs = [.ref a] ∧ SqL K H a (ns.map V.int) ∧
  ∀ p l lb (ss : List Str) (bs : List (Str × List Str)) (spare other : Str) H', Same H H' → H' p = some (.tup [.ref l, .ref lb, .str spare, .str other]) → H l = none → H' l = some (.lst (ss.map V.str)) → H lb = none → Bths H' lb bs → BookIn ss bs →
    Nm spare → spare ∉ ss → Nm other → other ∉ bs.map (·.1) → Q (.ref p) H'
theorem scDrawn : FnScope ["_law_script"] ["_law_script"] (defScope sDrawn) := ⟨rfl, rfl, rfl, by decide +kernel, rfl, by decide +kernel, by decide +kernel⟩
theorem ok_drawn {f fA fS : Addr} {fd fdA fdS : FuncData} (F : Fun K "_law_drawn" "_law_drawn" sDrawn f fd) (GA : FnOk P w K mg base CX0 1 fA fdA pAt (spAt K)) (kA : PySem.W.keepIn K (.ref fA) = true) (bA : Binds K fdA pAt []) (mA : mg "_law_at" = some (.ref fA))
    (GS : FnOk P w K mg base CX0 4 fS fdS pNamed (spSized K)) (kS : PySem.W.keepIn K (.ref fS) = true) (bS : Binds K fdS pNamed []) (mS : mg "_law_sized" = some (.ref fS)) :
    FnOk P w K mg base CX0 5 f fd ["_law_script"] (spDrawn K) := by
  refine F.ok scDrawn (fun vs H Q E h => ?_) (fun cdv A outer s H vs Q E hr h => ?_)
  · obtain ⟨_, _, rfl, _⟩ := h
    rfl
  · obtain ⟨a, ns, rfl, ha, q⟩ := h
    have hr1 := hr.mono (j := 1) (by omega)
    refine ⟨_, pss_one (ps_ret (pe_call GS hr rfl mS kS bS .nil pass0 (pa_cons (pv 0) (pa_cons (pe_op op_add pe_int (pe_op op_mod (pe_call GA hr1 rfl mA kA bA .nil pass0 (pa_cons (pv 0) (pa_cons pe_int pa_nil))) pe_int)) (pa_cons (pe_op op_mod (pe_call GA hr1 rfl mA kA bA .nil pass0 (pa_cons (pv 0) (pa_cons pe_int pa_nil))) pe_int) pa_nil))))), ?_⟩
    walk_at "dm"
    refine at_use ha (by decide) ⟨_, rfl, by decide, at_use ha (by decide) ⟨_, rfl, by decide, a, ns, (1 + atL ns 0 % 12).toNat, (atL ns 1 % 9).toNat, ?_, ha, by omega, by omega, by omega, fun p l lb ss bs spare other H' h1 h2 h3 h4 h5 h6 h7 _ _ h8 h9 h10 h11 => q p l lb ss bs spare other H' h1 h2 h3 h4 h5 h6 h7 h8 h9 h10 h11⟩⟩
    rw [Int.toNat_of_nonneg (by omega), Int.toNat_of_nonneg (by omega)]
end

section
variable {P : Program} {w : World} {K : PySem.W.Frag} {mg : Str → Option Value} {base : Heap}
theorem zipK_cons (k : Str) (ks : List Str) (v : V) (vs : List V) : zipK (k :: ks) (v :: vs) = (Sum.inr k, v) :: zipK ks vs := rfl
theorem valV_zip : ∀ (ks : List Str) (vs : List V) (i : Nat) (k : Str) (v : V), ks.Nodup → ks[i]? = some k → vs[i]? = some v → valV (zipK ks vs) (Sum.inr k) = some v
  | [], _, _, _, _, _, h, _ => by simp at h
  | _ :: _, [], _, _, _, _, _, h => by simp at h
  | k0 :: ks, v0 :: vs, 0, k, v, hd, h1, h2 => by
    cases h1
    cases h2
    rw [zipK_cons]
    exact valV_pos rfl
  | k0 :: ks, v0 :: vs, i + 1, k, v, hd, h1, h2 => by
    have h1' : ks[i]? = some k := h1
    have h2' : vs[i]? = some v := h2
    have hm : k ∈ ks := List.mem_of_getElem? h1'
    have hne : k0 ≠ k := fun e => (List.nodup_cons.mp hd).1 (by rw [e]; exact hm)
    rw [zipK_cons, valV_neg (fun e => hne (Sum.inr.inj e))]
    exact valV_zip ks vs i k v (List.nodup_cons.mp hd).2 h1' h2'
theorem valV_zip_none : ∀ (ks : List Str) (vs : List V) (k : Str), k ∉ ks → valV (zipK ks vs) (Sum.inr k) = none
  | [], _, _, _ => rfl
  | _ :: _, [], _, _ => rfl
  | k0 :: ks, v0 :: vs, k, h => by
    rw [zipK_cons, valV_neg (fun e => h (by rw [← Sum.inr.inj e]; exact List.mem_cons_self))]
    exact valV_zip_none ks vs k (fun hm => h (List.mem_cons_of_mem _ hm))
theorem zipK_snoc {ks : List Str} {vs : List V} (k : Str) (v : V) (h : ks.length = vs.length) : zipK (ks ++ [k]) (vs ++ [v]) = zipK ks vs ++ [(Sum.inr k, v)] := by
  unfold zipK
  rw [List.map_append, List.zip_append (by rw [List.length_map]; exact h)]
  rfl
theorem zipK_len {ks : List Str} {vs : List V} (h : ks.length = vs.length) : (zipK ks vs).length = ks.length := by
  unfold zipK
  rw [List.length_zip, List.length_map, h]; simp
theorem zipK_keys {ks : List Str} {vs : List V} (h : ks.length = vs.length) : (zipK ks vs).map (·.1) = ks.map Sum.inr := by
  unfold zipK
  rw [List.map_fst_zip (by rw [List.length_map]; omega)]
def tabV (ss : List Str) (b : Str × List Str) : List (Key × V) := zipK ss (b.2.map V.str)
def Tabs (H : Hp) (d : Addr) (ss : List Str) (bs : List (Str × List Str)) : Prop :=
  ∃ ds : List Addr, Rd H d (.dK (zipK (bs.map (·.1)) (ds.map V.ref))) ∧ ds.length = bs.length ∧ ∀ (i : Nat) r b, ds[i]? = some r → bs[i]? = some b → Rd H r (.dK (tabV ss b))
theorem Same.rd {H H' : Hp} {a : Addr} {o : HO} (S : Same H H') (h : Rd H a o) : Rd H' a o := by
  rcases h with h | ⟨u, h⟩
  · exact .inl (S _ _ h)
  · exact .inr ⟨u, S _ _ h⟩
theorem Same.tabs {H H' : Hp} {d : Addr} {ss : List Str} {bs : List (Str × List Str)} (S : Same H H') (h : Tabs H d ss bs) : Tabs H' d ss bs := by
  obtain ⟨ds, h1, h2, h3⟩ := h
  exact ⟨ds, Same.rd S h1, h2, fun i r b hr hb => Same.rd S (h3 i r b hr hb)⟩
theorem take_snoc {α : Type} {l : List α} {i : Nat} {x : α} (h : l[i]? = some x) : l.take (i + 1) = l.take i ++ [x] := by rw [List.take_add_one, h]; rfl
theorem not_take {l : List Str} {i : Nat} {x : Str} (hd : l.Nodup) (h : l[i]? = some x) : x ∉ l.take i := last_not hd h
def spTables (K : PySem.W.Frag) : Sp := fun vs H Q _ => ∃ (l lb : Addr) (ss : List Str) (bs : List (Str × List Str)), vs = [.ref l, .ref lb] ∧ SqL K H l (ss.map V.str) ∧ Bths H lb bs ∧ BookIn ss bs ∧
  ∀ d H', H d = none → Same H H' → Tabs H' d ss bs → Q (.ref d) H'
theorem scTables : FnScope ["_law_shades", "_law_baths", "_law_tables_here", "_law_title", "_law_outs_here", "_law_k"] ["_law_shades", "_law_baths"] (defScope sTables) := ⟨rfl, rfl, rfl, by decide +kernel, rfl, by decide +kernel, by decide +kernel⟩
theorem ok_tables {f : Addr} {fd : FuncData} (F : Fun K "_law_tables" "_law_tables" sTables f fd) (T : Txt mg) : FnOk P w K mg base CX0 1 f fd ["_law_shades", "_law_baths"] (spTables K) := by
  refine F.ok scTables (fun vs H Q E h => ?_) (fun cdv A outer s H vs Q E hr h => ?_)
  · obtain ⟨_, _, _, _, rfl, _⟩ := h
    rfl
  · obtain ⟨l, lb, ss, bs, rfl, hl, hb, B, q⟩ := h
    have hu : (cxOf CX0 P w K mg base ["_law_shades", "_law_baths", "_law_tables_here", "_law_title", "_law_outs_here", "_law_k"] "_law_tables" (defScope sTables) f cdv A outer s H E).A.units + 1 < cLine := by
      have := hr.units
      exact Nat.lt_of_le_of_lt (Nat.add_le_add_left (by decide) _) this
    refine ⟨_, pss_cons (ps_set (i := 2) scTables.nd rfl (Or.inl rfl) pe_dnewK)
      (pss_cons (ps_for PassesOwn.never rfl (pi_list (pv 1)) (pg_tup (n := 2) rfl (pgs_cons (pg_name (i := 3) scTables.nd rfl (Or.inl rfl)) (pgs_cons (pg_name (i := 4) scTables.nd rfl (Or.inl rfl)) pgs_nil)))
        (pss_cut (ps_dput hu (pv 2) (pv 3) pe_dnewK rfl)
        (pss_one (ps_for PassesOwn.never rfl (pi_range1 rfl T.range (pa_cons (pe_callB call_len_seq (by rfl) T.len PySem.boot_len (pa_cons (pv 0) pa_nil)) pa_nil)) (pg_name (i := 5) scTables.nd rfl (Or.inl rfl))
          (pss_one (ps_dput hu (pe_dget hu (pv 2) (pv 3) (fun _ _ => rfl)) (pe_ix ix_list (pv 0) (pv 5) (fun _ _ => rfl)) (pe_ix ix_list (pv 4) (pv 5) (fun _ _ => rfl)) rfl))))))
      (pss_one (ps_ret (pv 2)))), ?_⟩
    have hs := sz1000
    walk_at "dm"
    intro d hd
    obtain ⟨ps, hlb, hpl, hB⟩ := hb
    have hb8 := B.b8
    have S0 : Same H (upd H d (.dK [])) := Same.updN hd
    refine ⟨⟨_, SqL.of (S0 _ _ hlb)⟩, ?_⟩
    refine for_steady (H0 := H) (steady_list (SqL.of hlb)) (fun i σ' H' => ∃ (ds : List Addr) (o3 o4 o5 : Option V), σ' = [some (.ref l), some (.ref lb), some (.ref d), o3, o4, o5] ∧ Same H H' ∧ H' d = some (.dK (zipK ((bs.map (·.1)).take i) (ds.map V.ref))) ∧
      ds.length = i ∧ ∀ (j : Nat) r b, ds[j]? = some r → bs[j]? = some b → hide H' d r = some (.dK (tabV ss b)))
      ⟨[], none, none, none, rfl, S0, upd_same, rfl, (by intro j r b h; simp at h)⟩ (fun _ _ _ _ ⟨_, _, _, _, _, h, _⟩ => h) ?_ ?_
    · rintro i x σ H' hi hx ⟨ds, o3, o4, o5, rfl, hS, hH, hdl, hD⟩
      rw [List.getElem?_map] at hx
      obtain ⟨pr, hpr, rfl⟩ := Option.map_eq_some_iff.mp hx
      rw [List.length_map, hpl] at hi
      obtain ⟨b, hb⟩ : ∃ b, bs[i]? = some b := ⟨_, List.getElem?_eq_getElem hi⟩
      obtain ⟨lo, ht, hlo⟩ := hB i pr b hpr hb
      have hbm : b ∈ bs := List.mem_of_getElem? hb
      have hk : (bs.map (·.1))[i]? = some b.1 := by rw [List.getElem?_map, hb]; rfl
      have hnk : b.1 ∉ (bs.map (·.1)).take i := not_take B.bnd hk
      have hln : ((bs.map (·.1)).take i).length = (ds.map V.ref).length := by rw [List.length_take, List.length_map, List.length_map, hdl]; omega
      refine g_tup2 (hS _ _ ht) ?_
      walk_at "dm"
      refine cut (fun σ' H'' => ∃ r, σ' = [some (.ref l), some (.ref lb), some (.ref d), some (.str b.1), some (.ref lo), o5] ∧ H' r = none ∧ r ≠ d ∧ H'' = upd (upd H' r (.dK [])) d (.dK (zipK ((bs.map (·.1)).take (i + 1)) ((ds ++ [r]).map V.ref)))) ?_ ?_
      · walk_at "dm"
        intro r hr
        have hrd : r ≠ d := fun e => by rw [e, hH] at hr; cases hr
        refine ⟨_, .inl ⟨_, Sum.inr b.1, by rw [upd_ne (Ne.symm hrd)]; exact hH, rfl, by rw [zipK_len hln, List.length_take]; omega, rfl⟩, r, hr, hrd, ?_⟩
        rw [putK_new _ (valV_zip_none _ _ _ hnk), take_snoc hk, List.map_append]
        exact congrArg (fun z => upd (upd H' r (HO.dK [])) d (HO.dK z)) (zipK_snoc b.1 (V.ref r) hln).symm
      rintro σ2 H2 ⟨r, rfl, hr, hrd, rfl⟩
      have hrH : H r = none := hS.free hr
      generalize hG : (upd (upd H' r (.dK [])) d (.dK (zipK ((bs.map (·.1)).take (i + 1)) ((ds ++ [r]).map V.ref)))) = G
      have hGr : G r = some (.dK []) := by rw [← hG, upd_ne hrd]; exact upd_same
      have hGd : G d = some (.dK (zipK ((bs.map (·.1)).take (i + 1)) ((ds ++ [r]).map V.ref))) := by rw [← hG]; exact upd_same
      have SG : Same H G := by rw [← hG]; exact (hS.step hrH).step hd
      have SG' : Same (hide H' d) (hide G d) := by rw [← hG, hide_upd]; exact Same.hide (Same.updN hr)
      have hval : valV (zipK ((bs.map (·.1)).take (i + 1)) ((ds ++ [r]).map V.ref)) (Sum.inr b.1) = some (V.ref r) := by
        refine valV_zip _ _ i _ _ (B.bnd.sublist (List.take_sublist _ _)) ?_ ?_
        · rw [List.getElem?_take, if_pos (Nat.lt_succ_self i)]; exact hk
        · rw [List.getElem?_map, List.getElem?_append_right (by omega), hdl, Nat.sub_self]; rfl
      have hbl : b.2.length = ss.length := B.bln b hbm
      have hs12 := B.s12
      walk_at "dm"
      refine ⟨_, .inl (SG.seq hl), ?_⟩
      rw [List.length_map]
      refine ⟨by omega, by omega, ?_⟩
      refine for_steady (H0 := H) steady_range (fun k σ' H'' => ∃ o5, σ' = [some (.ref l), some (.ref lb), some (.ref d), some (.str b.1), some (.ref lo), o5] ∧ H'' = upd G r (.dK (zipK (ss.take k) ((b.2.take k).map V.str))))
        ⟨o5, rfl, ?_⟩ (fun _ _ _ _ ⟨_, _, e⟩ => by rw [e]; exact SG.step hrH) ?_ ?_
      · funext y
        by_cases e : y = r
        · rw [e, upd_same]; exact hGr
        · rw [upd_ne e]
      · rintro k x σ H'' hk2 rfl ⟨o5, rfl, rfl⟩
        have ek : (0 : Int) + (k : Int) = k := by omega
        rw [ek]
        have hkn : k < ss.length := by omega
        obtain ⟨sk, hsk⟩ : ∃ y, ss[k]? = some y := ⟨_, List.getElem?_eq_getElem hkn⟩
        obtain ⟨ok, hok⟩ : ∃ y, b.2[k]? = some y := ⟨_, List.getElem?_eq_getElem (by omega)⟩
        have S2 : Same H (upd G r (.dK (zipK (ss.take k) ((b.2.take k).map V.str)))) := SG.step hrH
        have hl2 : (ss.take k).length = ((b.2.take k).map V.str).length := by rw [List.length_map, List.length_take, List.length_take]; omega
        walk_at "dm"
        refine ⟨_, SqL.of (S2 _ _ hlo), _, atI_str hok, V.ref r, .inl ⟨_, Sum.inr b.1, .inl (by rw [upd_ne (Ne.symm hrd)]; exact hGd), rfl, hval.symm⟩, _, S2.seq hl, _, atI_str hsk, r, rfl, _, .inl ⟨_, Sum.inr sk, upd_same, rfl, by rw [zipK_len hl2, List.length_take]; omega, rfl⟩, ?_⟩
        rw [upd_upd, putK_new _ (valV_zip_none _ _ _ (not_take B.snd hsk)), take_snoc hsk, take_snoc hok, List.map_append]
        exact congrArg (fun z => upd G r (HO.dK z)) (zipK_snoc sk (V.str ok) hl2).symm
      · rintro σ H'' ⟨o5, rfl, rfl⟩
        have e1 : ss.take ((ss.length : Int)).toNat = ss := by rw [Int.toNat_natCast, List.take_length]
        have e2 : b.2.take ((ss.length : Int)).toNat = b.2 := by rw [Int.toNat_natCast, ← hbl, List.take_length]
        rw [e1, e2]
        refine ⟨⟨_, _, _, rfl⟩, SG.step hrH, ds ++ [r], by rw [upd_ne (Ne.symm hrd)]; exact hGd, by rw [List.length_append, hdl]; rfl, fun j r2 b2 hr2 hb2 => ?_⟩
        by_cases hj : j < i
        · rw [List.getElem?_append_left (by omega)] at hr2
          have h1 := SG' _ _ (hD j r2 b2 hr2 hb2)
          have h2 : H' r2 = some (.dK (tabV ss b2)) := hide_sub _ _ (hD j r2 b2 hr2 hb2)
          have hne : r2 ≠ r := fun e => by rw [e, hr] at h2; cases h2
          unfold hide at h1 ⊢
          by_cases e : r2 = d
          · rw [if_pos e] at h1; cases h1
          · rw [if_neg e] at h1 ⊢; rw [upd_ne hne]; exact h1
        · have hj2 : j = i := by
            have := (List.getElem?_eq_some_iff.mp hr2).1
            rw [List.length_append, hdl] at this
            simp only [List.length_singleton] at this
            omega
          subst hj2
          rw [List.getElem?_append_right (by omega), hdl, Nat.sub_self] at hr2
          cases hr2
          rw [hb] at hb2
          cases hb2
          rw [hide_at hrd, upd_same]
          rfl
    · rintro σ H' ⟨ds, o3, o4, o5, rfl, hS, hH, hdl, hD⟩
      rw [List.length_map, hpl] at hH hdl
      walk_at "dm"
      refine q d H' hd hS ⟨ds, .inl ?_, hdl, fun j r b hr hb => .inl (hide_sub _ _ (hD j r b hr hb))⟩
      rw [hH, List.take_of_length_le (by rw [List.length_map]; exact Nat.le_refl _)]
end

section
variable {P : Program} {w : World} {K : PySem.W.Frag} {mg : Str → Option Value} {base : Heap}
structure TxtB (mg : Str → Option Value) : Prop where
  mostS : ∃ t, mg "MOST_SHADES" = some (.int 12 t)
  mostB : ∃ t, mg "MOST_BATHS" = some (.int 8 t)
theorem fold_nd : ∀ (l acc : List Str), (acc ++ l).Nodup → l.foldl addS acc = acc ++ l
  | [], acc, _ => by simp
  | x :: l, acc, h => by
    have hx : x ∉ acc := fun hm => (List.nodup_append.mp h).2.2 x hm x List.mem_cons_self rfl
    have e : addS acc x = acc ++ [x] := by unfold addS; rw [if_neg hx]
    rw [List.foldl_cons, e, fold_nd l (acc ++ [x]) (by rw [List.append_assoc]; exact h), List.append_assoc]
    rfl
theorem metS_nd {l : List Str} (h : l.Nodup) : metS l = l := by unfold metS; rw [fold_nd l [] h]; rfl
theorem good_len {z : Str} (h : goodB z = true) : z.length ≤ 8 := by
  unfold goodB at h
  rw [Bool.and_eq_true, Bool.and_eq_true] at h
  exact of_decide_eq_true h.1.2
def spCNames (K : PySem.W.Frag) : Sp := fun vs H Q _ => ∃ (l : Addr) (ws : List Str), vs = [.ref l] ∧ SqL K H l (ws.map V.str) ∧ ws.length ≤ 100 ∧ ws.Nodup ∧ (∀ x ∈ ws, goodB x = true) ∧ ∀ H', Same H H' → Q .non H'
theorem scCNames : FnScope ["texts", "text"] ["texts"] (defScope sCNames) := ⟨rfl, rfl, rfl, by decide +kernel, rfl, by decide +kernel, by decide +kernel⟩
theorem ok_cnames {f fG : Addr} {fd fdG : FuncData} (F : Fun K "check_names" "check_names" sCNames f fd) (T : Txt mg) (GG : FnOk P w K mg base CX0 1 fG fdG ["text"] spGood) (kG : PySem.W.keepIn K (.ref fG) = true) (bG : Binds K fdG ["text"] []) (mG : mg "good_name" = some (.ref fG)) :
    FnOk P w K mg base CX0 2 f fd ["texts"] (spCNames K) := by
  refine F.ok scCNames (fun vs H Q E h => ?_) (fun cdv A outer s H vs Q E hr h => ?_)
  · obtain ⟨_, _, rfl, _⟩ := h
    rfl
  · obtain ⟨l, ws, rfl, hl, hlen, hnd, hnm, q⟩ := h
    refine ⟨_, pss_cons (ps_for PassesOwn.never rfl (pi_list (pv 0)) (pg_name (i := 1) scCNames.nd rfl (Or.inl rfl))
        (pss_one (ps_if (pt_not (pt_val (pe_call GG hr rfl mG kG bG .nil pass0 (pa_cons (pv 1) pa_nil)))) pss_never pss_nil)))
      (pss_one (ps_if (pt_cmpR op_ne (pe_callB call_lenS (by rfl) T.len PySem.boot_len (pa_cons (pe_callTy (call_set rfl) (by rfl) T.set (by decide +kernel) (pa_cons (pv 0) pa_nil)) pa_nil)) (pe_callB call_len_seq (by rfl) T.len PySem.boot_len (pa_cons (pv 0) pa_nil)) (nomark _)) pss_never pss_nil)), ?_⟩
    have hs := sz1000
    walk_at "dm"
    refine ⟨⟨_, hl⟩, ?_⟩
    refine for_steady (H0 := H) (steady_list hl) (fun i σ' H' => ∃ o, σ' = [some (.ref l), o] ∧ Same H H') ⟨none, rfl, Same.refl H⟩ (fun _ _ _ _ ⟨_, _, h⟩ => h) ?_ ?_
    · rintro i x σ H' hi hx ⟨o, rfl, hS⟩
      rw [List.getElem?_map] at hx
      obtain ⟨z, hz, rfl⟩ := Option.map_eq_some_iff.mp hx
      have hzm := hnm z (List.mem_of_getElem? hz)
      have h8 := good_len hzm
      walk_at "dm"
      refine ⟨z, rfl, by omega, fun H2 S2 => ?_⟩
      rw [hzm]
      exact ⟨_, rfl, hS.trans S2⟩
    · rintro σ H' ⟨o, rfl, hS⟩
      walk_at "dm"
      refine ⟨_, hS.seq hl, by omega, fun p hp => ⟨_, upd_same, _, .inl ((hS.step (hS.free hp)).seq hl), rfl, ?_⟩⟩
      rw [List.length_map, metS_nd hnd]
      refine ite2 (fun h => absurd rfl h) (fun _ => q _ (hS.step (hS.free hp)))
def spCShades (K : PySem.W.Frag) : Sp := fun vs H Q _ => ∃ (l : Addr) (ws : List Str), vs = [.ref l] ∧ SqL K H l (ws.map V.str) ∧ 1 ≤ ws.length ∧ ws.length ≤ 12 ∧ ws.Nodup ∧ (∀ x ∈ ws, goodB x = true) ∧ ∀ H', Same H H' → Q .non H'
theorem scCShades : FnScope ["shades"] ["shades"] (defScope sCShades) := ⟨rfl, rfl, rfl, by decide +kernel, rfl, by decide +kernel, by decide +kernel⟩
theorem ok_cshades {f fG : Addr} {fd fdG : FuncData} (F : Fun K "check_shades" "check_shades" sCShades f fd) (T : Txt mg) (TB : TxtB mg) (GG : FnOk P w K mg base CX0 2 fG fdG ["texts"] (spCNames K)) (kG : PySem.W.keepIn K (.ref fG) = true) (bG : Binds K fdG ["texts"] []) (mG : mg "check_names" = some (.ref fG)) :
    FnOk P w K mg base CX0 3 f fd ["shades"] (spCShades K) := by
  refine F.ok scCShades (fun vs H Q E h => ?_) (fun cdv A outer s H vs Q E hr h => ?_)
  · obtain ⟨_, _, rfl, _⟩ := h
    rfl
  · obtain ⟨l, ws, rfl, hl, hlen1, hlen, hnd, hnm, q⟩ := h
    obtain ⟨tg, hms⟩ := TB.mostS
    refine ⟨_, pss_cons (ps_if (pt_cmpR op_lt (pe_callB call_len_seq (by rfl) T.len PySem.boot_len (pa_cons (pv 0) pa_nil)) pe_int (nomark _)) pss_never pss_nil)
      (pss_cons (ps_if (pt_cmpR op_gt (pe_callB call_len_seq (by rfl) T.len PySem.boot_len (pa_cons (pv 0) pa_nil)) (pe_glob (v := .int 12) rfl hms ⟨_, rfl⟩) (nomark _)) pss_never pss_nil)
      (pss_one (ps_expr (pe_call GG hr rfl mG kG bG .nil pass0 (pa_cons (pv 0) pa_nil))))), ?_⟩
    have hs := sz1000
    walk_at "dm"
    refine ⟨_, .inl hl, ?_⟩
    rw [List.length_map]
    refine ite2 (fun h => absurd h (by omega)) (fun _ => ⟨_, .inl hl, ?_⟩)
    rw [List.length_map]
    refine ite2 (fun h => absurd h (by omega)) (fun _ => ⟨l, ws, rfl, hl, by omega, hnd, hnm, q⟩)
def spCOuts (K : PySem.W.Frag) : Sp := fun vs H Q _ => ∃ (l lo : Addr) (ss os : List Str), vs = [.ref l, .ref lo] ∧ SqL K H l (ss.map V.str) ∧ SqL K H lo (os.map V.str) ∧ os.length = ss.length ∧ ss.length ≤ 100 ∧ (∀ x ∈ os, x ∈ ss) ∧ ∀ H', Same H H' → Q .non H'
theorem scCOuts : FnScope ["shades", "outs", "shade"] ["shades", "outs"] (defScope sCOuts) := ⟨rfl, rfl, rfl, by decide +kernel, rfl, by decide +kernel, by decide +kernel⟩
theorem ok_couts {f : Addr} {fd : FuncData} (F : Fun K "check_outs" "check_outs" sCOuts f fd) (T : Txt mg) :
    FnOk P w K mg base CX0 1 f fd ["shades", "outs"] (spCOuts K) := by
  refine F.ok scCOuts (fun vs H Q E h => ?_) (fun cdv A outer s H vs Q E hr h => ?_)
  · obtain ⟨_, _, _, _, rfl, _⟩ := h
    rfl
  · obtain ⟨l, lo, ss, os, rfl, hl, hlo, hlen, hlen2, hin, q⟩ := h
    refine ⟨_, pss_cons (ps_if (pt_cmpR op_ne (pe_callB call_len_seq (by rfl) T.len PySem.boot_len (pa_cons (pv 1) pa_nil)) (pe_callB call_len_seq (by rfl) T.len PySem.boot_len (pa_cons (pv 0) pa_nil)) (nomark _)) pss_never pss_nil)
      (pss_one (ps_for PassesOwn.never rfl (pi_list (pv 1)) (pg_name (i := 2) scCOuts.nd rfl (Or.inl rfl))
        (pss_one (ps_if (pt_cmpR op_notIn_seq (pv 2) (pv 0) (by with_unfolding_all rfl)) pss_never pss_nil)))), ?_⟩
    have hs := sz1000
    walk_at "dm"
    refine ⟨_, .inl hlo, _, .inl hl, rfl, ?_⟩
    rw [List.length_map, List.length_map]
    refine ite2 (fun h => absurd (by rw [hlen]) h) (fun _ => ⟨⟨_, hlo⟩, ?_⟩)
    refine for_steady (H0 := H) (steady_list hlo) (fun i σ' H' => ∃ o, σ' = [some (.ref l), some (.ref lo), o] ∧ H' = H) ⟨none, rfl, rfl⟩ (fun _ _ _ _ ⟨_, _, h⟩ => by rw [h]; exact Same.refl _) ?_ ?_
    · rintro i x σ H' hi hx ⟨o, rfl, rfl⟩
      rw [List.getElem?_map] at hx
      obtain ⟨z, hz, rfl⟩ := Option.map_eq_some_iff.mp hx
      walk_at "dm"
      refine ⟨_, .inl hl, rfl, flat_strs ss, ?_⟩
      rw [inV_str, decide_eq_true (hin z (List.mem_of_getElem? hz))]
      exact ⟨_, rfl⟩
    · rintro σ H' ⟨o, rfl, rfl⟩
      exact q _ (Same.refl _)
def spCBaths (K : PySem.W.Frag) : Sp := fun vs H Q _ => ∃ (l lb : Addr) (ss : List Str) (bs : List (Str × List Str)), vs = [.ref l, .ref lb] ∧ SqL K H l (ss.map V.str) ∧ Bths H lb bs ∧ BookIn ss bs ∧ ∀ H', Same H H' → Q .non H'
theorem scCBaths : FnScope ["shades", "baths", "name", "outs"] ["shades", "baths"] (defScope sCBaths) := ⟨rfl, rfl, rfl, by decide +kernel, rfl, by decide +kernel, by decide +kernel⟩
theorem ok_cbaths {f fG fO : Addr} {fd fdG fdO : FuncData} (F : Fun K "check_baths" "check_baths" sCBaths f fd) (T : Txt mg) (TB : TxtB mg) (GG : FnOk P w K mg base CX0 2 fG fdG ["texts"] (spCNames K)) (kG : PySem.W.keepIn K (.ref fG) = true) (bG : Binds K fdG ["texts"] []) (mG : mg "check_names" = some (.ref fG))
    (GO : FnOk P w K mg base CX0 1 fO fdO ["shades", "outs"] (spCOuts K)) (kO : PySem.W.keepIn K (.ref fO) = true) (bO : Binds K fdO ["shades", "outs"] []) (mO : mg "check_outs" = some (.ref fO)) :
    FnOk P w K mg base CX0 3 f fd ["shades", "baths"] (spCBaths K) := by
  refine F.ok scCBaths (fun vs H Q E h => ?_) (fun cdv A outer s H vs Q E hr h => ?_)
  · obtain ⟨_, _, _, _, rfl, _⟩ := h
    rfl
  · obtain ⟨l, lb, ss, bs, rfl, hl, ⟨ps, hlb, hpl, hB⟩, B, q⟩ := h
    obtain ⟨tg, hms⟩ := TB.mostB
    have hr1 := hr.mono (j := 1) (by omega)
    refine ⟨_, pss_cons (ps_if (pt_cmpR op_gt (pe_callB call_len_seq (by rfl) T.len PySem.boot_len (pa_cons (pv 1) pa_nil)) (pe_glob (v := .int 8) rfl hms ⟨_, rfl⟩) (nomark _)) pss_never pss_nil)
      (pss_cut (ps_expr (pe_call GG hr rfl mG kG bG .nil pass0 (pa_cons (pe_comp (N' := ["name", "outs"]) (pk := [none, none]) rfl (BlkOk.of (by rfl)) (pi_list (pv 1)) (fun s H ex => (pg_tup (n := 2) rfl (pgs_cons (pg_name (i := 0) (by show (["name", "outs"] : List Str).Nodup; decide +kernel) rfl (Or.inl rfl)) (pgs_cons (pg_name (i := 1) (by show (["name", "outs"] : List Str).Nodup; decide +kernel) rfl (Or.inl rfl)) pgs_nil)) : PG _ _ (gTup K 2 (gCons (gName 0) (gCons (gName 1) gNil)))))
          (fun s H ex => pv 0)) pa_nil)))
      (pss_one (ps_for PassesOwn.never rfl (pi_list (pv 1)) (pg_tup (n := 2) rfl (pgs_cons (pg_name (i := 2) scCBaths.nd rfl (Or.inl rfl)) (pgs_cons (pg_name (i := 3) scCBaths.nd rfl (Or.inl rfl)) pgs_nil)))
        (pss_one (ps_expr (pe_call GO hr1 rfl mO kO bO .nil pass0 (pa_cons (pv 0) (pa_cons (pv 3) pa_nil)))))))), ?_⟩
    have hs := sz1000
    walk_at "dm"
    have hb8 := B.b8
    have hs12 := B.s12
    refine ⟨_, .inl (SqL.of hlb), ?_⟩
    rw [List.length_map]
    refine ite2 (fun h => absurd h (by omega)) (fun _ => ?_)
    refine cut (fun σ' H' => σ' = [some (.ref l), some (.ref lb), none, none] ∧ Same H H') ?_ ?_
    · walk_at "dm"
      refine ⟨⟨_, SqL.of hlb⟩, fun D hD => ?_⟩
      refine comp_pure (steady_list (SqL.of hlb)) (by rw [List.length_map]; omega) hD (fun σ => ∃ o1 o2, σ = [o1, o2]) (fun k => V.str (bs.getD k (⟨#[]⟩, [])).1) ⟨none, none, rfl⟩ ?_ ?_
      · rintro k x σ' H3 hk hx ⟨o1, o2, rfl⟩ hS3 R hR
        rw [List.getElem?_map] at hx
        obtain ⟨y, hy, rfl⟩ := Option.map_eq_some_iff.mp hx
        obtain ⟨b, hb⟩ : ∃ b, bs[k]? = some b := ⟨_, List.getElem?_eq_getElem (by rw [List.length_map] at hk; omega)⟩
        obtain ⟨lo, ht, hlo⟩ := hB k y b hy hb
        refine g_tup2 (hS3 _ _ ht) ?_
        walk_at "dm"
        have e : (bs.getD k (⟨#[]⟩, [])) = b := by rw [List.getD_eq_getElem?_getD, hb]; rfl
        have := hR [some (V.str b.1), some (V.ref lo)] ⟨_, _, rfl⟩
        rw [e] at this
        exact this
      · have e : (List.range (ps.map V.ref).length).map (fun k => V.str (bs.getD k (⟨#[]⟩, [])).1) = (bs.map (·.1)).map V.str := by
          rw [List.map_map]
          refine map_range _ bs _ _ (by rw [List.length_map, hpl]) fun k x hx => ?_
          rw [List.getD_eq_getElem?_getD, hx]
          rfl
        rw [e]
        refine ⟨D, bs.map (·.1), rfl, SqL.of upd_same, by rw [List.length_map]; omega, B.bnd, fun x hx => ?_, fun H' S' => (Same.updN hD).trans S'⟩
        obtain ⟨b, hb, rfl⟩ := List.mem_map.mp hx
        exact B.bnm b hb
    rintro σ1 H1 ⟨rfl, S1⟩
    walk_at "dm"
    refine ⟨⟨_, SqL.of (S1 _ _ hlb)⟩, ?_⟩
    refine for_steady (H0 := H) (steady_list (SqL.of hlb)) (fun i σ' H' => ∃ o2 o3, σ' = [some (.ref l), some (.ref lb), o2, o3] ∧ Same H H') ⟨none, none, rfl, S1⟩ (fun _ _ _ _ ⟨_, _, _, h⟩ => h) ?_ ?_
    · rintro i x σ H' hi hx ⟨o2, o3, rfl, hS⟩
      rw [List.getElem?_map] at hx
      obtain ⟨y, hy, rfl⟩ := Option.map_eq_some_iff.mp hx
      obtain ⟨b, hb⟩ : ∃ b, bs[i]? = some b := ⟨_, List.getElem?_eq_getElem (by rw [List.length_map] at hi; omega)⟩
      obtain ⟨lo, ht, hlo⟩ := hB i y b hy hb
      have hbm : b ∈ bs := List.mem_of_getElem? hb
      refine g_tup2 (hS _ _ ht) ?_
      walk_at "dm"
      exact ⟨l, lo, ss, b.2, rfl, hS.seq hl, SqL.of (hS _ _ hlo), B.bln b hbm, by omega, B.bin b hbm, fun H2 S2 => hS.trans S2⟩
    · rintro σ H' ⟨o2, o3, rfl, hS⟩
      exact q _ hS
end

section
variable {P : Program} {w : World} {K : PySem.W.Frag} {mg : Str → Option Value} {base : Heap}
def BookAt (H : Hp) (C x : Addr) (ss : List Str) (bs : List (Str × List Str)) : Prop :=
  ∃ (dx t d : Addr) (so : List Str), H x = some (.ins C dx [("order", .ref t), ("tables", .ref d)]) ∧ H t = some (.tup (so.map V.str)) ∧ so.Perm ss ∧ PyProof.Rows.sortedS so = true ∧ Tabs H d ss bs
theorem Same.book {H H' : Hp} {C x : Addr} {ss : List Str} {bs : List (Str × List Str)} (S : Same H H') (h : BookAt H C x ss bs) : BookAt H' C x ss bs := by
  obtain ⟨dx, t, d, so, h1, h2, h3, h4, h5⟩ := h
  exact ⟨dx, t, d, so, S _ _ h1, S _ _ h2, h3, h4, Same.tabs S h5⟩
theorem sq_hide {H : Hp} {x C dx l : Addr} {fs : List (Str × V)} {xs : List V} (hx : H x = some (.ins C dx fs)) (h : SqL K H l xs) : SqL K (hide H x) l xs := by
  rcases h with (h | ⟨o, h⟩) | h
  · exact .inl (.inl (by rw [hide_at (fun e => by rw [e, hx] at h; cases h)]; exact h))
  · exact .inl (.inr ⟨o, by rw [hide_at (fun e => by rw [e, hx] at h; cases h)]; exact h⟩)
  · exact .inr h
theorem bths_hide {H : Hp} {x C dx lb : Addr} {fs : List (Str × V)} {bs : List (Str × List Str)} (hx : H x = some (.ins C dx fs)) (h : Bths H lb bs) : Bths (hide H x) lb bs := by
  obtain ⟨ps, h1, h2, h3⟩ := h
  refine ⟨ps, by rw [hide_at (fun e => by rw [e, hx] at h1; cases h1)]; exact h1, h2, fun i p b hp hb => ?_⟩
  obtain ⟨o, e1, e2⟩ := h3 i p b hp hb
  exact ⟨o, by rw [hide_at (fun e => by rw [e, hx] at e1; cases e1)]; exact e1, by rw [hide_at (fun e => by rw [e, hx] at e2; cases e2)]; exact e2⟩
theorem putF_order {u : V} : putF (Str.ofString "order") u [] = [(Str.ofString "order", u)] := rfl
theorem putF_tables {u v : V} : putF (Str.ofString "tables") v [(Str.ofString "order", u)] = [(Str.ofString "order", u), (Str.ofString "tables", v)] := by
  unfold putF
  rw [if_neg (by decide +kernel)]
  rfl
theorem lk_order {u v : V} : List.lookup (Str.ofString "order") [(Str.ofString "order", u), (Str.ofString "tables", v)] = some u := by
  rw [List.lookup_cons, show (Str.ofString "order" == Str.ofString "order") = true by decide +kernel]
theorem lk_tables {u v : V} : List.lookup (Str.ofString "tables") [(Str.ofString "order", u), (Str.ofString "tables", v)] = some v := by
  rw [List.lookup_cons, show (Str.ofString "tables" == Str.ofString "order") = false by decide +kernel]
  show List.lookup _ [(Str.ofString "tables", v)] = some v
  rw [List.lookup_cons, show (Str.ofString "tables" == Str.ofString "tables") = true by decide +kernel]
theorem merge_zip : ∀ (ks : List Str) (vs : List V) (acc : List (Key × V)), ks.Nodup → (∀ k ∈ ks, valV acc (Sum.inr k) = none) → mergeK acc (zipK ks vs) = acc ++ zipK ks vs
  | [], vs, acc, _, _ => by
    show mergeK acc [] = acc ++ []
    rw [List.append_nil]; rfl
  | k :: ks, [], acc, _, _ => by
    show mergeK acc [] = acc ++ []
    rw [List.append_nil]; rfl
  | k :: ks, v :: vs, acc, hd, hn => by
    rw [zipK_cons]
    show mergeK (putK acc (Sum.inr k) v) (zipK ks vs) = _
    rw [putK_new _ (hn k List.mem_cons_self), merge_zip ks vs _ (List.nodup_cons.mp hd).2 (fun y hy => ?_), List.append_assoc]
    · rfl
    · have hne : ¬ (Sum.inr y : Key) = Sum.inr k := fun e => (List.nodup_cons.mp hd).1 (by rw [← Sum.inr.inj e]; exact hy)
      rw [valV_snoc _ _ _ _ (hn k List.mem_cons_self), if_neg hne]
      exact hn y (List.mem_cons_of_mem _ hy)
theorem merge_zip0 {ks : List Str} {vs : List V} (h : ks.Nodup) : mergeK [] (zipK ks vs) = zipK ks vs := by
  rw [merge_zip ks vs [] h (fun _ _ => rfl)]; rfl
def spInit (K : PySem.W.Frag) (C : Addr) : Sp := fun vs H Q _ => ∃ (x dx l lb : Addr) (ss : List Str) (bs : List (Str × List Str)), vs = [.ref x, .ref l, .ref lb] ∧ H x = some (.ins C dx []) ∧ SqL K H l (ss.map V.str) ∧ Bths H lb bs ∧ BookIn ss bs ∧
  ∀ H', Same (hide H x) H' → BookAt H' C x ss bs → Q .non H'
theorem scInit : FnScope ["self", "shades", "baths", "name", "outs"] ["self", "shades", "baths"] (defScope sInit) := ⟨rfl, rfl, rfl, by decide +kernel, rfl, by decide +kernel, by decide +kernel⟩
theorem ok_init {C f fS fB : Addr} {fd fdS fdB : FuncData} (F : Fun K "__init__" "Book.__init__" sInit f fd) (T : Txt mg) (c : Cls K C) (nO : NoAttr K C "order") (nT : NoAttr K C "tables")
    (GS : FnOk P w K mg base CX0 3 fS fdS ["shades"] (spCShades K)) (kS : PySem.W.keepIn K (.ref fS) = true) (bS : Binds K fdS ["shades"] []) (mS : mg "check_shades" = some (.ref fS))
    (GB : FnOk P w K mg base CX0 3 fB fdB ["shades", "baths"] (spCBaths K)) (kB : PySem.W.keepIn K (.ref fB) = true) (bB : Binds K fdB ["shades", "baths"] []) (mB : mg "check_baths" = some (.ref fB)) :
    FnOk P w K mg base CX0 4 f fd ["self", "shades", "baths"] (spInit K C) := by
  refine F.ok scInit (fun vs H Q E h => ?_) (fun cdv A outer s H vs Q E hr h => ?_)
  · obtain ⟨_, _, _, _, _, _, rfl, _⟩ := h
    rfl
  · obtain ⟨x, dx, l, lb, ss, bs, rfl, hx, hl, hb, B, q⟩ := h
    have hu : (cxOf CX0 P w K mg base ["self", "shades", "baths", "name", "outs"] "Book.__init__" (defScope sInit) f cdv A outer s H E).A.units + 1 < cLine := by
      have := hr.units
      exact Nat.lt_of_le_of_lt (Nat.add_le_add_left (by decide) _) this
    refine ⟨_, pss_cut (ps_expr (pe_call GS hr rfl mS kS bS .nil pass0 (pa_cons (pv 1) pa_nil)))
      (pss_cut (ps_expr (pe_call GB hr rfl mB kB bB .nil pass0 (pa_cons (pv 1) (pa_cons (pv 2) pa_nil))))
      (pss_cut (ps_fld (pv 0) (pe_callTy call_tuple_of (by rfl) T.tuple (by decide +kernel) (pa_cons (pe_callB call_sortedL (by rfl) T.sorted (by decide +kernel) (pa_cons (pv 1) pa_nil)) pa_nil)) rfl)
      (pss_cut (ps_fld (pv 0) pe_dnewK rfl)
      (pss_one (ps_for PassesOwn.never rfl (pi_list (pv 2)) (pg_tup (n := 2) rfl (pgs_cons (pg_name (i := 3) scInit.nd rfl (Or.inl rfl)) (pgs_cons (pg_name (i := 4) scInit.nd rfl (Or.inl rfl)) pgs_nil)))
        (pss_one (ps_dput hu (pe_fld (pv 0) rfl) (pv 3) (pe_dictzip rfl (by rfl) T.dict (by rfl) T.zip (pa_cons (pv 1) (pa_cons (pv 4) pa_nil))) rfl))))))), ?_⟩
    have hs := sz1000
    have hl0 := sq_hide hx hl
    have hb0 := bths_hide hx hb
    generalize hH0 : hide H x = H0 at hl0 hb0 q
    have SH : Same H0 H := by rw [← hH0]; exact hide_sub
    have hx0 : H0 x = none := by rw [← hH0]; unfold hide; rw [if_pos rfl]
    refine cut (fun σ' H' => σ' = [some (.ref x), some (.ref l), some (.ref lb), none, none] ∧ Same H H') ?_ ?_
    · walk_at "dm"
      exact ⟨l, ss, rfl, hl, B.s1, B.s12, B.snd, B.snm, fun H' S' => S'⟩
    rintro σ1 H1 ⟨rfl, S1⟩
    refine cut (fun σ' H' => σ' = [some (.ref x), some (.ref l), some (.ref lb), none, none] ∧ Same H H') ?_ ?_
    · walk_at "dm"
      exact ⟨l, lb, ss, bs, rfl, S1.seq hl, Same.bths S1 hb, B, fun H' S' => S1.trans S'⟩
    rintro σ2 H2 ⟨rfl, S2⟩
    have hs12 := B.s12
    refine cut (fun σ' H' => ∃ t so, σ' = [some (.ref x), some (.ref l), some (.ref lb), none, none] ∧ Same H0 H' ∧ H' x = some (.ins C dx [("order", .ref t)]) ∧ H' t = some (.tup (so.map V.str)) ∧ so.Perm ss ∧ PyProof.Rows.sortedS so = true) ?_ ?_
    · walk_at "dm"
      have S02 : Same H0 H2 := SH.trans S2
      have hx2 := S2 _ _ hx
      refine ⟨ss, S2.seq hl, by omega, fun p so hp hpm hso => ⟨_, .inl ⟨SqL.of upd_same, fun t ht => ?_⟩⟩⟩
      have hxp : x ≠ p := fun e => by rw [← e, hx2] at hp; cases hp
      have ht2 : H2 t = none := (Same.updN hp).free ht
      have hxt : x ≠ t := fun e => by rw [← e, hx2] at ht2; cases ht2
      refine ⟨C, dx, [], by rw [upd_ne hxt, upd_ne hxp]; exact hx2, c, nO, by decide, ((S02.step (S02.free hp)).step (S02.free ht2)).step hx0, t, by rw [upd_same, putF_order], so, ?_, hpm, hso⟩
      rw [upd_ne (Ne.symm hxt)]; exact upd_same
    rintro σ3 H3 ⟨t, so, rfl, S3, hx3, ht3, hpm, hso⟩
    refine cut (fun σ' H' => ∃ d, σ' = [some (.ref x), some (.ref l), some (.ref lb), none, none] ∧ H3 d = none ∧ H' = upd (upd H3 d (.dK [])) x (.ins C dx [("order", .ref t), ("tables", .ref d)])) ?_ ?_
    · walk_at "dm"
      intro d hd
      have hxd : x ≠ d := fun e => by rw [← e, hx3] at hd; cases hd
      exact ⟨C, dx, _, by rw [upd_ne hxd]; exact hx3, c, nT, by rw [List.length_singleton]; decide, d, hd, by rw [putF_tables]⟩
    rintro σ4 H4 ⟨d, rfl, hd3, rfl⟩
    have hxd : x ≠ d := fun e => by rw [← e, hx3] at hd3; cases hd3
    have htx : t ≠ x := fun e => by rw [e, hx3] at ht3; cases ht3
    have htd : t ≠ d := fun e => by rw [← e, ht3] at hd3; cases hd3
    have hd0 : H0 d = none := S3.free hd3
    obtain ⟨ps, hlb, hpl, hB⟩ := hb0
    have hb8 := B.b8
    have S4 : Same H0 (upd (upd H3 d (.dK [])) x (.ins C dx [("order", .ref t), ("tables", .ref d)])) := (S3.step hd0).step hx0
    walk_at "dm"
    refine ⟨⟨_, SqL.of (S4 _ _ hlb)⟩, ?_⟩
    refine for_steady (H0 := H0) (steady_list (SqL.of hlb)) (fun i σ' H' => ∃ (ds : List Addr) (o3 o4 : Option V), σ' = [some (.ref x), some (.ref l), some (.ref lb), o3, o4] ∧ Same H0 H' ∧ H' x = some (.ins C dx [("order", .ref t), ("tables", .ref d)]) ∧ H' t = some (.tup (so.map V.str)) ∧
      H' d = some (.dK (zipK ((bs.map (·.1)).take i) (ds.map V.ref))) ∧ ds.length = i ∧ ∀ (j : Nat) r b, ds[j]? = some r → bs[j]? = some b → hide H' d r = some (.dK (tabV ss b)))
      ⟨[], none, none, rfl, S4, upd_same, (by rw [upd_ne htx, upd_ne htd]; exact ht3), (by rw [upd_ne (Ne.symm hxd)]; exact upd_same), rfl, (by intro j r b h; simp at h)⟩ (fun _ _ _ _ ⟨_, _, _, _, h, _⟩ => h) ?_ ?_
    · rintro i y σ H' hi hy ⟨ds, o3, o4, rfl, hS, hHx, hHt, hHd, hdl, hD⟩
      rw [List.getElem?_map] at hy
      obtain ⟨pr, hpr, rfl⟩ := Option.map_eq_some_iff.mp hy
      rw [List.length_map, hpl] at hi
      obtain ⟨b, hb⟩ : ∃ b, bs[i]? = some b := ⟨_, List.getElem?_eq_getElem hi⟩
      obtain ⟨lo, ht, hlo⟩ := hB i pr b hpr hb
      have hbm : b ∈ bs := List.mem_of_getElem? hb
      have hk : (bs.map (·.1))[i]? = some b.1 := by rw [List.getElem?_map, hb]; rfl
      have hnk : b.1 ∉ (bs.map (·.1)).take i := not_take B.bnd hk
      have hln : ((bs.map (·.1)).take i).length = (ds.map V.ref).length := by rw [List.length_take, List.length_map, List.length_map, hdl]; omega
      have hbl : b.2.length = ss.length := B.bln b hbm
      refine g_tup2 (hS _ _ ht) ?_
      walk_at "dm"
      refine ⟨ss, hS.seq hl0, _, SqL.of (hS _ _ hlo), by rw [List.length_map]; exact hbl.symm, by omega, fun r hr => ?_⟩
      rw [merge_zip0 B.snd]
      have hxr : x ≠ r := fun e => by rw [← e, hHx] at hr; cases hr
      have htr : t ≠ r := fun e => by rw [← e, hHt] at hr; cases hr
      have hrd : r ≠ d := fun e => by rw [e, hHd] at hr; cases hr
      refine ⟨C, dx, _, by rw [upd_ne hxr]; exact hHx, c, nT, _, lk_tables, d, rfl, _, .inl ⟨_, Sum.inr b.1, by rw [upd_ne (Ne.symm hrd)]; exact hHd, rfl, by rw [zipK_len hln, List.length_take]; omega, rfl⟩, (hS.step (hS.free hr)).step hd0, by rw [upd_ne hxd, upd_ne hxr]; exact hHx, by rw [upd_ne htd, upd_ne htr]; exact hHt, ds ++ [r], ?_, by rw [List.length_append, hdl]; rfl, fun j r2 b2 hr2 hb2 => ?_⟩
      · rw [upd_same, putK_new _ (valV_zip_none _ _ _ hnk), take_snoc hk, List.map_append]
        exact congrArg (fun z => some (HO.dK z)) (zipK_snoc b.1 (V.ref r) hln).symm
      · rw [hide_upd]
        by_cases hj : j < i
        · rw [List.getElem?_append_left (by omega)] at hr2
          exact Same.hide (Same.updN hr) _ _ (hD j r2 b2 hr2 hb2)
        · have hj2 : j = i := by
            have := (List.getElem?_eq_some_iff.mp hr2).1
            rw [List.length_append, hdl] at this
            simp only [List.length_singleton] at this
            omega
          subst hj2
          rw [List.getElem?_append_right (by omega), hdl, Nat.sub_self] at hr2
          cases hr2
          rw [hb] at hb2
          cases hb2
          rw [hide_at hrd, upd_same]
          rfl
    · rintro σ H' ⟨ds, o3, o4, rfl, hS, hHx, hHt, hHd, hdl, hD⟩
      rw [List.length_map, hpl] at hHd hdl
      refine q H' hS ⟨dx, t, d, so, hHx, hHt, hpm, hso, ds, .inl ?_, hdl, fun j r b hr hb => .inl (hide_sub _ _ (hD j r b hr hb))⟩
      rw [hHd, List.take_of_length_le (by rw [List.length_map]; exact Nat.le_refl _)]
end

section
variable {P : Program} {w : World} {K : PySem.W.Frag} {mg : Str → Option Value} {base : Heap}
def lkV (ss : List Str) (b : Str × List Str) (z : Str) : Str := match valV (tabV ss b) (Sum.inr z) with
  | some (.str y) => y
  | _ => ⟨#[]⟩
theorem lkV_eq {ss : List Str} {b : Str × List Str} {z : Str} (hd : ss.Nodup) (hl : b.2.length = ss.length) (hz : z ∈ ss) : valV (tabV ss b) (Sum.inr z) = some (V.str (lkV ss b z)) := by
  obtain ⟨i, hi⟩ := List.getElem?_of_mem hz
  have hil : i < b.2.length := by rw [hl]; exact (List.getElem?_eq_some_iff.mp hi).1
  have e : valV (tabV ss b) (Sum.inr z) = some (V.str b.2[i]) := valV_zip ss (b.2.map V.str) i z _ hd hi (by rw [List.getElem?_map, List.getElem?_eq_getElem hil]; rfl)
  unfold lkV
  rw [e]
theorem Tabs.get {H : Hp} {d : Addr} {ss : List Str} {bs : List (Str × List Str)} (B : BookIn ss bs) (h : Tabs H d ss bs) {b : Str × List Str} (hb : b ∈ bs) : ∃ r, DGet H d (.str b.1) (some (.ref r)) ∧ Rd H r (.dK (tabV ss b)) := by
  obtain ⟨ds, h1, h2, h3⟩ := h
  obtain ⟨i, hi⟩ := List.getElem?_of_mem hb
  have hil : i < ds.length := by rw [h2]; exact (List.getElem?_eq_some_iff.mp hi).1
  have hr := List.getElem?_eq_getElem hil
  refine ⟨ds[i], .inl ⟨_, Sum.inr b.1, h1, rfl, ?_⟩, h3 i _ b hr hi⟩
  exact (valV_zip _ _ i _ _ B.bnd (by rw [List.getElem?_map, hi]; rfl) (by rw [List.getElem?_map, hr]; rfl)).symm
theorem lk_other {m : Str} {u v : V} (h1 : (m == Str.ofString "order") = false) (h2 : (m == Str.ofString "tables") = false) : List.lookup m [(Str.ofString "order", u), (Str.ofString "tables", v)] = none := by
  rw [List.lookup_cons, h1]
  show List.lookup m [(Str.ofString "tables", v)] = none
  rw [List.lookup_cons, h2]
  rfl
def spBCheck (C : Addr) : Sp := fun vs H Q _ => ∃ (x : Addr) (ss : List Str) (bs : List (Str × List Str)) (b : Str × List Str), vs = [.ref x, .str b.1] ∧ BookAt H C x ss bs ∧ BookIn ss bs ∧ b ∈ bs ∧ Q .non H
theorem scBCheck : FnScope ["self", "bath"] ["self", "bath"] (defScope sBCheck) := ⟨rfl, rfl, rfl, by decide +kernel, rfl, by decide +kernel, by decide +kernel⟩
theorem ok_bcheck {C f : Addr} {fd : FuncData} (F : Fun K "check_bath" "Book.check_bath" sBCheck f fd) (c : Cls K C) (nT : NoAttr K C "tables") : FnOk P w K mg base CX0 1 f fd ["self", "bath"] (spBCheck C) := by
  refine F.ok scBCheck (fun vs H Q E h => ?_) (fun cdv A outer s H vs Q E hr h => ?_)
  · obtain ⟨_, _, _, _, rfl, _⟩ := h
    rfl
  · obtain ⟨x, ss, bs, b, rfl, ⟨dx, t, d, so, h1, h2, h3, h4, h5⟩, B, hb, q⟩ := h
    have hu : (cxOf CX0 P w K mg base ["self", "bath"] "Book.check_bath" (defScope sBCheck) f cdv A outer s H E).A.units + 1 < cLine := by
      have := hr.units
      exact Nat.lt_of_le_of_lt (Nat.add_le_add_left (by decide) _) this
    refine ⟨_, pss_one (ps_if (pt_cmp (pc_dnotin hu (pv 1) (pe_fld (pv 0) rfl))) pss_never pss_nil), ?_⟩
    obtain ⟨r, hg, hr⟩ := Tabs.get B h5 hb
    walk_at "dm"
    exact ⟨C, dx, _, h1, c, nT, _, lk_tables, d, rfl, _, hg, q⟩
def spBShades (C : Addr) : Sp := fun vs H Q _ => ∃ (x : Addr) (ss : List Str) (bs : List (Str × List Str)), vs = [.ref x] ∧ BookAt H C x ss bs ∧ BookIn ss bs ∧ ∀ l so, H l = none → so.Perm ss → PyProof.Rows.sortedS so = true → Q (.ref l) (upd H l (.lst (so.map V.str)))
theorem scBShades : FnScope ["self"] ["self"] (defScope sBShades) := ⟨rfl, rfl, rfl, by decide +kernel, rfl, by decide +kernel, by decide +kernel⟩
theorem ok_bshades {C f : Addr} {fd : FuncData} (F : Fun K "shades" "Book.shades" sBShades f fd) (T : Txt mg) (c : Cls K C) (nO : NoAttr K C "order") : FnOk P w K mg base CX0 1 f fd ["self"] (spBShades C) := by
  refine F.ok scBShades (fun vs H Q E h => ?_) (fun cdv A outer s H vs Q E hr h => ?_)
  · obtain ⟨_, _, _, rfl, _⟩ := h
    rfl
  · obtain ⟨x, ss, bs, rfl, ⟨dx, t, d, so, h1, h2, h3, h4, h5⟩, B, q⟩ := h
    refine ⟨_, pss_one (ps_ret (pe_callTy call_list_of (by rfl) T.list (by decide +kernel) (pa_cons (pe_fld (pv 0) rfl) pa_nil))), ?_⟩
    walk_at "dm"
    exact ⟨C, dx, _, h1, c, nO, _, lk_order, t, rfl, _, .inr (SqT.of h2), fun l hl => q l so hl h3 h4⟩
def spBBaths (C : Addr) : Sp := fun vs H Q _ => ∃ (x : Addr) (ss : List Str) (bs : List (Str × List Str)), vs = [.ref x] ∧ BookAt H C x ss bs ∧ BookIn ss bs ∧ ∀ l ns, H l = none → ns.Perm (bs.map (·.1)) → PyProof.Rows.sortedS ns = true → Q (.ref l) (upd H l (.lst (ns.map V.str)))
theorem scBBaths : FnScope ["self"] ["self"] (defScope sBBaths) := ⟨rfl, rfl, rfl, by decide +kernel, rfl, by decide +kernel, by decide +kernel⟩
theorem ok_bbaths {C f : Addr} {fd : FuncData} (F : Fun K "baths" "Book.baths" sBBaths f fd) (T : Txt mg) (c : Cls K C) (nT : NoAttr K C "tables") : FnOk P w K mg base CX0 1 f fd ["self"] (spBBaths C) := by
  refine F.ok scBBaths (fun vs H Q E h => ?_) (fun cdv A outer s H vs Q E hr h => ?_)
  · obtain ⟨_, _, _, rfl, _⟩ := h
    rfl
  · obtain ⟨x, ss, bs, rfl, ⟨dx, t, d, so, h1, h2, h3, h4, ds, h5, h6, h7⟩, B, q⟩ := h
    have hb8 := B.b8
    refine ⟨_, pss_one (ps_ret (pe_callB (call_sortedD rfl) (by rfl) T.sorted (by decide +kernel) (pa_cons (pe_fld (pv 0) rfl) pa_nil))), ?_⟩
    walk_at "dm"
    refine ⟨C, dx, _, h1, c, nT, _, lk_tables, d, rfl, bs.map (·.1), _, h5, zipK_keys (by rw [List.length_map, List.length_map, h6]), by rw [List.length_map]; omega, fun l ns hl hp hs => q l ns hl hp hs⟩
def spBTable (C : Addr) : Sp := fun vs H Q _ => ∃ (x : Addr) (ss : List Str) (bs : List (Str × List Str)) (b : Str × List Str), vs = [.ref x, .str b.1] ∧ BookAt H C x ss bs ∧ BookIn ss bs ∧ b ∈ bs ∧
  ∀ l so, H l = none → so.Perm ss → PyProof.Rows.sortedS so = true → Q (.ref l) (upd H l (.lst ((so.map (lkV ss b)).map V.str)))
theorem scBTable : FnScope ["self", "bath"] ["self", "bath"] (defScope sBTable) := ⟨rfl, rfl, rfl, by decide +kernel, rfl, by decide +kernel, by decide +kernel⟩
theorem ok_btable {C f fC : Addr} {fd fdC : FuncData} (F : Fun K "table" "Book.table" sBTable f fd) (c : Cls K C) (nO : NoAttr K C "order") (nT : NoAttr K C "tables")
    (GC : FnOk P w K mg base CX0 1 fC fdC ["self", "bath"] (spBCheck C)) (hmC : Meth K C "check_bath" fC) (bC : Binds K fdC ["self", "bath"] []) : FnOk P w K mg base CX0 2 f fd ["self", "bath"] (spBTable C) := by
  refine F.ok scBTable (fun vs H Q E h => ?_) (fun cdv A outer s H vs Q E hr h => ?_)
  · obtain ⟨_, _, _, _, rfl, _⟩ := h
    rfl
  · obtain ⟨x, ss, bs, b, rfl, hbk, B, hb, q⟩ := h
    have hu : (cxOf CX0 P w K mg base ["self", "bath"] "Book.table" (defScope sBTable) f cdv A outer s H E).A.units + 1 < cLine := by
      have := hr.units
      exact Nat.lt_of_le_of_lt (Nat.add_le_add_left (by decide) _) this
    refine ⟨_, pss_cons (ps_expr (pe_meth (pv 0) c hmC GC hr bC .nil pass0 (pa_cons (pv 1) pa_nil)))
      (pss_one (ps_ret (pe_comp (N' := ["shade", "self", "bath"]) (pk := [none, some 0, some 1]) rfl (BlkOk.of (by rfl)) (pi_tup (pe_fld (pv 0) rfl)) (fun s H ex => pg_name (i := 0) (by show (["shade", "self", "bath"] : List Str).Nodup; decide +kernel) rfl (Or.inl rfl))
          (fun s H ex => pe_dget hu (pe_dget hu ((pe_fld (pv 1) rfl) : PE _ _ (tFld K (tVar 1) "tables")) (pv 2) (fun _ _ => rfl)) (pv 0) (fun _ _ => rfl))))), ?_⟩
    obtain ⟨dx, t, d, so, h1, h2, h3, h4, h5⟩ := hbk
    have hs := sz1000
    walk_at "dm"
    refine ⟨dx, _, h1, lk_other (by decide +kernel) (by decide +kernel), x, ss, bs, b, rfl, ⟨dx, t, d, so, h1, h2, h3, h4, h5⟩, B, hb, C, dx, _, h1, c, nO, _, lk_order, t, rfl, ⟨_, SqT.of h2⟩, fun D hD => ?_⟩
    have hsl : so.length = ss.length := h3.length_eq
    have hs12 := B.s12
    refine comp_pure (steady_tup (SqT.of h2)) (by rw [List.length_map]; omega) hD (fun σ => ∃ o, σ = [o, some (.ref x), some (.str b.1)]) (fun k => V.str (lkV ss b (so.getD k ⟨#[]⟩))) ⟨none, rfl⟩ ?_ ?_
    · rintro k y σ' H3 hk hy ⟨o, rfl⟩ hS3 R hR
      rw [List.getElem?_map] at hy
      obtain ⟨z, hz, rfl⟩ := Option.map_eq_some_iff.mp hy
      have hzs : z ∈ ss := h3.mem_iff.mp (List.mem_of_getElem? hz)
      obtain ⟨r, hg, hr⟩ := Tabs.get B (Same.tabs hS3 h5) hb
      walk_at "dm"
      refine ⟨C, dx, _, hS3 _ _ h1, c, nT, _, lk_tables, d, rfl, _, hg, r, rfl, V.str (lkV ss b z), .inl ⟨_, Sum.inr z, hr, rfl, (lkV_eq B.snd (B.bln b hb) hzs).symm⟩, ?_⟩
      have e : so.getD k ⟨#[]⟩ = z := by rw [List.getD_eq_getElem?_getD, hz]; rfl
      have := hR [some (V.str z), some (V.ref x), some (V.str b.1)] ⟨_, rfl⟩
      rw [e] at this
      exact this
    · have e : (List.range (so.map V.str).length).map (fun k => V.str (lkV ss b (so.getD k ⟨#[]⟩))) = (so.map (lkV ss b)).map V.str := by
        rw [List.map_map]
        refine map_range _ so _ _ (by rw [List.length_map]) fun k y hy => ?_
        rw [List.getD_eq_getElem?_getD, hy]
        rfl
      rw [e]
      exact q D so hD h3 h4
end

section
variable {P : Program} {w : World} {K : PySem.W.Frag} {mg : Str → Option Value} {base : Heap}
def spBCShade (C : Addr) : Sp := fun vs H Q _ => ∃ (x : Addr) (ss : List Str) (bs : List (Str × List Str)) (z : Str), vs = [.ref x, .str z] ∧ BookAt H C x ss bs ∧ z ∈ ss ∧ Q .non H
theorem scBCShade : FnScope ["self", "shade"] ["self", "shade"] (defScope sBCShade) := ⟨rfl, rfl, rfl, by decide +kernel, rfl, by decide +kernel, by decide +kernel⟩
theorem ok_bcshade {C f : Addr} {fd : FuncData} (F : Fun K "check_shade" "Book.check_shade" sBCShade f fd) (c : Cls K C) (nO : NoAttr K C "order") : FnOk P w K mg base CX0 1 f fd ["self", "shade"] (spBCShade C) := by
  refine F.ok scBCShade (fun vs H Q E h => ?_) (fun cdv A outer s H vs Q E hr h => ?_)
  · obtain ⟨_, _, _, _, rfl, _⟩ := h
    rfl
  · obtain ⟨x, ss, bs, z, rfl, ⟨dx, t, d, so, h1, h2, h3, h4, h5⟩, hz, q⟩ := h
    refine ⟨_, pss_one (ps_if (pt_cmpR op_notIn_seq (pv 1) (pe_fld (pv 0) rfl) (by with_unfolding_all rfl)) pss_never pss_nil), ?_⟩
    have hzo : z ∈ so := h3.mem_iff.mpr hz
    walk_at "dm"
    refine ⟨C, dx, _, h1, c, nO, _, lk_order, t, rfl, _, .inr (SqT.of h2), rfl, flat_strs so, ?_⟩
    rw [inV_str, decide_eq_true hzo]
    exact q
def spBOut (C : Addr) : Sp := fun vs H Q _ => ∃ (x : Addr) (ss : List Str) (bs : List (Str × List Str)) (b : Str × List Str) (z : Str), vs = [.ref x, .str b.1, .str z] ∧ BookAt H C x ss bs ∧ BookIn ss bs ∧ b ∈ bs ∧ z ∈ ss ∧ Q (.str (lkV ss b z)) H
theorem scBOut : FnScope ["self", "bath", "shade"] ["self", "bath", "shade"] (defScope sBOut) := ⟨rfl, rfl, rfl, by decide +kernel, rfl, by decide +kernel, by decide +kernel⟩
theorem ok_bout {C f fC fS : Addr} {fd fdC fdS : FuncData} (F : Fun K "out" "Book.out" sBOut f fd) (c : Cls K C) (nT : NoAttr K C "tables")
    (GC : FnOk P w K mg base CX0 1 fC fdC ["self", "bath"] (spBCheck C)) (hmC : Meth K C "check_bath" fC) (bC : Binds K fdC ["self", "bath"] [])
    (GS : FnOk P w K mg base CX0 1 fS fdS ["self", "shade"] (spBCShade C)) (hmS : Meth K C "check_shade" fS) (bS : Binds K fdS ["self", "shade"] []) : FnOk P w K mg base CX0 2 f fd ["self", "bath", "shade"] (spBOut C) := by
  refine F.ok scBOut (fun vs H Q E h => ?_) (fun cdv A outer s H vs Q E hr h => ?_)
  · obtain ⟨_, _, _, _, _, rfl, _⟩ := h
    rfl
  · obtain ⟨x, ss, bs, b, z, rfl, hbk, B, hb, hz, q⟩ := h
    have hu : (cxOf CX0 P w K mg base ["self", "bath", "shade"] "Book.out" (defScope sBOut) f cdv A outer s H E).A.units + 1 < cLine := by
      have := hr.units
      exact Nat.lt_of_le_of_lt (Nat.add_le_add_left (by decide) _) this
    refine ⟨_, pss_cons (ps_expr (pe_meth (pv 0) c hmC GC hr bC .nil pass0 (pa_cons (pv 1) pa_nil)))
      (pss_cons (ps_expr (pe_meth (pv 0) c hmS GS hr bS .nil pass0 (pa_cons (pv 2) pa_nil)))
      (pss_one (ps_ret (pe_dget hu (pe_dget hu (pe_fld (pv 0) rfl) (pv 1) (fun _ _ => rfl)) (pv 2) (fun _ _ => rfl))))), ?_⟩
    obtain ⟨dx, t, d, so, h1, h2, h3, h4, h5⟩ := hbk
    obtain ⟨r, hg, hr⟩ := Tabs.get B h5 hb
    walk_at "dm"
    refine ⟨dx, _, h1, lk_other (by decide +kernel) (by decide +kernel), x, ss, bs, b, rfl, ⟨dx, t, d, so, h1, h2, h3, h4, h5⟩, B, hb, dx, _, h1, lk_other (by decide +kernel) (by decide +kernel), x, ss, bs, z, rfl, ⟨dx, t, d, so, h1, h2, h3, h4, h5⟩, hz, ?_⟩
    exact ⟨C, dx, _, h1, c, nT, _, lk_tables, d, rfl, _, hg, r, rfl, _, .inl ⟨_, Sum.inr z, hr, rfl, (lkV_eq B.snd (B.bln b hb) hz).symm⟩, q⟩
end

section
variable {P : Program} {w : World} {K : PySem.W.Frag} {mg : Str → Option Value} {base : Heap}
def spHanded (K : PySem.W.Frag) (C : Addr) : Sp := fun vs H Q _ => ∃ (l lb : Addr) (ss : List Str) (bs : List (Str × List Str)), vs = [.ref l, .ref lb] ∧ SqL K H l (ss.map V.str) ∧ Bths H lb bs ∧ BookIn ss bs ∧ ∀ x H', H x = none → Same H H' → BookAt H' C x ss bs → Q (.ref x) H'
theorem scHanded : FnScope ["_law_shades", "_law_baths"] ["_law_shades", "_law_baths"] (defScope sHanded) := ⟨rfl, rfl, rfl, by decide +kernel, rfl, by decide +kernel, by decide +kernel⟩
theorem ok_handed {C f fI : Addr} {fd fdI : FuncData} (F : Fun K "_law_handed" "_law_handed" sHanded f fd) (T : Txt mg) (M : Mk K C fI) (GI : FnOk P w K mg base CX0 4 fI fdI ["self", "shades", "baths"] (spInit K C)) (bI : Binds K fdI ["self", "shades", "baths"] []) (mC : mg "Book" = some (.ref C)) :
    FnOk P w K mg base CX0 6 f fd ["_law_shades", "_law_baths"] (spHanded K C) := by
  refine F.ok scHanded (fun vs H Q E h => ?_) (fun cdv A outer s H vs Q E hr h => ?_)
  · obtain ⟨_, _, _, _, rfl, _⟩ := h
    rfl
  · obtain ⟨l, lb, ss, bs, rfl, hl, ⟨ps, hlb, hpl, hB⟩, B, q⟩ := h
    refine ⟨_, pss_one (ps_ret (pe_make M GI hr rfl mC bI .nil pass0 (pa_cons (pe_callTy call_list_of (by rfl) T.list (by decide +kernel) (pa_cons (pv 0) pa_nil)) (pa_cons (pe_comp (N' := ["_law_title", "_law_outs_here"]) (pk := [none, none]) rfl (BlkOk.of (by rfl)) (pi_list (pv 1))
        (fun s H ex => (pg_tup (n := 2) rfl (pgs_cons (pg_name (i := 0) (by show (["_law_title", "_law_outs_here"] : List Str).Nodup; decide +kernel) rfl (Or.inl rfl)) (pgs_cons (pg_name (i := 1) (by show (["_law_title", "_law_outs_here"] : List Str).Nodup; decide +kernel) rfl (Or.inl rfl)) pgs_nil)) : PG _ _ (gTup K 2 (gCons (gName 0) (gCons (gName 1) gNil)))))
        (fun s H ex => pe_tup (pa_cons (pv 0) (pa_cons (pe_callTy (call_list_of : CallR _ (.type "list") (fun xs H Q => ∃ p ys, xs = [.ref p] ∧ (SqL K H p ys ∨ SqT K H p ys) ∧ ∀ l, H l = none → Q (.ref l) (upd H l (.lst ys)))) (by rfl) T.list (by decide +kernel) (pa_cons (pv 1) pa_nil)) pa_nil)))) pa_nil)))), ?_⟩
    have hs := sz1000
    have hb8 := B.b8
    walk_at "dm"
    refine ⟨_, .inl hl, fun l2 hl2 => ?_⟩
    have Sa : Same H (upd H l2 (.lst (ss.map V.str))) := Same.updN hl2
    refine ⟨⟨_, SqL.of (Sa _ _ hlb)⟩, fun D hD => ?_⟩
    generalize hG : upd H l2 (.lst (ss.map V.str)) = G at Sa hD
    have hGl : G l2 = some (.lst (ss.map V.str)) := by rw [← hG]; exact upd_same
    refine comp_by (H0 := G) (steady_list (SqL.of (Sa _ _ hlb))) (by rw [List.length_map]; omega) (fun i xs σ' H' => (∃ o1 o2, σ' = [o1, o2]) ∧ Same G H' ∧ H' D = some (.lst xs) ∧ ∃ qs : List Addr, xs = qs.map V.ref ∧ qs.length = i ∧ ∀ (j : Nat) p b, qs[j]? = some p → bs[j]? = some b → BthAt (hide H' D) p b)
      ⟨⟨none, none, rfl⟩, Same.updN hD, upd_same, [], rfl, rfl, (by intro j p b h; simp at h)⟩ (fun i xs σ' H' ⟨_, h1, _, qs, h2, h3, _⟩ => ⟨h1, by rw [h2, List.length_map]; exact h3⟩) ?_ ?_
    · rintro i xs σ' H' x hi hx ⟨⟨o1, o2, rfl⟩, hS, hHD, qs, rfl, hql, hqB⟩ R hR
      rw [List.getElem?_map] at hx
      obtain ⟨p, hp, rfl⟩ := Option.map_eq_some_iff.mp hx
      obtain ⟨b, hb⟩ : ∃ b, bs[i]? = some b := ⟨_, List.getElem?_eq_getElem (by rw [List.length_map] at hi; omega)⟩
      obtain ⟨lo, ht, hlo⟩ := hB i p b hp hb
      refine g_tup2 (hS _ _ (Sa _ _ ht)) ?_
      walk_at "dm"
      refine ⟨_, .inl (SqL.of (hS _ _ (Sa _ _ hlo))), fun l3 hl3 => ⟨by omega, fun t ht3 => ?_⟩⟩
      have S3 : Same H' (upd H' l3 (.lst (b.2.map V.str))) := Same.updN hl3
      have ht' : H' t = none := S3.free ht3
      have S4 := S3.step (o := .tup [.str b.1, .ref l3]) ht'
      have hl3D : l3 ≠ D := fun e => by rw [e, hHD] at hl3; cases hl3
      have htD : t ≠ D := fun e => by rw [e, hHD] at ht'; cases ht'
      have hl3t : l3 ≠ t := fun e => by rw [← e, upd_same] at ht3; cases ht3
      refine hR _ _ _ (S4 _ _ hHD) ⟨⟨_, _, rfl⟩, (hS.trans S4).step hD, upd_same, qs ++ [t], by rw [List.map_append]; rfl, by rw [List.length_append, hql]; rfl, fun j p2 b2 hp2 hb2 => ?_⟩
      rw [hide_upd]
      by_cases hj : j < i
      · rw [List.getElem?_append_left (by omega)] at hp2
        exact Same.bthAt (Same.hide S4) (hqB j p2 b2 hp2 hb2)
      · have hj2 : j = i := by
          have := (List.getElem?_eq_some_iff.mp hp2).1
          rw [List.length_append, hql] at this
          simp only [List.length_singleton] at this
          omega
        subst hj2
        rw [List.getElem?_append_right (by omega), hql, Nat.sub_self] at hp2
        cases hp2
        rw [hb] at hb2
        cases hb2
        refine ⟨l3, ?_, ?_⟩
        · rw [hide_at htD]; exact upd_same
        · rw [hide_at hl3D, upd_ne hl3t]; exact upd_same
    · rintro xs σ' H' ⟨_, hS, hHD, qs, rfl, hql, hqB⟩ x dx hx hdx hne
      rw [List.length_map, hpl] at hql
      have S5 : Same H' (upd (upd H' dx (.own x)) x (.ins C dx [])) := (Same.updN hdx).step hx
      have S6 : Same H' (hide (upd (upd H' dx (.own x)) x (.ins C dx [])) x) := fun y o e => by
        rw [hide_at (ne_of_none e hx)]; exact S5 y o e
      refine ⟨x, dx, l2, D, ss, bs, rfl, upd_same, SqL.of (S5 _ _ (hS _ _ hGl)), ⟨qs, S5 _ _ hHD, hql, fun j p b hp hb => Same.bthAt (hide_sub.trans S5) (hqB j p b hp hb)⟩, B, fun H2 S2 hbk => ⟨rfl, ?_⟩⟩
      exact q x H2 ((Sa.trans hS).free hx) (((Sa.trans hS).trans S6).trans S2) hbk
end

section
variable {P : Program} {w : World} {K : PySem.W.Frag} {mg : Str → Option Value} {base : Heap}
def Fz (H H' : Hp) : Prop := (∀ b o, H b = some o → (∀ kvs, o ≠ .dK kvs) → H' b = some o) ∧ (∀ b o, Rd H b o → Rd H' b o)
theorem Same.fz {H H' : Hp} (S : Same H H') : Fz H H' := ⟨fun b o h _ => S b o h, fun b o h => Same.rd S h⟩
theorem Fz.refl (H : Hp) : Fz H H := ⟨fun _ _ h _ => h, fun _ _ h => h⟩
theorem Fz.trans {H H1 H2 : Hp} (a : Fz H H1) (b : Fz H1 H2) : Fz H H2 := ⟨fun c o h n => b.1 c o (a.1 c o h n) n, fun c o h => b.2 c o (a.2 c o h)⟩
theorem fz_freeze {H : Hp} {d : Addr} {kvs : List (Key × V)} {u : Obj} (h : H d = some (.dK kvs)) : Fz H (upd H d (.frz u (.dK kvs))) := by
  refine ⟨fun b o hb n => ?_, fun b o hb => ?_⟩
  · have hne : b ≠ d := fun e => n kvs (by rw [e, h] at hb; cases hb; rfl)
    rw [upd_ne hne]; exact hb
  · by_cases e : b = d
    · subst e
      rcases hb with hb | ⟨v, hb⟩
      · rw [h] at hb
        cases hb
        exact .inr ⟨u, upd_same⟩
      · rw [h] at hb; cases hb
    · rcases hb with hb | ⟨v, hb⟩
      · exact .inl (by rw [upd_ne e]; exact hb)
      · exact .inr ⟨v, by rw [upd_ne e]; exact hb⟩
theorem Fz.tabs {H H' : Hp} {d : Addr} {ss : List Str} {bs : List (Str × List Str)} (S : Fz H H') (h : Tabs H d ss bs) : Tabs H' d ss bs := by
  obtain ⟨ds, h1, h2, h3⟩ := h
  exact ⟨ds, S.2 _ _ h1, h2, fun i r b hr hb => S.2 _ _ (h3 i r b hr hb)⟩
theorem Fz.book {H H' : Hp} {C x : Addr} {ss : List Str} {bs : List (Str × List Str)} (S : Fz H H') (h : BookAt H C x ss bs) : BookAt H' C x ss bs := by
  obtain ⟨dx, t, d, so, h1, h2, h3, h4, h5⟩ := h
  exact ⟨dx, t, d, so, S.1 _ _ h1 (fun _ e => by cases e), S.1 _ _ h2 (fun _ e => by cases e), h3, h4, Fz.tabs S h5⟩
theorem Fz.seq {H H' : Hp} {a : Addr} {xs : List V} (S : Fz H H') (h : SqL K H a xs) : SqL K H' a xs := by
  rcases h with h | h
  · exact .inl (S.2 _ _ h)
  · exact .inr h
def TabG (H : Hp) (d : Addr) (ss ns : List Str) (lk : Str → Str → Str) : Prop :=
  ∃ kvs : List (Key × V), Rd H d (.dK kvs) ∧ kvs.map (·.1) = ns.map Sum.inr ∧ ∀ n ∈ ns, ∃ r kv, valV kvs (Sum.inr n) = some (.ref r) ∧ Rd H r (.dK kv) ∧ ∀ z ∈ ss, valV kv (Sum.inr z) = some (.str (lk n z))
theorem Fz.tabG {H H' : Hp} {d : Addr} {ss ns : List Str} {lk : Str → Str → Str} (S : Fz H H') (h : TabG H d ss ns lk) : TabG H' d ss ns lk := by
  obtain ⟨kvs, h1, h2, h3⟩ := h
  refine ⟨kvs, S.2 _ _ h1, h2, fun n hn => ?_⟩
  obtain ⟨r, kv, e1, e2, e3⟩ := h3 n hn
  exact ⟨r, kv, e1, S.2 _ _ e2, e3⟩
theorem TabG.get {H : Hp} {d : Addr} {ss ns : List Str} {lk : Str → Str → Str} (h : TabG H d ss ns lk) {n z : Str} (hn : n ∈ ns) (hz : z ∈ ss) : ∃ r, DGet H d (.str n) (some (.ref r)) ∧ DGet H r (.str z) (some (.str (lk n z))) := by
  obtain ⟨kvs, h1, h2, h3⟩ := h
  obtain ⟨r, kv, e1, e2, e3⟩ := h3 n hn
  exact ⟨r, .inl ⟨_, Sum.inr n, h1, rfl, e1.symm⟩, .inl ⟨_, Sum.inr z, e2, rfl, (e3 z hz).symm⟩⟩
def lkB (ss : List Str) (bs : List (Str × List Str)) (n z : Str) : Str := match bs.find? (fun b => decide (b.1 = n)) with
  | some b => lkV ss b z
  | none => ⟨#[]⟩
theorem lkB_eq {ss : List Str} : ∀ {bs : List (Str × List Str)} {b : Str × List Str} (z : Str), (bs.map (·.1)).Nodup → b ∈ bs → lkB ss bs b.1 z = lkV ss b z
  | [], _, _, _, h => by cases h
  | a :: bs, b, z, hd, h => by
    unfold lkB
    by_cases e : a.1 = b.1
    · rw [List.find?_cons_of_pos (by simp [e])]
      rcases List.mem_cons.mp h with rfl | hm
      · rfl
      · exact absurd (List.mem_map_of_mem (f := (·.1)) hm) (by rw [List.map_cons, List.nodup_cons] at hd; rw [← e]; exact hd.1)
    · rw [List.find?_cons_of_neg (by simp [e])]
      have hm : b ∈ bs := by
        rcases List.mem_cons.mp h with rfl | hm
        · exact absurd rfl e
        · exact hm
      rw [List.map_cons, List.nodup_cons] at hd
      exact lkB_eq z hd.2 hm
theorem Tabs.toG {H : Hp} {d : Addr} {ss : List Str} {bs : List (Str × List Str)} (B : BookIn ss bs) (h : Tabs H d ss bs) : TabG H d ss (bs.map (·.1)) (lkB ss bs) := by
  obtain ⟨ds, h1, h2, h3⟩ := h
  refine ⟨_, h1, zipK_keys (by rw [List.length_map, List.length_map, h2]), fun n hn => ?_⟩
  obtain ⟨b, hb, rfl⟩ := List.mem_map.mp hn
  obtain ⟨i, hi⟩ := List.getElem?_of_mem hb
  have hil : i < ds.length := by rw [h2]; exact (List.getElem?_eq_some_iff.mp hi).1
  have hr := List.getElem?_eq_getElem hil
  refine ⟨ds[i], _, valV_zip _ _ i _ _ B.bnd (by rw [List.getElem?_map, hi]; rfl) (by rw [List.getElem?_map, hr]; rfl), h3 i _ b hr hi, fun z hz => ?_⟩
  rw [lkB_eq z B.bnd hb]
  exact lkV_eq B.snd (B.bln b hb) hz
theorem dict_or {H1 : Hp} {d : Addr} {kvs : List (Key × V)} {W : Obj → Hp → Prop} (h : Rd H1 d (.dK kvs)) (k : ∀ o HF, HF d = some (.frz o (.dK kvs)) → Fz H1 HF → W o HF) :
    (H1 d = some (.dK kvs) ∧ ∀ o, W o (upd H1 d (.frz o (.dK kvs)))) ∨ ∃ o, H1 d = some (.frz o (.dK kvs)) ∧ W o H1 := by
  rcases h with h | ⟨o, h⟩
  · exact .inl ⟨h, fun o => k o _ upd_same (fz_freeze h)⟩
  · exact .inr ⟨o, h, k o _ h (Fz.refl _)⟩
end

section
variable {P : Program} {w : World} {K : PySem.W.Frag} {mg : Str → Option Value} {base : Heap}
def endL (lk : Str → Str → Str) (row : List Str) (z : Str) : Str := row.foldl (fun z n => lk n z) z
def walkL (lk : Str → Str → Str) (row : List Str) (z : Str) (m : Nat) : List Str := (List.range (m + 1)).map fun i => endL lk (row.take i) z
theorem endL_snoc {lk : Str → Str → Str} {row : List Str} {z n : Str} {i : Nat} (h : row[i]? = some n) : endL lk (row.take (i + 1)) z = lk n (endL lk (row.take i) z) := by
  unfold endL
  rw [take_snoc h, List.foldl_append]
  rfl
theorem walkL_snoc {lk : Str → Str → Str} {row : List Str} {z : Str} {i : Nat} : walkL lk row z (i + 1) = walkL lk row z i ++ [endL lk (row.take (i + 1)) z] := by
  unfold walkL
  rw [List.range_succ (n := i + 1), List.map_append]
  rfl
theorem walkL_last {lk : Str → Str → Str} {row : List Str} {z : Str} : ∀ i, atI ((walkL lk row z i).map V.str) (-1) = some (V.str (endL lk (row.take i) z))
  | 0 => rfl
  | i + 1 => by
    rw [walkL_snoc, List.map_append]
    exact atI_last _ _
theorem walkL_len {lk : Str → Str → Str} {row : List Str} {z : Str} {m : Nat} : (walkL lk row z m).length = m + 1 := by unfold walkL; rw [List.length_map, List.length_range]
theorem endL_mem {lk : Str → Str → Str} {ss ns : List Str} (hc : ∀ n ∈ ns, ∀ z ∈ ss, lk n z ∈ ss) : ∀ (row : List Str) (z : Str), (∀ n ∈ row, n ∈ ns) → z ∈ ss → endL lk row z ∈ ss
  | [], z, _, hz => hz
  | n :: r, z, hr, hz => endL_mem hc r (lk n z) (fun m hm => hr m (List.mem_cons_of_mem _ hm)) (hc n (hr n List.mem_cons_self) z hz)
theorem lkV_mem' {ss : List Str} {bs : List (Str × List Str)} {b : Str × List Str} {z : Str} (B : BookIn ss bs) (hb : b ∈ bs) (hz : z ∈ ss) : lkV ss b z ∈ ss := by
  obtain ⟨i, hi⟩ := List.getElem?_of_mem hz
  have hl := B.bln b hb
  have hil : i < b.2.length := by rw [hl]; exact (List.getElem?_eq_some_iff.mp hi).1
  have e : valV (tabV ss b) (Sum.inr z) = some (V.str b.2[i]) := valV_zip ss (b.2.map V.str) i z _ B.snd hi (by rw [List.getElem?_map, List.getElem?_eq_getElem hil]; rfl)
  have e2 : lkV ss b z = b.2[i] := by unfold lkV; rw [e]
  rw [e2]
  exact B.bin b hb _ (List.getElem_mem hil)
theorem lkB_mem {ss : List Str} {bs : List (Str × List Str)} (B : BookIn ss bs) : ∀ n ∈ bs.map (·.1), ∀ z ∈ ss, lkB ss bs n z ∈ ss := fun n hn z hz => by
  obtain ⟨b, hb, rfl⟩ := List.mem_map.mp hn
  rw [lkB_eq z B.bnd hb]
  exact lkV_mem' B hb hz
def spWalk (K : PySem.W.Frag) (C : Addr) : Sp := fun vs H Q _ => ∃ (x l : Addr) (ss : List Str) (bs : List (Str × List Str)) (row : List Str) (z : Str), vs = [.ref x, .ref l, .str z] ∧ BookAt H C x ss bs ∧ BookIn ss bs ∧ SqL K H l (row.map V.str) ∧ (∀ n ∈ row, n ∈ bs.map (·.1)) ∧ row.length ≤ 70 ∧ z ∈ ss ∧
  ∀ p H', H p = none → Same H H' → H' p = some (.lst ((walkL (lkB ss bs) row z row.length).map V.str)) → Q (.ref p) H'
theorem scWalk : FnScope ["book", "row", "shade", "shades", "bath"] ["book", "row", "shade"] (defScope sWalk) := ⟨rfl, rfl, rfl, by decide +kernel, rfl, by decide +kernel, by decide +kernel⟩
theorem ok_walk {C f fO : Addr} {fd fdO : FuncData} (F : Fun K "walk" "walk" sWalk f fd) (c : Cls K C)
    (GO : FnOk P w K mg base CX0 2 fO fdO ["self", "bath", "shade"] (spBOut C)) (hmO : Meth K C "out" fO) (bO : Binds K fdO ["self", "bath", "shade"] []) : FnOk P w K mg base CX0 3 f fd ["book", "row", "shade"] (spWalk K C) := by
  refine F.ok scWalk (fun vs H Q E h => ?_) (fun cdv A outer s H vs Q E hr h => ?_)
  · obtain ⟨_, _, _, _, _, _, rfl, _⟩ := h
    rfl
  · obtain ⟨x, l, ss, bs, row, z, rfl, hbk, B, hl, hrow, hlen, hz, q⟩ := h
    refine ⟨_, pss_cons (ps_set (i := 3) scWalk.nd rfl (Or.inl rfl) (pe_lst (pa_cons (pv 2) pa_nil)))
      (pss_cons (ps_for PassesOwn.never rfl (pi_list (pv 1)) (pg_name (i := 4) scWalk.nd rfl (Or.inl rfl))
        (pss_one (ps_expr (pe_bm PySem.F.plainAttrs_list PySem.F.slot_list_append PySem.F.type_list_append mt_append (pv 3) (pa_cons (pe_meth (pv 0) c hmO GO hr bO .nil pass0 (pa_cons (pv 4) (pa_cons (pe_ix ix_list (pv 3) (pe_un un_neg pe_int) (fun _ _ => rfl)) pa_nil))) pa_nil)))))
      (pss_one (ps_ret (pv 3)))), ?_⟩
    have hs := sz1000
    walk_at "dm"
    refine ⟨by omega, fun p hp => ?_⟩
    have S0 : Same H (upd H p (.lst [V.str z])) := Same.updN hp
    refine ⟨⟨_, S0.seq hl⟩, ?_⟩
    refine for_steady (H0 := H) (steady_list hl) (fun i σ' H' => ∃ o, σ' = [some (.ref x), some (.ref l), some (.str z), some (.ref p), o] ∧ Same H H' ∧ H' p = some (.lst ((walkL (lkB ss bs) row z i).map V.str)))
      ⟨none, rfl, S0, upd_same⟩ (fun _ _ _ _ ⟨_, _, h, _⟩ => h) ?_ ?_
    · rintro i y σ H' hi hy ⟨o, rfl, hS, hH⟩
      rw [List.getElem?_map] at hy
      obtain ⟨n, hn, rfl⟩ := Option.map_eq_some_iff.mp hy
      rw [List.length_map] at hi
      obtain ⟨b, hb, rfl⟩ := List.mem_map.mp (hrow n (List.mem_of_getElem? hn))
      have hbk' := Same.book hS hbk
      have hbk0 := hbk'
      obtain ⟨dx, t, d, so, h1, h2, h3, h4, h5⟩ := hbk'
      have hm : endL (lkB ss bs) (row.take i) z ∈ ss := endL_mem (lkB_mem B) _ z (fun n hn => hrow n (List.mem_of_mem_take hn)) hz
      walk_at "dm"
      refine ⟨.inl ⟨rfl, _, SqL.of hH⟩, dx, _, h1, lk_other (by decide +kernel) (by decide +kernel), _, SqL.of hH, _, walkL_last i, x, ss, bs, b, _, rfl, hbk0, B, hb, hm, _, hH, ?_, hS.step hp, ?_⟩
      · rw [List.length_map, walkL_len]; omega
      · rw [upd_same, walkL_snoc, List.map_append, endL_snoc hn, lkB_eq _ B.bnd hb]
        rfl
    · rintro σ H' ⟨o, rfl, hS, hH⟩
      rw [List.length_map] at hH
      walk_at "dm"
      exact q p H' hp hS hH
end

section
variable {P : Program} {w : World} {K : PySem.W.Frag} {mg : Str → Option Value} {base : Heap}
def spPair : Sp := fun vs H Q _ => ∃ (t : Addr) (x y : V), vs = [.ref t] ∧ H t = some (.tup [x, y]) ∧ Q (.bl true) H
theorem scPair : FnScope ["_law_found"] ["_law_found"] (defScope sPair) := ⟨rfl, rfl, rfl, by decide +kernel, rfl, by decide +kernel, by decide +kernel⟩
theorem ok_pair {f : Addr} {fd : FuncData} (F : Fun K "_law_pair" "_law_pair" sPair f fd)
    (T : Txt mg)  :
    FnOk P w K mg base CX0 1 f fd ["_law_found"] spPair := by
  refine F.ok scPair (fun vs H Q E h => ?_) (fun cdv A outer s H vs Q E hr h => ?_)
  · obtain ⟨_, _, _, rfl, _⟩ := h
    rfl
  · obtain ⟨t, x, y, rfl, ht, q⟩ := h
    refine ⟨_, (pss_one (ps_ret (pe_and (pe_callB call_isi (by rfl) T.isi (by decide +kernel) (pa_cons (pv 0) (pa_cons (pe_bltn (v := .ty "tuple") rfl T.tuple (by decide +kernel) rfl) pa_nil))) (pe_one (pe_cmpR op_eq (pe_callB call_len_seq (by rfl) T.len PySem.boot_len (pa_cons (pv 0) pa_nil)) pe_int (nomark _)))))), ?_⟩
    walk_at "dm"
    refine ⟨_, TyOf.tup ht, true, rfl, ite2 (fun _ => ⟨_, .inr (SqT.of ht), rfl, ?_⟩) (fun h => absurd rfl h)⟩
    exact q
end

section
variable {P : Program} {w : World} {K : PySem.W.Frag} {mg : Str → Option Value} {base : Heap}
def spListOfD (K : PySem.W.Frag) : Sp := fun vs H Q _ => ∃ (l d : Addr) (xs ns : List Str) (kvs : List (Key × V)) (m : Int), vs = [.ref l, .ref d, .int m] ∧ H l = some (.lst (xs.map V.str)) ∧ Rd H d (.dK kvs) ∧ kvs.map (·.1) = ns.map Sum.inr ∧ (∀ x ∈ xs, x ∈ ns) ∧ ((xs.length : Nat) : Int) ≤ m ∧ Q (.bl true) H
theorem scListOfD : FnScope ["_law_found", "_law_known", "_law_most", "_law_one"] ["_law_found", "_law_known", "_law_most"] (defScope sListOf) := ⟨rfl, rfl, rfl, by decide +kernel, rfl, by decide +kernel, by decide +kernel⟩
theorem ok_listofD {f : Addr} {fd : FuncData} (F : Fun K "_law_list_of_names" "_law_list_of_names" sListOf f fd)
    (T : Txt mg)  :
    FnOk P w K mg base CX0 1 f fd ["_law_found", "_law_known", "_law_most"] (spListOfD K) := by
  refine F.ok scListOfD (fun vs H Q E h => ?_) (fun cdv A outer s H vs Q E hr h => ?_)
  · obtain ⟨_, _, _, _, _, _, rfl, _⟩ := h
    rfl
  · obtain ⟨l, d, xs, ns, kvs, m, rfl, hl, hd, hks, hin, hm, q⟩ := h
    have hu : (cxOf CX0 P w K mg base ["_law_found", "_law_known", "_law_most", "_law_one"] "_law_list_of_names" (defScope sListOf) f cdv A outer s H E).A.units + 1 < cLine := by
      have := hr.units
      exact Nat.lt_of_le_of_lt (Nat.add_le_add_left (by decide) _) this
    refine ⟨_, (pss_cut (ps_if (PW.pt (pw_or (pt_not (pt_val (pe_callB call_isi (by rfl) T.isi (by decide +kernel) (pa_cons (pv 0) (pa_cons (pe_bltn (v := .ty "list") rfl T.list (by decide +kernel) rfl) pa_nil))))) (pw_or1 (pt_cmpR op_gt (pe_callB call_len_seq (by rfl) T.len PySem.boot_len (pa_cons (pv 0) pa_nil)) (pv 2) (nomark _))))) (pss_one (ps_ret pe_bl)) pss_nil)
      (pss_cut (ps_for PassesOwn.never rfl (pi_list (pv 0)) (pg_name (i := 3) scListOfD.nd rfl (Or.inl rfl)) (pss_one (ps_if (PW.pt (pw_or (pt_not (pt_val (pe_callB call_isi (by rfl) T.isi (by decide +kernel) (pa_cons (pv 3) (pa_cons (pe_bltn (v := .ty "str") rfl T.str (by decide +kernel) rfl) pa_nil))))) (pw_or1 (pt_cmp (pc_dnotin hu (pv 3) (pv 1)))))) (pss_one (ps_ret pe_bl)) pss_nil)))
      (pss_one (ps_ret pe_bl)))), ?_⟩
    have hs := sz1000
    have hkl : kvs.length = ns.length := by
      have := congrArg List.length hks
      rwa [List.length_map, List.length_map] at this
    refine cutQ (fun σ' H' => σ' = [some (.ref l), some (.ref d), some (.int m), none] ∧ H' = H) (fun R hR => ?_) ?_
    · walk_at "dm"
      refine ⟨_, TyOf.lst hl, true, rfl, ite2 (fun h => by cases h) (fun _ => ⟨_, .inl (SqL.of hl), ?_⟩)⟩
      rw [List.length_map]
      exact ite2 (fun h => absurd h (by omega)) (fun _ => hR _ _ ⟨rfl, rfl⟩)
    rintro σ1 H1 ⟨rfl, rfl⟩
    refine cutQ (fun σ' H' => H' = H1) (fun R hR => ?_) ?_
    · walk_at "dm"
      refine ⟨⟨_, SqL.of hl⟩, ?_⟩
      refine for_steadyQ (H0 := H1) (steady_list (SqL.of hl)) (fun i σ' H' => ∃ (o3 : Option V), σ' = [some (.ref l), some (.ref d), some (.int m), o3] ∧ H' = H1) ⟨none, rfl, rfl⟩ (fun _ _ _ _ ⟨_, _, h⟩ => by rw [h]; exact Same.refl _) ?_ (fun σ H' ⟨_, _, h⟩ => hR _ _ h)
      rintro i x σ H' hi hx ⟨o3, rfl, rfl⟩ R2 hR2
      rw [List.getElem?_map] at hx
      obtain ⟨z, hz, rfl⟩ := Option.map_eq_some_iff.mp hx
      have hzn := hin z (List.mem_of_getElem? hz)
      obtain ⟨v, hv⟩ : ∃ v, valV kvs (Sum.inr z) = some v := by
        have hm : Sum.inr z ∈ kvs.map (·.1) := by rw [hks]; exact List.mem_map_of_mem hzn
        cases hv : valV kvs (Sum.inr z) with
        | some v => exact ⟨v, rfl⟩
        | none =>
          unfold valV at hv
          rw [Option.map_eq_none_iff, List.find?_eq_none] at hv
          obtain ⟨kv, h1, h2⟩ := List.mem_map.mp hm
          exact absurd (decide_eq_true h2) (hv kv h1)
      walk_at "dm"
      exact ⟨_, TyOf.str _, true, rfl, ite2 (fun h => by cases h) (fun _ => ⟨some v, .inl ⟨_, Sum.inr z, hd, rfl, hv.symm⟩, ite2 (fun h => by cases h) (fun _ => hR2 _ _ ⟨_, rfl, rfl⟩)⟩)⟩
    rintro σ2 H2 rfl
    walk_at "dm"
    exact q
def spListOfL (K : PySem.W.Frag) : Sp := fun vs H Q _ => ∃ (l d : Addr) (xs ns : List Str) (m : Int), vs = [.ref l, .ref d, .int m] ∧ H l = some (.lst (xs.map V.str)) ∧ SqL K H d (ns.map V.str) ∧ (∀ x ∈ xs, x ∈ ns) ∧ ((xs.length : Nat) : Int) ≤ m ∧ Q (.bl true) H
theorem scListOfL : FnScope ["_law_found", "_law_known", "_law_most", "_law_one"] ["_law_found", "_law_known", "_law_most"] (defScope sListOf) := ⟨rfl, rfl, rfl, by decide +kernel, rfl, by decide +kernel, by decide +kernel⟩
theorem ok_listofL {f : Addr} {fd : FuncData} (F : Fun K "_law_list_of_names" "_law_list_of_names" sListOf f fd)
    (T : Txt mg)  :
    FnOk P w K mg base CX0 1 f fd ["_law_found", "_law_known", "_law_most"] (spListOfL K) := by
  refine F.ok scListOfL (fun vs H Q E h => ?_) (fun cdv A outer s H vs Q E hr h => ?_)
  · obtain ⟨_, _, _, _, _, rfl, _⟩ := h
    rfl
  · obtain ⟨l, d, xs, ns, m, rfl, hl, hd, hin, hm, q⟩ := h
    refine ⟨_, (pss_cut (ps_if (PW.pt (pw_or (pt_not (pt_val (pe_callB call_isi (by rfl) T.isi (by decide +kernel) (pa_cons (pv 0) (pa_cons (pe_bltn (v := .ty "list") rfl T.list (by decide +kernel) rfl) pa_nil))))) (pw_or1 (pt_cmpR op_gt (pe_callB call_len_seq (by rfl) T.len PySem.boot_len (pa_cons (pv 0) pa_nil)) (pv 2) (nomark _))))) (pss_one (ps_ret pe_bl)) pss_nil)
      (pss_cut (ps_for PassesOwn.never rfl (pi_list (pv 0)) (pg_name (i := 3) scListOfL.nd rfl (Or.inl rfl)) (pss_one (ps_if (PW.pt (pw_or (pt_not (pt_val (pe_callB call_isi (by rfl) T.isi (by decide +kernel) (pa_cons (pv 3) (pa_cons (pe_bltn (v := .ty "str") rfl T.str (by decide +kernel) rfl) pa_nil))))) (pw_or1 (pt_cmpR op_notIn_seq (pv 3) (pv 1) (by with_unfolding_all rfl))))) (pss_one (ps_ret pe_bl)) pss_nil)))
      (pss_one (ps_ret pe_bl)))), ?_⟩
    have hs := sz1000
    refine cutQ (fun σ' H' => σ' = [some (.ref l), some (.ref d), some (.int m), none] ∧ H' = H) (fun R hR => ?_) ?_
    · walk_at "dm"
      refine ⟨_, TyOf.lst hl, true, rfl, ite2 (fun h => by cases h) (fun _ => ⟨_, .inl (SqL.of hl), ?_⟩)⟩
      rw [List.length_map]
      exact ite2 (fun h => absurd h (by omega)) (fun _ => hR _ _ ⟨rfl, rfl⟩)
    rintro σ1 H1 ⟨rfl, rfl⟩
    refine cutQ (fun σ' H' => H' = H1) (fun R hR => ?_) ?_
    · walk_at "dm"
      refine ⟨⟨_, SqL.of hl⟩, ?_⟩
      refine for_steadyQ (H0 := H1) (steady_list (SqL.of hl)) (fun i σ' H' => ∃ (o3 : Option V), σ' = [some (.ref l), some (.ref d), some (.int m), o3] ∧ H' = H1) ⟨none, rfl, rfl⟩ (fun _ _ _ _ ⟨_, _, h⟩ => by rw [h]; exact Same.refl _) ?_ (fun σ H' ⟨_, _, h⟩ => hR _ _ h)
      rintro i x σ H' hi hx ⟨o3, rfl, rfl⟩ R2 hR2
      rw [List.getElem?_map] at hx
      obtain ⟨z, hz, rfl⟩ := Option.map_eq_some_iff.mp hx
      have hzn := hin z (List.mem_of_getElem? hz)
      walk_at "dm"
      refine ⟨_, TyOf.str _, true, rfl, ite2 (fun h => by cases h) (fun _ => ⟨_, .inl hd, rfl, flat_strs ns, ite2 (fun hn => ?_) (fun _ => hR2 _ _ ⟨_, rfl, rfl⟩)⟩)⟩
      rw [inV_str, decide_eq_true hzn] at hn
      cases hn
    rintro σ2 H2 rfl
    walk_at "dm"
    exact q
end

section
variable {P : Program} {w : World} {K : PySem.W.Frag} {mg : Str → Option Value} {base : Heap}
def spAtEnd (K : PySem.W.Frag) : Sp := fun vs H Q _ => ∃ (d l : Addr) (ss ns row : List Str) (lk : Str → Str → Str) (z : Str), vs = [.ref d, .ref l, .str z] ∧ TabG H d ss ns lk ∧ (∀ n ∈ ns, ∀ z ∈ ss, lk n z ∈ ss) ∧ SqL K H l (row.map V.str) ∧ (∀ n ∈ row, n ∈ ns) ∧ z ∈ ss ∧ Q (.str (endL lk row z)) H
theorem scAtEnd : FnScope ["_law_tables_here", "_law_row_here", "_law_shade", "_law_at_here", "_law_bath"] ["_law_tables_here", "_law_row_here", "_law_shade"] (defScope sAtEnd) := ⟨rfl, rfl, rfl, by decide +kernel, rfl, by decide +kernel, by decide +kernel⟩
theorem ok_atend {f : Addr} {fd : FuncData} (F : Fun K "_law_at_end" "_law_at_end" sAtEnd f fd) : FnOk P w K mg base CX0 1 f fd ["_law_tables_here", "_law_row_here", "_law_shade"] (spAtEnd K) := by
  refine F.ok scAtEnd (fun vs H Q E h => ?_) (fun cdv A outer s H vs Q E hr h => ?_)
  · obtain ⟨_, _, _, _, _, _, _, rfl, _⟩ := h
    rfl
  · obtain ⟨d, l, ss, ns, row, lk, z, rfl, hG, hc, hl, hrow, hz, q⟩ := h
    have hu : (cxOf CX0 P w K mg base ["_law_tables_here", "_law_row_here", "_law_shade", "_law_at_here", "_law_bath"] "_law_at_end" (defScope sAtEnd) f cdv A outer s H E).A.units + 1 < cLine := by
      have := hr.units
      exact Nat.lt_of_le_of_lt (Nat.add_le_add_left (by decide) _) this
    refine ⟨_, pss_cons (ps_set (i := 3) scAtEnd.nd rfl (Or.inl rfl) (pv 2))
      (pss_cons (ps_for PassesOwn.never rfl (pi_list (pv 1)) (pg_name (i := 4) scAtEnd.nd rfl (Or.inl rfl))
        (pss_one (ps_set (i := 3) scAtEnd.nd rfl (Or.inl rfl) (pe_dget hu (pe_dget hu (pv 0) (pv 4) (fun _ _ => rfl)) (pv 3) (fun _ _ => rfl)))))
      (pss_one (ps_ret (pv 3)))), ?_⟩
    walk_at "dm"
    refine ⟨⟨_, hl⟩, ?_⟩
    refine for_steady (H0 := H) (steady_list hl) (fun i σ' H' => ∃ o, σ' = [some (.ref d), some (.ref l), some (.str z), some (.str (endL lk (row.take i) z)), o] ∧ H' = H) ⟨none, rfl, rfl⟩ (fun _ _ _ _ ⟨_, _, h⟩ => by rw [h]; exact Same.refl _) ?_ ?_
    · rintro i y σ H' hi hy ⟨o, rfl, rfl⟩
      rw [List.getElem?_map] at hy
      obtain ⟨n, hn, rfl⟩ := Option.map_eq_some_iff.mp hy
      have hm : endL lk (row.take i) z ∈ ss := endL_mem hc _ z (fun n hn => hrow n (List.mem_of_mem_take hn)) hz
      obtain ⟨r, hg1, hg2⟩ := hG.get (hrow n (List.mem_of_getElem? hn)) hm
      walk_at "dm"
      refine ⟨_, hg1, r, rfl, _, hg2, ?_⟩
      rw [endL_snoc hn]
      exact ⟨rfl, _, rfl⟩
    · rintro σ H' ⟨o, rfl, rfl⟩
      rw [List.length_map, List.take_of_length_le (Nat.le_refl _)]
      walk_at "dm"
      exact q
end

section
variable {P : Program} {w : World} {K : PySem.W.Frag} {mg : Str → Option Value} {base : Heap}
def spRow (K : PySem.W.Frag) : Sp := fun vs H Q _ => ∃ (cell mixed : Int) (m : Nat) (t : Addr) (ts : List Str), vs = [.int cell, .int m, .ref t, .int mixed] ∧ SqL K H t (ts.map V.str) ∧ m ≤ 40 ∧ ts.length ≤ 8 ∧ (mixed = 0 ∨ mixed = 1) ∧
  ∀ p (row : List Str) H', H p = none → Same H H' → H' p = some (.lst (row.map V.str)) → row.length ≤ 40 → (∀ n ∈ row, n ∈ ts) → Q (.ref p) H'
theorem scRow : FnScope ["_law_cell", "_law_size", "_law_titles", "_law_mixed", "_law_drawn_here"] ["_law_cell", "_law_size", "_law_titles", "_law_mixed"] (defScope sRow) := ⟨rfl, rfl, rfl, by decide +kernel, rfl, by decide +kernel, by decide +kernel⟩
theorem ok_row {f fD : Addr} {fd fdD : FuncData} (F : Fun K "_law_row" "_law_row" sRow f fd) (T : Txt mg) (TM : mg "max" = none) (GD : FnOk P w K mg base CX0 1 fD fdD ["_law_cell", "_law_many", "_law_bound", "_law_mixed"] spDraws) (kD : PySem.W.keepIn K (.ref fD) = true) (bD : Binds K fdD ["_law_cell", "_law_many", "_law_bound", "_law_mixed"] []) (mD : mg "_law_draws" = some (.ref fD)) :
    FnOk P w K mg base CX0 2 f fd ["_law_cell", "_law_size", "_law_titles", "_law_mixed"] (spRow K) := by
  refine F.ok scRow (fun vs H Q E h => ?_) (fun cdv A outer s H vs Q E hr h => ?_)
  · obtain ⟨_, _, _, _, _, rfl, _⟩ := h
    rfl
  · obtain ⟨cell, mixed, m, t, ts, rfl, ht, hm, hts, hmix, q⟩ := h
    refine ⟨_, pss_cut (ps_set (i := 4) scRow.nd rfl (Or.inl rfl) (pe_call GD hr rfl mD kD bD .nil pass0 (pa_cons (pv 0) (pa_cons (pe_op op_mul (pv 1) (pe_callB (call_min2 rfl) (by rfl) T.min (by decide +kernel) (pa_cons pe_int (pa_cons (pe_callB call_len_seq (by rfl) T.len PySem.boot_len (pa_cons (pv 2) pa_nil)) pa_nil)))) (pa_cons (pe_callB (call_max2 rfl) (by rfl) TM (by decide +kernel) (pa_cons pe_int (pa_cons (pe_callB call_len_seq (by rfl) T.len PySem.boot_len (pa_cons (pv 2) pa_nil)) pa_nil))) (pa_cons (pv 3) pa_nil))))))
      (pss_one (ps_ret (pe_comp (N' := ["_law_k", "_law_titles"]) (pk := [none, some 2]) rfl (BlkOk.of (by rfl)) (pi_list (pv 4)) (fun s H ex => pg_name (i := 0) (by show (["_law_k", "_law_titles"] : List Str).Nodup; decide +kernel) rfl (Or.inl rfl))
          (fun s H ex => pe_ix (ix_list : IxR _ (rIxL K)) (pv 1) (pv 0) (fun _ _ => rfl))))), ?_⟩
    have hs := sz1000
    refine cut (fun σ' H' => ∃ (l : Addr) (os : List Int), σ' = [some (.int cell), some (.int m), some (.ref t), some (.int mixed), some (.ref l)] ∧ Same H H' ∧ H' l = some (.lst (os.map V.int)) ∧ os.length ≤ 40 ∧ ∀ y ∈ os, 0 ≤ y ∧ y < ts.length) ?_ ?_
    · walk_at "dm"
      refine ⟨_, .inl ht, ?_⟩
      rw [List.length_map]
      by_cases h0 : ts.length = 0
      · rw [h0]
        refine ⟨.inr ⟨by decide, by decide⟩, _, .inl ht, cell, 0, 1, mixed, ?_, by decide, by decide, by decide, by decide, hmix, fun l H' hl S hH => ⟨l, rfl, S, [], hH, by decide, fun y hy => by cases hy⟩⟩
        rw [List.length_map, h0]
        simp
      · have e1 : (if ((ts.length : Nat) : Int) < 1 then ((ts.length : Nat) : Int) else 1) = 1 := if_neg (by omega)
        have e2 : (if ((ts.length : Nat) : Int) > 1 then ((ts.length : Nat) : Int) else 1) = ts.length := by split <;> omega
        rw [e1]
        refine ⟨.inr ⟨by decide, by decide⟩, _, .inl ht, ?_⟩
        rw [List.length_map, e2, Int.mul_one]
        refine ⟨cell, m, ts.length, mixed, rfl, by omega, by omega, by omega, by omega, hmix, fun l H' hl S hH => ⟨l, rfl, S, _, hH, ?_, draws_rng (by omega) _⟩⟩
        rw [draws_len]; omega
    rintro σ1 H1 ⟨l, os, rfl, S1, hl, hos, hor⟩
    walk_at "dm"
    refine ⟨⟨_, SqL.of hl⟩, fun D hD => ?_⟩
    have ht1 := S1.seq ht
    refine comp_pure (steady_list (SqL.of hl)) (by rw [List.length_map]; omega) hD (fun σ => ∃ o, σ = [o, some (.ref t)]) (fun k => V.str (nmAt ts (os.getD k 0))) ⟨none, rfl⟩ ?_ ?_
    · rintro k x σ' H3 hk hx ⟨o, rfl⟩ hS3 R hR
      rw [List.getElem?_map] at hx
      obtain ⟨y, hy, rfl⟩ := Option.map_eq_some_iff.mp hx
      have hyr := hor y (List.mem_of_getElem? hy)
      walk_at "dm"
      refine ⟨_, hS3.seq ht1, _, nmAt_get hyr.1 (by omega), ?_⟩
      have e : os.getD k 0 = y := by rw [List.getD_eq_getElem?_getD, hy]; rfl
      have := hR [some (V.int y), some (V.ref t)] ⟨_, rfl⟩
      rw [e] at this
      exact this
    · have e : (List.range (os.map V.int).length).map (fun k => V.str (nmAt ts (os.getD k 0))) = (os.map (nmAt ts)).map V.str := by
        rw [List.map_map]
        refine map_range _ os _ _ (by rw [List.length_map]) fun k x hx => ?_
        rw [List.getD_eq_getElem?_getD, hx]
        rfl
      rw [e]
      refine q D (os.map (nmAt ts)) _ (S1.free hD) (S1.step (S1.free hD)) upd_same (by rw [List.length_map]; exact hos) fun n hn => ?_
      obtain ⟨y, hy, rfl⟩ := List.mem_map.mp hn
      have hyr := hor y hy
      have := nmAt_mem (ws := ts) hyr.1 (n := ts.length) hyr.2 (Nat.le_refl _)
      rwa [List.take_length] at this
end

section
variable {P : Program} {w : World} {K : PySem.W.Frag} {mg : Str → Option Value} {base : Heap}
def spTextIs : Sp := fun vs H Q _ => ∃ z y : Str, vs = [.str z, .str y] ∧ Q (.bl (decide (z = y))) H
theorem scTextIs : FnScope ["_law_found", "_law_due"] ["_law_found", "_law_due"] (defScope sTextIs) := ⟨rfl, rfl, rfl, by decide +kernel, rfl, by decide +kernel, by decide +kernel⟩
theorem ok_textis {f : Addr} {fd : FuncData} (F : Fun K "_law_text_is" "_law_text_is" sTextIs f fd)
    (T : Txt mg)  :
    FnOk P w K mg base CX0 1 f fd ["_law_found", "_law_due"] spTextIs := by
  refine F.ok scTextIs (fun vs H Q E h => ?_) (fun cdv A outer s H vs Q E hr h => ?_)
  · obtain ⟨_, _, rfl, _⟩ := h
    rfl
  · obtain ⟨z, y, rfl, q⟩ := h
    refine ⟨_, (pss_one (ps_ret (pe_and (pe_callB call_isi (by rfl) T.isi (by decide +kernel) (pa_cons (pv 0) (pa_cons (pe_bltn (v := .ty "str") rfl T.str (by decide +kernel) rfl) pa_nil))) (pe_one (pe_cmpR op_eq (pv 0) (pv 1) (nomark _)))))), ?_⟩
    walk_at "dm"
    refine ⟨_, TyOf.str _, true, rfl, ?_⟩
    rw [if_pos rfl]
    exact ⟨rfl, q⟩
end

section
variable {P : Program} {w : World} {K : PySem.W.Frag} {mg : Str → Option Value} {base : Heap}
abbrev ltN (a b : Str) : Prop := a.cps.toList < b.cps.toList
theorem ltN_irr {a : Str} : ¬ ltN a a := List.lt_irrefl _
theorem ltN_tr {a b c : Str} (h : ltN a b) (k : ltN b c) : ltN a c := List.lt_trans h k
theorem sorted_lt {l : List Str} (h : PyProof.Rows.sortedS l = true) (hn : l.Nodup) : l.Pairwise ltN :=
  ((pw_of_sorted l h).and hn).imp fun {a b} k => Classical.byContradiction fun c => k.2 (leS_anti k.1 (leS_iff.mpr c))
abbrev OkR (ns : List Str) (r : List Str) : Prop := ∀ n ∈ r, n ∈ ns
theorem endL_app {lk : Str → Str → Str} {r q : List Str} {z : Str} : endL lk (r ++ q) z = endL lk q (endL lk r z) := by unfold endL; rw [List.foldl_append]
theorem OkR.app {ns r q : List Str} (h : OkR ns r) (k : OkR ns q) : OkR ns (r ++ q) := fun n hn => by
  rcases List.mem_append.mp hn with hn | hn
  · exact h n hn
  · exact k n hn
theorem pigeonP {α : Type} [DecidableEq α] : ∀ {l m : List α}, l.Nodup → (∀ x ∈ l, x ∈ m) → l.length ≤ m.length
  | [], _, _, _ => Nat.zero_le _
  | x :: l, m, hn, h => by
    have hn' := List.nodup_cons.mp hn
    have hx := h x List.mem_cons_self
    have ih := pigeonP (m := m.erase x) hn'.2 fun y hy => (List.mem_erase_of_ne (fun e => hn'.1 (by rw [← e]; exact hy))).mpr (h y (List.mem_cons_of_mem _ hy))
    rw [List.length_erase_of_mem hx] at ih
    have := List.length_pos_of_mem hx
    rw [List.length_cons]
    omega
def prsL : List Str → List (Str × Str)
  | [] => []
  | x :: l => l.map (fun y => (x, y)) ++ prsL l
theorem prsL_drop {l : List Str} {i : Nat} {x : Str} (h : l[i]? = some x) : prsL (l.drop i) = (l.drop (i + 1)).map (fun y => (x, y)) ++ prsL (l.drop (i + 1)) := by
  obtain ⟨hi, rfl⟩ := List.getElem?_eq_some_iff.mp h
  rw [List.drop_eq_getElem_cons hi]
  rfl
theorem prsL_mem : ∀ {l : List Str} (_ : l.Pairwise ltN) {a b : Str}, (a, b) ∈ prsL l ↔ a ∈ l ∧ b ∈ l ∧ ltN a b
  | [], _, a, b => by simp [prsL]
  | x :: l, h, a, b => by
    have h' := List.pairwise_cons.mp h
    unfold prsL
    rw [List.mem_append, prsL_mem h'.2, List.mem_map]
    constructor
    · rintro (⟨y, hy, e⟩ | ⟨h1, h2, h3⟩)
      · cases e
        exact ⟨List.mem_cons_self, List.mem_cons_of_mem _ hy, h'.1 _ hy⟩
      · exact ⟨List.mem_cons_of_mem _ h1, List.mem_cons_of_mem _ h2, h3⟩
    · rintro ⟨h1, h2, h3⟩
      rcases List.mem_cons.mp h1 with e1 | k1
      · rcases List.mem_cons.mp h2 with e2 | k2
        · rw [e1, e2] at h3; exact absurd h3 ltN_irr
        · rw [e1]; exact .inl ⟨b, k2, rfl⟩
      · rcases List.mem_cons.mp h2 with e2 | k2
        · rw [e2] at h3; exact absurd (ltN_tr h3 (h'.1 a k1)) ltN_irr
        · exact .inr ⟨k1, k2, h3⟩
theorem prsL_nodup : ∀ {l : List Str} (_ : l.Pairwise ltN), (prsL l).Nodup
  | [], _ => List.nodup_nil
  | x :: l, h => by
    have h' := List.pairwise_cons.mp h
    unfold prsL
    refine List.nodup_append.mpr ⟨?_, prsL_nodup h'.2, fun a ha b hb e => ?_⟩
    · refine List.Pairwise.map _ (fun a b hab e => ?_) (h'.2.imp fun {a b} k => (fun e => by rw [e] at k; exact ltN_irr k : a ≠ b))
      cases e
      exact hab rfl
    · subst e
      obtain ⟨y, hy, rfl⟩ := List.mem_map.mp ha
      have := (prsL_mem h'.2).mp hb
      exact ltN_irr (h'.1 x this.1)
theorem prsL_len : ∀ l : List Str, (prsL l).length * 2 = l.length * (l.length - 1)
  | [] => rfl
  | x :: l => by
    have ih := prsL_len l
    unfold prsL
    rw [List.length_append, List.length_map, Nat.add_mul, ih, List.length_cons, Nat.add_sub_cancel, Nat.add_mul]
    rcases Nat.eq_zero_or_pos l.length with h | h
    · rw [h]
    · obtain ⟨k, hk⟩ : ∃ k, l.length = k + 1 := ⟨l.length - 1, by omega⟩
      rw [hk, Nat.add_sub_cancel]
      have : (k + 1) * (k + 1) = (k + 1) * k + (k + 1) := Nat.mul_succ _ _
      omega
theorem prsL_66 {l : List Str} (h : l.length ≤ 12) : (prsL l).length ≤ 66 := by
  have h1 := prsL_len l
  have h2 : l.length * (l.length - 1) ≤ 12 * 11 := Nat.mul_le_mul h (by omega)
  omega
def ordP (x y : Str) : Str × Str := if y.cps.toList < x.cps.toList then (y, x) else (x, y)
theorem ordP_of {x y a b : Str} (hp : [a, b].Perm [x, y]) (hs : PyProof.Rows.sortedS [a, b] = true) : (a, b) = ordP x y ∧ (a = b ↔ x = y) := by
  have hl : leS a b := by have := pw_of_sorted _ hs; exact (List.pairwise_cons.mp this).1 b List.mem_cons_self
  have hl' := leS_iff.mp hl
  have two : (a = x ∧ b = y) ∨ (a = y ∧ b = x) := by
    have ha : a ∈ [x, y] := hp.mem_iff.mp List.mem_cons_self
    rcases List.mem_cons.mp ha with rfl | ha
    · have := List.perm_singleton.mp ((List.perm_cons a).mp hp)
      cases this
      exact .inl ⟨rfl, rfl⟩
    · have ha := List.mem_singleton.mp ha
      subst ha
      have := List.perm_singleton.mp ((List.perm_cons a).mp (hp.trans (List.Perm.swap a x [])))
      cases this
      exact .inr ⟨rfl, rfl⟩
  unfold ordP
  rcases two with ⟨rfl, rfl⟩ | ⟨rfl, rfl⟩
  · rw [if_neg hl']
    exact ⟨rfl, Iff.rfl⟩
  · by_cases h : a.cps.toList < b.cps.toList
    · rw [if_pos h]
      exact ⟨rfl, eq_comm⟩
    · rw [if_neg h]
      have e : a = b := leS_anti hl (leS_iff.mpr h)
      subst e
      exact ⟨rfl, Iff.rfl⟩
theorem ordP_mem {ss : List Str} (h : ss.Pairwise ltN) {x y : Str} (hx : x ∈ ss) (hy : y ∈ ss) (hne : x ≠ y) : ordP x y ∈ prsL ss := by
  unfold ordP
  by_cases k : y.cps.toList < x.cps.toList
  · rw [if_pos k]; exact (prsL_mem h).mpr ⟨hy, hx, k⟩
  · rw [if_neg k]
    refine (prsL_mem h).mpr ⟨hx, hy, ?_⟩
    exact Classical.byContradiction fun c => hne (leS_anti (leS_iff.mpr k) (leS_iff.mpr c))
theorem ordP_end {f : Str → Str} {x y : Str} (h : f (ordP x y).1 = f (ordP x y).2) : f x = f y := by
  unfold ordP at h
  by_cases k : y.cps.toList < x.cps.toList
  · rw [if_pos k] at h; exact h.symm
  · rw [if_neg k] at h; exact h
abbrev PRows := List ((Str × Str) × List Str)
abbrev keysP (M : PRows) : List (Str × Str) := M.map (·.1)
structure JoinI (lk : Str → Str → Str) (ns ss : List Str) (M : PRows) : Prop where
  nd : (keysP M).Nodup
  mem : ∀ p ∈ keysP M, p ∈ prsL ss
  row : ∀ e ∈ M, OkR ns e.2 ∧ endL lk e.2 e.1.1 = endL lk e.2 e.1.2
  len : ∀ e ∈ M, e.2.length ≤ M.length
theorem JoinI.l66 {lk : Str → Str → Str} {ns ss : List Str} {M : PRows} (J : JoinI lk ns ss M) (h12 : ss.length ≤ 12) : M.length ≤ 66 := by
  have := pigeonP J.nd J.mem
  rw [List.length_map] at this
  have := prsL_66 h12
  omega
theorem JoinI.nil {lk : Str → Str → Str} {ns ss : List Str} : JoinI lk ns ss [] := ⟨List.nodup_nil, (fun _ h => by cases h), (fun _ h => by cases h), (fun _ h => by cases h)⟩
def Apart (lk : Str → Str → Str) (ns : List Str) (M : PRows) (p : Str × Str) : Prop := ∀ n ∈ ns, lk n p.1 ≠ lk n p.2 ∧ ordP (lk n p.1) (lk n p.2) ∉ keysP M
def Joins (lk : Str → Str → Str) (ns : List Str) (M : PRows) (p : Str × Str) (r : List Str) : Prop := OkR ns r ∧ endL lk r p.1 = endL lk r p.2 ∧ r.length ≤ M.length + 1
theorem JoinI.put {lk : Str → Str → Str} {ns ss : List Str} {M : PRows} (J : JoinI lk ns ss M) {p : Str × Str} {r : List Str} (hp : p ∈ prsL ss) (hn : p ∉ keysP M) (h : Joins lk ns M p r) : JoinI lk ns ss (M ++ [(p, r)]) := by
  have hk : keysP (M ++ [(p, r)]) = keysP M ++ [p] := List.map_append
  refine ⟨?_, fun q hq => ?_, fun e he => ?_, fun e he => ?_⟩
  · rw [hk]
    exact List.nodup_append.mpr ⟨J.nd, by simp, fun a ha b hb e => by rw [List.mem_singleton.mp hb] at e; exact hn (by rw [← e]; exact ha)⟩
  · rw [hk] at hq
    rcases List.mem_append.mp hq with hq | hq
    · exact J.mem q hq
    · rw [List.mem_singleton.mp hq]; exact hp
  · rcases List.mem_append.mp he with he | he
    · exact J.row e he
    · rw [List.mem_singleton.mp he]; exact ⟨h.1, h.2.1⟩
  · rw [List.length_append]
    rcases List.mem_append.mp he with he | he
    · exact Nat.le_succ_of_le (J.len e he)
    · rw [List.mem_singleton.mp he]; exact h.2.2
theorem joins_one {lk : Str → Str → Str} {ns : List Str} {M : PRows} {p : Str × Str} {n : Str} (hn : n ∈ ns) (e : lk n p.1 = lk n p.2) : Joins lk ns M p [n] :=
  ⟨fun m hm => by rw [List.mem_singleton.mp hm]; exact hn, e, Nat.le_add_left _ _⟩
theorem joins_more {lk : Str → Str → Str} {ns ss : List Str} {M : PRows} (J : JoinI lk ns ss M) {p : Str × Str} {n : Str} {q : List Str} (hn : n ∈ ns) (h : (ordP (lk n p.1) (lk n p.2), q) ∈ M) : Joins lk ns M p (n :: q) := by
  obtain ⟨h1, h2⟩ := J.row _ h
  refine ⟨fun m hm => ?_, ordP_end (f := endL lk q) h2, Nat.succ_le_succ (J.len _ h)⟩
  rcases List.mem_cons.mp hm with rfl | hm
  · exact hn
  · exact h1 m hm
def pkey (p : Str × Str) : List Key := [Sum.inr p.1, Sum.inr p.2]
theorem pkey_inj {p q : Str × Str} (h : pkey p = pkey q) : p = q := by
  unfold pkey at h
  simp only [List.cons.injEq, Sum.inr.injEq, and_true] at h
  exact Prod.ext h.1 h.2
def zipP (M : PRows) (ps : List Addr) : List (List Key × V) := (M.map fun e => pkey e.1).zip (ps.map V.ref)
def PRowsAt (H : Hp) (d : Addr) (M : PRows) (ps : List Addr) : Prop := H d = some (.dT (zipP M ps)) ∧ ps.length = M.length ∧ ∀ (i : Nat) p e, ps[i]? = some p → M[i]? = some e → H p = some (.lst (e.2.map V.str))
theorem PRowsAt.same {H H' : Hp} {d : Addr} {M : PRows} {ps : List Addr} (h : PRowsAt H d M ps) (S : Same H H') : PRowsAt H' d M ps := ⟨S _ _ h.1, h.2.1, fun i p e hp he => S _ _ (h.2.2 i p e hp he)⟩
theorem valP_none : ∀ (M : PRows) (ps : List Addr) (p : Str × Str), p ∉ keysP M → valV (zipP M ps) (pkey p) = none
  | [], _, _, _ => rfl
  | e :: M, [], _, _ => rfl
  | e :: M, q :: ps, p, h => by
    have h1 : p ≠ e.1 := fun z => h (by rw [z]; exact List.mem_cons_self)
    have ih := valP_none M ps p fun z => h (List.mem_cons_of_mem _ z)
    unfold valV at ih ⊢
    show Option.map (·.2) (List.find? _ ((pkey e.1, V.ref q) :: zipP M ps)) = none
    rw [List.find?_cons_of_neg (by simpa using fun z => h1 (pkey_inj z).symm)]
    exact ih
theorem valP_some : ∀ (M : PRows) (ps : List Addr) (i : Nat) (e : (Str × Str) × List Str) (q : Addr), (keysP M).Nodup → M[i]? = some e → ps[i]? = some q → valV (zipP M ps) (pkey e.1) = some (V.ref q)
  | [], _, _, _, _, _, h, _ => by cases h
  | e0 :: M, [], _, _, _, _, _, h => by cases h
  | e0 :: M, q0 :: ps, 0, e, q, hd, h1, h2 => by
    cases h1; cases h2
    unfold valV
    show Option.map (·.2) (List.find? _ ((pkey e0.1, V.ref q0) :: zipP M ps)) = _
    rw [List.find?_cons_of_pos (by simp)]
    rfl
  | e0 :: M, q0 :: ps, i + 1, e, q, hd, h1, h2 => by
    have hd' := List.nodup_cons.mp (show (e0.1 :: keysP M).Nodup from hd)
    have h1' : M[i]? = some e := h1
    have hne : e0.1 ≠ e.1 := fun z => hd'.1 (by rw [z]; exact List.mem_map_of_mem (f := (·.1)) (List.mem_of_getElem? h1'))
    have ih := valP_some M ps i e q hd'.2 h1' h2
    unfold valV at ih ⊢
    show Option.map (·.2) (List.find? _ ((pkey e0.1, V.ref q0) :: zipP M ps)) = _
    rw [List.find?_cons_of_neg (by simpa using fun z => hne (pkey_inj z))]
    exact ih
theorem zipP_len {M : PRows} {ps : List Addr} (h : ps.length = M.length) : (zipP M ps).length = M.length := by unfold zipP; rw [List.length_zip, List.length_map, List.length_map, h, Nat.min_self]
theorem zipP_snoc {M : PRows} {ps : List Addr} (h : ps.length = M.length) (p : Str × Str) (r : List Str) (q : Addr) : zipP (M ++ [(p, r)]) (ps ++ [q]) = zipP M ps ++ [(pkey p, V.ref q)] := by
  unfold zipP
  rw [List.map_append, List.map_append, List.zip_append (by rw [List.length_map, List.length_map, h])]
  rfl
theorem PRowsAt.get {H : Hp} {d b : Addr} {M : PRows} {ps : List Addr} (h : PRowsAt H d M ps) (hd : (keysP M).Nodup) {p : Str × Str} (hb : H b = some (.tup [.str p.1, .str p.2])) (hp : p ∈ keysP M) : ∃ q r, (p, r) ∈ M ∧ DGet H d (.ref b) (some (.ref q)) ∧ H q = some (.lst (r.map V.str)) ∧ q ∈ ps := by
  obtain ⟨e, he, rfl⟩ := List.mem_map.mp hp
  obtain ⟨i, hi⟩ := List.getElem?_of_mem he
  have hil : i < ps.length := by rw [h.2.1]; exact (List.getElem?_eq_some_iff.mp hi).1
  have hq := List.getElem?_eq_getElem hil
  refine ⟨ps[i], e.2, he, ?_, h.2.2 i _ _ hq hi, List.getElem_mem hil⟩
  rw [← valP_some M ps i e _ hd hi hq]
  exact DGet.t h.1 hb
theorem PRowsAt.none {H : Hp} {d b : Addr} {M : PRows} {ps : List Addr} (h : PRowsAt H d M ps) {p : Str × Str} (hb : H b = some (.tup [.str p.1, .str p.2])) (hp : p ∉ keysP M) : DGet H d (.ref b) Option.none := by
  rw [← valP_none M ps p hp]
  exact DGet.t h.1 hb
theorem PRowsAt.put {H : Hp} {d b q : Addr} {M : PRows} {ps : List Addr} (h : PRowsAt H d M ps) {p : Str × Str} {r : List Str} (hb : H b = some (.tup [.str p.1, .str p.2])) (hp : p ∉ keysP M) (hq : H q = some (.lst (r.map V.str))) (hl : M.length < sizeLine) :
    ∃ H', DPut H d (.ref b) (.ref q) H' ∧ PRowsAt H' d (M ++ [(p, r)]) (ps ++ [q]) ∧ (∀ c, c ≠ d → H' c = H c) := by
  refine ⟨_, DPut.t (k := pkey p) h.1 hb (by rw [zipP_len h.2.1]; exact hl), ⟨?_, by rw [List.length_append, List.length_append, h.2.1]; rfl, fun i x e hx he => ?_⟩, fun c hc => upd_ne hc⟩
  · rw [upd_same, putK_new _ (valP_none M ps p hp), zipP_snoc h.2.1]
  · have nd : x ≠ d := by
      intro z
      by_cases hi : i < ps.length
      · rw [List.getElem?_append_left hi] at hx
        obtain ⟨e', he'⟩ : ∃ e', M[i]? = some e' := ⟨_, List.getElem?_eq_getElem (by rw [← h.2.1]; exact hi)⟩
        have := h.2.2 i x _ hx he'
        rw [z, h.1] at this
        cases this
      · rw [List.getElem?_append_right (by omega)] at hx
        obtain ⟨j, hj⟩ : ∃ j, i - ps.length = j := ⟨_, rfl⟩
        rw [hj] at hx
        cases j with
        | zero => cases hx; rw [z, h.1] at hq; cases hq
        | succ j => cases hx
    rw [upd_ne nd]
    by_cases hi : i < ps.length
    · rw [List.getElem?_append_left hi] at hx
      rw [List.getElem?_append_left (by rw [← h.2.1]; exact hi)] at he
      exact h.2.2 i x e hx he
    · rw [List.getElem?_append_right (by omega)] at hx
      rw [List.getElem?_append_right (by rw [← h.2.1]; omega), ← h.2.1] at he
      obtain ⟨j, hj⟩ : ∃ j, i - ps.length = j := ⟨_, rfl⟩
      rw [hj] at hx he
      cases j with
      | zero => cases hx; cases he; exact hq
      | succ j => cases hx
end

section
variable {P : Program} {w : World} {K : PySem.W.Frag} {mg : Str → Option Value} {base : Heap}
theorem compI_pure {J : It} {n : Nat} {vs : Nat → V → Prop} {g : TG} {tc : TT} {te : TE} {D : Addr} {Q : Hp → Prop} {σ : St} {H : Hp} (S : Steady J H n vs) (hn : n ≤ sizeLine) (hD : H D = none) (Pσ : St → Prop) (bt : Nat → Bool) (out : Nat → V)
    (h0 : Pσ σ) (step : ∀ i x σ' H', i < n → vs i x → Pσ σ' → Same H H' → ∀ (R1 : V → St → Hp → Prop) (R0 : St → Hp → Prop), (bt i = true → ∀ σ2, Pσ σ2 → R1 (out i) σ2 H') → (bt i = false → ∀ σ2, Pσ σ2 → R0 σ2 H') → g x σ' H' fun σ2 H3 => tc σ2 H3 fun b H3' => if b = true then te σ2 H3' fun v H4 => R1 v σ2 H4 else R0 σ2 H3')
    (fin : Q (upd H D (.lst (((List.range n).filter bt).map out)))) : CompWI J g tc te D Q σ (upd H D (.lst [])) := by
  refine ⟨fun i m σ' H' => m = n - i ∧ i ≤ n ∧ Pσ σ' ∧ H' = upd H D (.lst (((List.range i).filter bt).map out)), ⟨n, by simp, Nat.zero_le _, h0, rfl⟩, ?_⟩
  rintro i m σ' H' ⟨rfl, hi, p, rfl⟩
  have sm : Same H (upd H D (.lst (((List.range i).filter bt).map out))) := Same.updN hD
  by_cases hlt : i < n
  · refine .inr ⟨S.go i _ hlt sm, fun σ2 H2 => Pσ σ2 ∧ H2 = upd H D (.lst (((List.range (i + 1)).filter bt).map out)), fun σ2 H2 ⟨p', e⟩ => ⟨n - (i + 1), by omega, rfl, hlt, p', e⟩, fun x H2 y => ?_⟩
    obtain ⟨e, hv⟩ := S.yld i _ x H2 hlt sm y
    subst e
    have hlen : ((List.range i).filter bt).length ≤ i := by
      have := List.length_filter_le bt (List.range i)
      rwa [List.length_range] at this
    refine step i x σ' _ hlt hv p sm (fun v σ2 H4 => ∃ xs, H4 D = some (.lst xs) ∧ xs.length < sizeLine ∧ Pσ σ2 ∧ upd H4 D (.lst (xs ++ [v])) = upd H D (.lst (((List.range (i + 1)).filter bt).map out))) (fun σ2 H4 => Pσ σ2 ∧ H4 = upd H D (.lst (((List.range (i + 1)).filter bt).map out))) (fun hb σ2 p2 => ?_) (fun hb σ2 p2 => ⟨p2, ?_⟩)
    · refine ⟨((List.range i).filter bt).map out, upd_same, by rw [List.length_map]; omega, p2, ?_⟩
      rw [upd_upd, List.range_succ, List.filter_append, List.filter_cons_of_pos (by simpa using hb), List.filter_nil, List.map_append, List.map_singleton]
    · rw [List.range_succ, List.filter_append, List.filter_cons_of_neg (by simpa using hb), List.filter_nil, List.append_nil]
  · have e : i = n := by omega
    subst e
    exact .inl ⟨S.stop _ sm, fin⟩
def Tups (H : Hp) (ps : List Addr) (L : List (List V)) : Prop := ps.length = L.length ∧ ∀ (i : Nat) p e, ps[i]? = some p → L[i]? = some e → H p = some (.tup e)
theorem Tups.same {H H' : Hp} {ps : List Addr} {L : List (List V)} (S : Same H H') (h : Tups H ps L) : Tups H' ps L := ⟨h.1, fun i p e hp he => S _ _ (h.2 i p e hp he)⟩
theorem Tups.snoc {H : Hp} {ps : List Addr} {L : List (List V)} {t : Addr} {e : List V} (h : Tups H ps L) (ht : H t = some (.tup e)) : Tups H (ps ++ [t]) (L ++ [e]) := by
  refine ⟨by rw [List.length_append, List.length_append, h.1]; rfl, fun i p e2 hp he => ?_⟩
  by_cases hi : i < ps.length
  · rw [List.getElem?_append_left hi] at hp
    rw [List.getElem?_append_left (by rw [← h.1]; exact hi)] at he
    exact h.2 i p e2 hp he
  · have hj : i = ps.length := by
      have := (List.getElem?_eq_some_iff.mp hp).1
      rw [List.length_append, List.length_singleton] at this
      omega
    subst hj
    rw [List.getElem?_append_right (Nat.le_refl _), Nat.sub_self] at hp
    rw [List.getElem?_append_right (by rw [h.1]; exact Nat.le_refl _), h.1, Nat.sub_self] at he
    cases hp
    cases he
    exact ht
theorem compI_tup {J : It} {n : Nat} {vs : Nat → V → Prop} {g : TG} {tc : TT} {te : TE} {D : Addr} {Q : Hp → Prop} {σ : St} {H : Hp} (S : Steady J H n vs) (hn : n ≤ sizeLine) (hD : H D = none) (Pσ : St → Prop) (bt : Nat → Bool) (out : Nat → List V)
    (h0 : Pσ σ) (step : ∀ i x σ' H', i < n → vs i x → Pσ σ' → Same H H' → ∀ (R1 : V → St → Hp → Prop) (R0 : St → Hp → Prop), (bt i = true → ∀ t σ2, Pσ σ2 → H' t = none → R1 (.ref t) σ2 (upd H' t (.tup (out i)))) → (bt i = false → ∀ σ2, Pσ σ2 → R0 σ2 H') → g x σ' H' fun σ2 H3 => tc σ2 H3 fun b H3' => if b = true then te σ2 H3' fun v H4 => R1 v σ2 H4 else R0 σ2 H3')
    (fin : ∀ ps H', Same H H' → H' D = some (.lst (ps.map V.ref)) → Tups H' ps (((List.range n).filter bt).map out) → Q H') : CompWI J g tc te D Q σ (upd H D (.lst [])) := by
  refine ⟨fun i m σ' H' => m = n - i ∧ i ≤ n ∧ Pσ σ' ∧ ∃ ps, Same H H' ∧ H' D = some (.lst (ps.map V.ref)) ∧ Tups (hide H' D) ps (((List.range i).filter bt).map out), ⟨n, by simp, Nat.zero_le _, h0, [], Same.updN hD, upd_same, rfl, by intro i p e h; simp at h⟩, ?_⟩
  rintro i m σ' H' ⟨rfl, hi, p, ps, sm, hHD, hT⟩
  by_cases hlt : i < n
  · refine .inr ⟨S.go i _ hlt sm, fun σ2 H2 => Pσ σ2 ∧ ∃ ps, Same H H2 ∧ H2 D = some (.lst (ps.map V.ref)) ∧ Tups (hide H2 D) ps (((List.range (i + 1)).filter bt).map out), fun σ2 H2 ⟨p', e⟩ => ⟨n - (i + 1), by omega, rfl, hlt, p', e⟩, fun x H2 y => ?_⟩
    obtain ⟨e, hv⟩ := S.yld i _ x H2 hlt sm y
    subst e
    have hlen : ps.length ≤ i := by
      have := List.length_filter_le bt (List.range i)
      rw [List.length_range] at this
      rw [hT.1, List.length_map]; exact this
    refine step i x σ' _ hlt hv p sm (fun v σ2 H4 => ∃ xs, H4 D = some (.lst xs) ∧ xs.length < sizeLine ∧ Pσ σ2 ∧ ∃ ps, Same H (upd H4 D (.lst (xs ++ [v]))) ∧ upd H4 D (.lst (xs ++ [v])) D = some (.lst (ps.map V.ref)) ∧ Tups (hide (upd H4 D (.lst (xs ++ [v]))) D) ps (((List.range (i + 1)).filter bt).map out)) (fun σ2 H4 => Pσ σ2 ∧ ∃ ps, Same H H4 ∧ H4 D = some (.lst (ps.map V.ref)) ∧ Tups (hide H4 D) ps (((List.range (i + 1)).filter bt).map out)) (fun hb t σ2 p2 ht => ?_) (fun hb σ2 p2 => ⟨p2, ps, sm, hHD, ?_⟩)
    · have htD : t ≠ D := fun e => by rw [e, hHD] at ht; cases ht
      refine ⟨ps.map V.ref, by rw [upd_ne (Ne.symm htD)]; exact hHD, by rw [List.length_map]; omega, p2, ps ++ [t], (sm.step (sm.free ht)).step hD, by rw [upd_same, List.map_append]; rfl, ?_⟩
      rw [List.range_succ, List.filter_append, List.filter_cons_of_pos (by simpa using hb), List.filter_nil, List.map_append, List.map_singleton, hide_upd]
      exact (Tups.same (Same.hide (Same.updN ht)) hT).snoc (by rw [hide_at htD]; exact upd_same)
    · rw [List.range_succ, List.filter_append, List.filter_cons_of_neg (by simpa using hb), List.filter_nil, List.append_nil]
      exact hT
  · have e : i = n := by omega
    subst e
    exact .inl ⟨S.stop _ sm, fin ps H' sm hHD (hT.same hide_sub)⟩
end

section
variable {P : Program} {w : World} {K : PySem.W.Frag} {mg : Str → Option Value} {base : Heap}
theorem comp_gen {J : It} {n : Nat} {vs : Nat → V → Prop} {g : TG} {te : TE} {D : Addr} {Q : Hp → Prop} {σ : St} {H : Hp} (S : Steady J H n vs) (hn : n ≤ sizeLine) (hD : H D = none) (Pσ : St → Prop) (Pe : Nat → V → Hp → Prop) (mono : ∀ i v H1 H2, Same H1 H2 → Pe i v H1 → Pe i v H2)
    (h0 : Pσ σ) (step : ∀ i x σ' H', i < n → vs i x → Pσ σ' → Same H H' → (∀ t, H' t = none → t ≠ D) → ∀ R : V → St → Hp → Prop, (∀ v σ2 H4, Pσ σ2 → Same H' H4 → Pe i v (hide H4 D) → R v σ2 H4) → g x σ' H' fun σ2 H3 => te σ2 H3 fun v H4 => R v σ2 H4)
    (fin : ∀ us H', Same H H' → H' D = some (.lst us) → us.length = n → (∀ (i : Nat) v, us[i]? = some v → Pe i v (hide H' D)) → Q H') : CompW J g te D Q σ (upd H D (.lst [])) := by
  refine ⟨fun i m σ' H' => m = n - i ∧ i ≤ n ∧ Pσ σ' ∧ ∃ us, Same H H' ∧ H' D = some (.lst us) ∧ us.length = i ∧ ∀ (j : Nat) v, us[j]? = some v → Pe j v (hide H' D), ⟨n, by simp, Nat.zero_le _, h0, [], Same.updN hD, upd_same, rfl, by intro j v h; simp at h⟩, ?_⟩
  rintro i m σ' H' ⟨rfl, hi, p, us, sm, hHD, hl, hE⟩
  by_cases hlt : i < n
  · refine .inr ⟨S.go i _ hlt sm, fun σ2 H2 => Pσ σ2 ∧ ∃ us, Same H H2 ∧ H2 D = some (.lst us) ∧ us.length = i + 1 ∧ ∀ (j : Nat) v, us[j]? = some v → Pe j v (hide H2 D), fun σ2 H2 ⟨p', e⟩ => ⟨n - (i + 1), by omega, rfl, hlt, p', e⟩, fun x H2 y => ?_⟩
    obtain ⟨e, hv⟩ := S.yld i _ x H2 hlt sm y
    subst e
    refine step i x σ' _ hlt hv p sm (fun t ht e => by rw [e, hHD] at ht; cases ht) (fun v σ2 H4 => ∃ xs, H4 D = some (.lst xs) ∧ xs.length < sizeLine ∧ Pσ σ2 ∧ ∃ us, Same H (upd H4 D (.lst (xs ++ [v]))) ∧ upd H4 D (.lst (xs ++ [v])) D = some (.lst us) ∧ us.length = i + 1 ∧ ∀ (j : Nat) v', us[j]? = some v' → Pe j v' (hide (upd H4 D (.lst (xs ++ [v]))) D)) fun v σ2 H4 p2 S4 hP => ?_
    refine ⟨us, S4 _ _ hHD, by omega, p2, us ++ [v], (sm.trans S4).step hD, upd_same, by rw [List.length_append, hl]; rfl, fun j v' hj => ?_⟩
    rw [hide_upd]
    by_cases hji : j < us.length
    · rw [List.getElem?_append_left hji] at hj
      exact mono _ _ _ _ (Same.hide S4) (hE j v' hj)
    · rw [List.getElem?_append_right (by omega)] at hj
      have hj0 : j - us.length = 0 := by
        have := (List.getElem?_eq_some_iff.mp hj).1
        simp only [List.length_singleton] at this
        omega
      rw [hj0] at hj
      cases hj
      have : j = i := by omega
      subst this
      exact hP
  · have e : i = n := by omega
    subst e
    exact .inl ⟨S.stop _ sm, fin us H' sm hHD hl hE⟩
theorem refs_of : ∀ us : List V, (∀ v ∈ us, ∃ t, v = V.ref t) → ∃ qs : List Addr, us = qs.map V.ref
  | [], _ => ⟨[], rfl⟩
  | v :: us, h => by
    obtain ⟨t, rfl⟩ := h v List.mem_cons_self
    obtain ⟨qs, rfl⟩ := refs_of us fun v hv => h v (List.mem_cons_of_mem _ hv)
    exact ⟨t :: qs, rfl⟩
theorem tups_of {α : Type} {us : List V} {L : List α} {f : α → List V} {H : Hp} (hl : us.length = L.length) (h : ∀ (i : Nat) v, us[i]? = some v → ∃ t x, v = .ref t ∧ L[i]? = some x ∧ H t = some (.tup (f x))) : ∃ qs : List Addr, us = qs.map V.ref ∧ Tups H qs (L.map f) := by
  obtain ⟨qs, rfl⟩ := refs_of us fun v hv => by
    obtain ⟨i, hi⟩ := List.getElem?_of_mem hv
    obtain ⟨t, _, e, _⟩ := h i v hi
    exact ⟨t, e⟩
  rw [List.length_map] at hl
  refine ⟨qs, rfl, by rw [List.length_map, hl], fun i p e hp he => ?_⟩
  obtain ⟨t, x, e1, e2, e3⟩ := h i (.ref p) (by rw [List.getElem?_map, hp]; rfl)
  cases e1
  rw [List.getElem?_map, e2] at he
  cases he
  exact e3
end

section
variable {P : Program} {w : World} {K : PySem.W.Frag} {mg : Str → Option Value} {base : Heap}
theorem cut_drop2 {ws : List Str} {i : Nat} (h : i < ws.length) : cutV (ws.map V.str) (some ((i : Int) + 1)) none = (ws.drop (i + 1)).map V.str := by
  unfold cutV
  have e1 : HT.sIx (ws.map V.str).length 0 (some ((i : Int) + 1)) = i + 1 := by
    rw [List.length_map, show (i : Int) + 1 = ((i + 1 : Nat) : Int) by omega, HT.sIx_nat]
    omega
  have e2 : HT.sIx (ws.map V.str).length (ws.map V.str).length none = ws.length := List.length_map _
  rw [e1, e2, List.map_drop, List.take_of_length_le (by rw [List.length_drop, List.length_map]; omega)]
def tupP (e : Str × Str) : List V := [.str e.1, .str e.2]
def spAllPairs (K : PySem.W.Frag) : Sp := fun vs H Q _ => ∃ (l : Addr) (so : List Str), vs = [.ref l] ∧ SqL K H l (so.map V.str) ∧ so.length ≤ 12 ∧ ∀ p ps H', H p = none → Same H H' → H' p = some (.lst (ps.map V.ref)) → Tups H' ps ((prsL so).map tupP) → Q (.ref p) H'
theorem Tups.app {H : Hp} {ps qs : List Addr} {L M : List (List V)} (a : Tups H ps L) (b : Tups H qs M) : Tups H (ps ++ qs) (L ++ M) := by
  have hl := a.1
  refine ⟨by rw [List.length_append, List.length_append, a.1, b.1], fun i p e hp he => ?_⟩
  by_cases hi : i < ps.length
  · rw [List.getElem?_append_left hi] at hp
    rw [List.getElem?_append_left (by omega)] at he
    exact a.2 i p e hp he
  · rw [List.getElem?_append_right (by omega)] at hp
    rw [List.getElem?_append_right (by omega), ← hl] at he
    exact b.2 _ p e hp he

theorem scAllPairs : FnScope ["shades", "pairs", "place", "shade"] ["shades"] (defScope sAllPairs) := ⟨rfl, rfl, rfl, by decide +kernel, rfl, by decide +kernel, by decide +kernel⟩
theorem ok_allpairs {f : Addr} {fd : FuncData} (F : Fun K "all_pairs" "all_pairs" sAllPairs f fd)
    (T : Txt mg) (Ten : mg "enumerate" = none) :
    FnOk P w K mg base CX0 1 f fd ["shades"] (spAllPairs K) := by
  refine F.ok scAllPairs (fun vs H Q E h => ?_) (fun cdv A outer s H vs Q E hr h => ?_)
  · obtain ⟨_, _, rfl, _⟩ := h
    rfl
  · obtain ⟨l, so, rfl, hl, h12, q⟩ := h
    refine ⟨_, (pss_cut (ps_set (i := 1) scAllPairs.nd rfl (Or.inl rfl) (pe_lst pa_nil))
      (pss_cut (ps_for PassesOwn.never rfl (pi_enum (by rfl) Ten (pa_cons (pv 0) pa_nil)) (pg_tup (n := 2) rfl (pgs_cons (pg_name (i := 2) scAllPairs.nd rfl (Or.inl rfl)) (pgs_cons (pg_name (i := 3) scAllPairs.nd rfl (Or.inr rfl)) pgs_nil))) (pss_one (ps_expr (pe_bm PySem.F.plainAttrs_list PySem.F.slot_list_extend PySem.F.type_list_extend mt_extend (pv 1) (pa_cons (pe_comp (N' := ["behind", "shade"]) (pk := [none, some 3]) rfl (BlkOk.of (by rfl)) (pi_list (pe_slice sl_list (pv 0) (po_some (pe_op op_add (pv 2) pe_int)) po_none)) (fun s H ex => (pg_name (i := 0) (by show (["behind", "shade"] : List Str).Nodup; decide +kernel) rfl (Or.inl rfl))) (fun s H ex => (pe_tup (pa_cons (pv 1) (pa_cons (pv 0) pa_nil))))) pa_nil)))))
      (pss_one (ps_ret (pv 1))))), ?_⟩
    have hs := sz1000
    refine cutQ (fun σ' H' => ∃ p, H p = none ∧ σ' = [some (.ref l), some (.ref p), none, none] ∧ H' = upd H p (.lst [])) (fun R hR => ?_) ?_
    · walk_at "dm"
      exact ⟨by omega, fun p hp => hR _ _ ⟨p, hp, rfl, rfl⟩⟩
    rintro σ1 H1 ⟨p, hp, rfl, rfl⟩
    refine cutQ (fun σ' H' => ∃ o2 o3 ps, σ' = [some (.ref l), some (.ref p), o2, o3] ∧ Same H H' ∧ H' p = some (.lst (ps.map V.ref)) ∧ Tups H' ps ((prsL so).map tupP)) (fun R hR => ?_) ?_
    · walk_at "dm"
      refine ⟨⟨_, (Same.updN hp).seq hl⟩, ?_⟩
      refine for_enumQ (H0 := H) hl (fun i σ' H' => ∃ o2 o3 ps L, σ' = [some (.ref l), some (.ref p), o2, o3] ∧ Same H H' ∧ H' p = some (.lst (ps.map V.ref)) ∧ Tups H' ps (L.map tupP) ∧ L ++ prsL (so.drop i) = prsL so) ⟨none, none, [], [], rfl, Same.updN hp, upd_same, ⟨rfl, by intro i p e h; cases h⟩, by rw [List.drop_zero]; rfl⟩ (fun _ _ _ _ ⟨_, _, _, _, _, h, _⟩ => h) ?_ ?_
      · rintro i x T σ' H' hx hT ⟨o2, o3, ps, L, rfl, S, hP, hTu, hL⟩ R2 hR2
        rw [List.getElem?_map] at hx
        obtain ⟨z, hz, rfl⟩ := Option.map_eq_some_iff.mp hx
        have hT2 : upd H' T (.tup [V.int i, V.str z]) T = some (.tup [V.int i, V.str z]) := upd_same
        have S2 := Same.updN (o := .tup [V.int i, V.str z]) hT
        generalize upd H' T (.tup [V.int i, V.str z]) = G at *
        refine ⟨T, _, rfl, SqT.of hT2, rfl, ?_⟩
        walk_at "dm"
        have hi : i < so.length := (List.getElem?_eq_some_iff.mp hz).1
        refine ⟨.inl ⟨rfl, _, SqL.of (S2 _ _ hP)⟩, _, (S.trans S2).seq hl, fun l2 hl2 => ?_⟩
        have Sl := Same.updN (o := .lst (cutV (so.map V.str) (some ((i : Int) + 1)) none)) hl2
        have hl3 : upd G l2 (.lst (cutV (so.map V.str) (some ((i : Int) + 1)) none)) l2 = some (.lst ((so.drop (i + 1)).map V.str)) := by rw [upd_same, cut_drop2 hi]
        generalize upd G l2 (.lst (cutV (so.map V.str) (some ((i : Int) + 1)) none)) = G2 at *
        refine ⟨⟨_, SqL.of hl3⟩, fun D hD => ?_⟩
        refine comp_gen (steady_list (SqL.of hl3)) (by rw [List.length_map, List.length_drop, sizeLine_eq]; omega) hD (fun σ => ∃ o, σ = [o, some (.str z)]) (fun j v H => ∃ t y, v = .ref t ∧ (so.drop (i + 1))[j]? = some y ∧ H t = some (.tup (tupP (z, y)))) (fun j v H1 H2 S ⟨t, y, e1, e2, e3⟩ => ⟨t, y, e1, e2, S _ _ e3⟩) ⟨none, rfl⟩ ?_ ?_
        · rintro j x σ' H' hj hx ⟨o, rfl⟩ S3 hD3 R3 hR3
          rw [List.getElem?_map] at hx
          obtain ⟨y, hy, rfl⟩ := Option.map_eq_some_iff.mp hx
          walk_at "dm"
          refine ⟨by omega, fun t ht => hR3 _ _ _ ⟨_, rfl⟩ (Same.updN ht) ⟨t, y, rfl, hy, ?_⟩⟩
          rw [hide_at (hD3 t ht)]
          exact upd_same
        · intro us H3 S3 hD3 hul hus
          rw [List.length_map] at hul
          obtain ⟨qs, rfl, hq⟩ := tups_of (L := so.drop (i + 1)) (f := fun y => tupP (z, y)) (H := H3) hul fun j v hv => by
            obtain ⟨t, y, e1, e2, e3⟩ := hus j v hv
            exact ⟨t, y, e1, e2, hide_sub _ _ e3⟩
          have SS : Same H' H3 := S2.trans (Sl.trans S3)
          have hP3 := SS _ _ hP
          have hpH : H p = none := hp
          have hlen : ps.length ≤ 66 := by
            have h1 := hTu.1
            have h2 := congrArg List.length hL
            have h3 := prsL_66 h12
            rw [List.length_map] at h1
            rw [List.length_append] at h2
            omega
          have hlen2 : qs.length ≤ 12 := by rw [List.length_map, List.length_drop] at hul; omega
          refine ⟨_, hP3, _, hD3, by rw [List.length_map, List.length_map, sizeLine_eq]; omega, hR2 _ _ ⟨_, _, ps ++ qs, L ++ (so.drop (i + 1)).map (fun y => (z, y)), rfl, (S.trans SS).step hpH, by rw [upd_same, List.map_append], ?_, ?_⟩⟩
          · rw [List.map_append, List.map_map]
            have T1 := (hTu.same SS).app (M := (so.drop (i + 1)).map fun y => tupP (z, y)) hq
            refine ⟨T1.1, fun j q e hq he => ?_⟩
            have h := T1.2 j q e hq he
            rw [upd_ne (fun z => by rw [z, hP3] at h; cases h)]
            exact h
          · rw [List.append_assoc, ← prsL_drop hz]
            exact hL
      · rintro σ' H' ⟨o2, o3, ps, L, rfl, S, hP, hTu, hL⟩
        rw [List.length_map, List.drop_length] at hL
        have hL' : L = prsL so := by rw [← hL]; exact (List.append_nil L).symm
        subst hL'
        exact hR _ _ ⟨o2, o3, ps, rfl, S, hP, hTu⟩
    rintro σ2 H2 ⟨o2, o3, ps, rfl, S, hP, hTu⟩
    walk_at "dm"
    exact q p ps _ hp S hP hTu
end

section
variable {P : Program} {w : World} {K : PySem.W.Frag} {mg : Str → Option Value} {base : Heap}
def spJRow (CB : Addr) : Sp := fun vs H Q _ => ∃ (x t d : Addr) (ss : List Str) (bs : List (Str × List Str)) (so : List Str) (pr : Str × Str) (M : PRows) (ps : List Addr), vs = [.ref x, .ref t, .ref d] ∧ BookAt H CB x ss bs ∧ BookIn ss bs ∧ so.Perm ss ∧ so.Pairwise ltN ∧ H t = some (.tup (tupP pr)) ∧ pr ∈ prsL so ∧ PRowsAt H d M ps ∧ JoinI (lkB ss bs) (bs.map (·.1)) so M ∧
  (∀ H', Apart (lkB ss bs) (bs.map (·.1)) M pr → Same H H' → Q .non H') ∧ (∀ r p H', Joins (lkB ss bs) (bs.map (·.1)) M pr r → H p = none → Same H H' → H' p = some (.lst (r.map V.str)) → Q (.ref p) H')

theorem scJRow : FnScope ["book", "pair", "rows", "bath", "outs"] ["book", "pair", "rows"] (defScope sJRow) := ⟨rfl, rfl, rfl, by decide +kernel, rfl, by decide +kernel, by decide +kernel⟩
theorem ok_jrow {f fMB fMO : Addr} {fd fdMB fdMO : FuncData} {CB : Addr} (F : Fun K "joining_row" "joining_row" sJRow f fd)
    (T : Txt mg) (cB : Cls K CB)
    (GMB : FnOk P w K mg base CX0 1 fMB fdMB ["self"] (spBBaths CB)) (hmMB : Meth K CB "baths" fMB) (bMB : Binds K fdMB ["self"] [])
    (GMO : FnOk P w K mg base CX0 2 fMO fdMO ["self", "bath", "shade"] (spBOut CB)) (hmMO : Meth K CB "out" fMO) (bMO : Binds K fdMO ["self", "bath", "shade"] []) :
    FnOk P w K mg base CX0 3 f fd ["book", "pair", "rows"] (spJRow CB) := by
  refine F.ok scJRow (fun vs H Q E h => ?_) (fun cdv A outer s H vs Q E hr h => ?_)
  · obtain ⟨_, _, _, _, _, _, _, _, _, rfl, _⟩ := h
    rfl
  · obtain ⟨x, t, d, ss, bs, so, pr, M, ps, rfl, hbk, B, hpm, hso, ht, hpr, hM, J, q1, q2⟩ := h
    have hu : (cxOf CX0 P w K mg base ["book", "pair", "rows", "bath", "outs"] "joining_row" (defScope sJRow) f cdv A outer s H E).A.units + 1 < cLine := by
      have := hr.units
      exact Nat.lt_of_le_of_lt (Nat.add_le_add_left (by decide) _) this
    have hr1 := hr.mono (j := 1) (by omega)
    have hr2 := hr.mono (j := 2) (by omega)
    refine ⟨_, (pss_cut (ps_for PassesOwn.never rfl (pi_list (pe_meth0 (pv 0) cB hmMB GMB hr1 bMB .nil pass0)) (pg_name (i := 3) scJRow.nd rfl (Or.inr rfl)) (pss_cut (ps_set (i := 4) scJRow.nd rfl (Or.inl rfl) (pe_callB call_sortedL (by rfl) T.sorted (by decide +kernel) (pa_cons (pe_comp (N' := ["shade", "book", "bath"]) (pk := [none, some 0, some 3]) rfl (BlkOk.of (by rfl)) (pi_tup (pv 1)) (fun s H ex => (pg_name (i := 0) (by show (["shade", "book", "bath"] : List Str).Nodup; decide +kernel) rfl (Or.inl rfl))) (fun s H ex => (pe_meth (pv 1) cB hmMO GMO hr2 bMO .nil pass0 (pa_cons (pv 2) (pa_cons (pv 0) pa_nil))))) pa_nil)))
      (pss_cut (ps_if (pt_cmpR op_eq (pe_ix ix_list (pv 4) pe_int (fun _ _ => rfl)) (pe_ix ix_list (pv 4) pe_int (fun _ _ => rfl)) (nomark _)) (pss_one (ps_ret (pe_lst (pa_cons (pv 3) pa_nil)))) pss_nil)
      (pss_one (ps_if (pt_cmp (pc_din hu (pe_callTy call_tuple_of (by rfl) T.tuple (by decide +kernel) (pa_cons (pv 4) pa_nil)) (pv 2))) (pss_one (ps_ret (pe_op op_cat (pe_lst (pa_cons (pv 3) pa_nil)) (pe_dget hu (pv 2) (pe_callTy call_tuple_of (by rfl) T.tuple (by decide +kernel) (pa_cons (pv 4) pa_nil)) (fun _ _ => rfl))))) pss_nil)))))
      (pss_one (ps_ret pe_non))), ?_⟩
    have hs := sz1000
    have hb8 := B.b8
    have hs12 := B.s12
    have hbk0 := hbk
    obtain ⟨dx, bt, bd, bo, hi1, hi2, hi3, hi4, hi5⟩ := hbk
    have hsl : so.length = ss.length := hpm.length_eq
    have hab := (prsL_mem hso).mp (show (pr.1, pr.2) ∈ prsL so from hpr)
    have ha : pr.1 ∈ ss := hpm.mem_iff.mp hab.1
    have hb : pr.2 ∈ ss := hpm.mem_iff.mp hab.2.1
    refine cutQ (fun σ' H' => (∃ o3 o4, σ' = [some (.ref x), some (.ref t), some (.ref d), o3, o4]) ∧ Same H H' ∧ Apart (lkB ss bs) (bs.map (·.1)) M pr) (fun R hR => ?_) ?_
    · walk_at "dm"
      refine ⟨dx, _, hi1, lk_other (by decide +kernel) (by decide +kernel), x, ss, bs, rfl, hbk0, B, fun lb ns hlb hnp hns => ?_⟩
      refine ⟨lb, rfl, ⟨_, SqL.of upd_same⟩, ?_⟩
      have S1 := Same.updN (o := .lst (ns.map V.str)) hlb
      have hlb1 : upd H lb (.lst (ns.map V.str)) lb = some (.lst (ns.map V.str)) := upd_same
      generalize upd H lb (.lst (ns.map V.str)) = H1 at *
      refine for_steadyQ (H0 := H1) (steady_list (SqL.of hlb1)) (fun i σ' H' => (∃ o3 o4, σ' = [some (.ref x), some (.ref t), some (.ref d), o3, o4]) ∧ Same H1 H' ∧ Apart (lkB ss bs) (ns.take i) M pr) ⟨⟨none, none, rfl⟩, Same.refl _, fun n hn => by rw [List.take_zero] at hn; cases hn⟩ (fun _ _ _ _ ⟨_, h, _⟩ => h) ?_ ?_
      · rintro i y σ' H' hi hy ⟨⟨o3, o4, rfl⟩, S2, hA⟩ R2 hR2
        rw [List.getElem?_map] at hy
        obtain ⟨n, hn, rfl⟩ := Option.map_eq_some_iff.mp hy
        have hnm := hnp.mem_iff.mp (List.mem_of_getElem? hn)
        obtain ⟨b, hbm, rfl⟩ := List.mem_map.mp hnm
        have SH := S1.trans S2
        walk_at "dm"
        refine cutQ (fun σ2 H2 => ∃ lo u v, σ2 = [some (.ref x), some (.ref t), some (.ref d), some (.str b.1), some (.ref lo)] ∧ Same H' H2 ∧ H2 lo = some (.lst [.str u, .str v]) ∧ (u, v) = ordP (lkB ss bs b.1 pr.1) (lkB ss bs b.1 pr.2) ∧ (u = v ↔ lkB ss bs b.1 pr.1 = lkB ss bs b.1 pr.2)) (fun R3 hR3 => ?_) ?_
        · walk_at "dm"
          refine ⟨⟨_, SqT.of (SH _ _ ht)⟩, fun D hD => ?_⟩
          refine comp_pure (steady_tup (SqT.of (SH _ _ ht))) (by rw [sizeLine_eq]; show 2 ≤ _; decide) hD (fun σ => ∃ o, σ = [o, some (.ref x), some (.str b.1)]) (fun i => .str (lkB ss bs b.1 (if i = 0 then pr.1 else pr.2))) ⟨none, rfl⟩ ?_ ?_
          · rintro j z σ2 H2 hj hz ⟨o, rfl⟩ S3 R4 hR4
            walk_at "dm"
            have hS := SH.trans S3
            have hbk1 := Same.book hS hbk0
            rcases j with _ | _ | j
            · cases hz
              refine ⟨dx, _, hS _ _ hi1, lk_other (by decide +kernel) (by decide +kernel), x, ss, bs, b, pr.1, rfl, hbk1, B, hbm, ha, ?_⟩
              rw [← lkB_eq pr.1 B.bnd hbm]
              exact hR4 _ ⟨_, rfl⟩
            · cases hz
              refine ⟨dx, _, hS _ _ hi1, lk_other (by decide +kernel) (by decide +kernel), x, ss, bs, b, pr.2, rfl, hbk1, B, hbm, hb, ?_⟩
              rw [← lkB_eq pr.2 B.bnd hbm]
              exact hR4 _ ⟨_, rfl⟩
            · cases hz
          · have SD := Same.updN (o := .lst ([lkB ss bs b.1 pr.1, lkB ss bs b.1 pr.2].map V.str)) hD
            have hDD : upd H' D (.lst ([lkB ss bs b.1 pr.1, lkB ss bs b.1 pr.2].map V.str)) D = _ := upd_same
            have eD : upd H' D (HO.lst (List.map (fun i => V.str (lkB ss bs b.1 (if i = 0 then pr.1 else pr.2))) (List.range (tupP pr).length))) = upd H' D (.lst ([lkB ss bs b.1 pr.1, lkB ss bs b.1 pr.2].map V.str)) := rfl
            rw [eD]
            refine ⟨_, SqL.of hDD, by show 2 < 64; decide, fun p ss' hp hpm2 hso2 => ?_⟩
            have hl2 : ss'.length = 2 := hpm2.length_eq
            match ss', hl2, hpm2, hso2 with
            | [u, v], _, hpm2, hso2 =>
              obtain ⟨e1, e2⟩ := ordP_of hpm2 hso2
              exact hR3 _ _ ⟨p, u, v, rfl, SD.trans (Same.updN hp), upd_same, e1, e2⟩
        rintro σ2 H2 ⟨lo, u, v, rfl, S3, hlo, huv, heq⟩
        have SH2 := SH.trans S3
        refine cutQ (fun σ' H' => σ' = [some (.ref x), some (.ref t), some (.ref d), some (.str b.1), some (.ref lo)] ∧ H' = H2 ∧ lkB ss bs b.1 pr.1 ≠ lkB ss bs b.1 pr.2) (fun R3 hR3 => ?_) ?_
        · walk_at "dm"
          refine ⟨_, SqL.of hlo, _, rfl, _, SqL.of hlo, _, rfl, ?_⟩
          exact ⟨rfl, ite2 (fun h => ⟨by omega, fun p hp => q2 [b.1] p _ (joins_one hnm (heq.mp (V.str.inj h))) (SH2.free hp) (SH2.trans (Same.updN hp)) upd_same⟩) (fun h => hR3 _ _ ⟨rfl, rfl, fun e => h (by rw [heq.mpr e])⟩)⟩
        rintro σ3 H3 ⟨rfl, rfl, hne⟩
        walk_at "dm"
        refine ⟨_, .inl ⟨SqL.of hlo, fun l hl => ?_⟩⟩
        have SG := Same.updN (o := .tup (tupP (u, v))) hl
        have hGl : upd H3 l (.tup (tupP (u, v))) l = some (.tup (tupP (u, v))) := upd_same
        change ∃ x_2, DGet (upd H3 l (.tup (tupP (u, v)))) d (V.ref l) x_2 ∧ _
        have hlo2 := SG _ _ hlo
        have SG1 := SH2.trans SG
        by_cases hk : (u, v) ∈ keysP M
        · obtain ⟨q, r, hr, g1, g2, _⟩ := (hM.same SG1).get J.nd (p := (u, v)) hGl hk
          refine ⟨some (.ref q), g1, ite2 (fun _ => ⟨by omega, fun p hp => ⟨_, .inl ⟨SqL.of (Same.updN hp _ _ hlo2), fun l2 hl2 => ?_⟩⟩⟩) (fun h => absurd rfl h)⟩
          have S4 := Same.updN (o := .lst [V.str b.1]) hp
          have S5 := Same.updN (o := .tup (tupP (u, v))) hl2
          have hp3 := S5 _ _ (upd_same (H := upd H3 l (.tup (tupP (u, v)))) (a := p) (o := .lst [V.str b.1]))
          change ∃ x_3, DGet (upd (upd (upd H3 l (.tup (tupP (u, v)))) p (.lst [V.str b.1])) l2 (.tup (tupP (u, v)))) d (V.ref l2) (some x_3) ∧ _
          have hl3 : upd (upd (upd H3 l (.tup (tupP (u, v)))) p (.lst [V.str b.1])) l2 (.tup (tupP (u, v))) l2 = some (.tup (tupP (u, v))) := upd_same
          have SG3 := SG1.trans (S4.trans S5)
          obtain ⟨q3, r3, hr3, g3, g4, _⟩ := (hM.same SG3).get J.nd (p := (u, v)) hl3 hk
          refine ⟨_, g3, _, _, _, _, rfl, rfl, hp3, g4, ?_, fun p4 hp4 => ?_⟩
          · have h1 := J.len _ hr3
            have h2 := J.l66 (by omega : so.length ≤ 12)
            have h3 : r3.length ≤ 66 := Nat.le_trans h1 h2
            rw [List.length_map, sizeLine_eq]
            show 1 + r3.length ≤ _
            omega
          · have S6 := Same.updN (o := .lst ([V.str b.1] ++ r3.map V.str)) hp4
            exact q2 (b.1 :: r3) p4 _ (joins_more J hnm (by rw [← huv]; exact hr3)) (SG3.free hp4) (SG3.trans S6) upd_same
        · refine ⟨none, (hM.same SG1).none (p := (u, v)) hGl hk, ite2 (fun h => by cases h) (fun _ => hR2 _ _ ⟨⟨_, _, rfl⟩, S2.trans (S3.trans SG), fun n hn2 => ?_⟩)⟩
          rw [take_snoc hn] at hn2
          rcases List.mem_append.mp hn2 with hn2 | hn2
          · exact hA n hn2
          · rw [List.mem_singleton.mp hn2]
            exact ⟨hne, by rw [← huv]; exact hk⟩
      · rintro σ' H' ⟨e, S2, hA⟩
        refine hR _ _ ⟨e, S1.trans S2, fun n hn => hA n ?_⟩
        rw [List.length_map, List.take_length]
        exact hnp.mem_iff.mpr hn
    rintro σ1 H1 ⟨⟨o3, o4, rfl⟩, S, hA⟩
    walk_at "dm"
    exact q1 _ hA S
end

section
variable {P : Program} {w : World} {K : PySem.W.Frag} {mg : Str → Option Value} {base : Heap}
def spJRows (CB : Addr) : Sp := fun vs H Q _ => ∃ (x l : Addr) (ss : List Str) (bs : List (Str × List Str)) (so : List Str) (ps : List Addr), vs = [.ref x, .ref l] ∧ BookAt H CB x ss bs ∧ BookIn ss bs ∧ so.Perm ss ∧ so.Pairwise ltN ∧ H l = some (.lst (ps.map V.ref)) ∧ Tups H ps ((prsL so).map tupP) ∧
  ∀ d M qs H', H d = none → Same H H' → PRowsAt H' d M qs → (∀ q ∈ qs, H q = none) → JoinI (lkB ss bs) (bs.map (·.1)) so M → (∀ pr ∈ prsL so, pr ∉ keysP M → Apart (lkB ss bs) (bs.map (·.1)) M pr) → Q (.ref d) H'
theorem filt_tups {H : Hp} {ps : List Addr} {L : List (Str × Str)} (hT : Tups H ps (L.map tupP)) (c : Str × Str → Bool) {bt : Nat → Bool} {out : Nat → V} (hb : ∀ i e, L[i]? = some e → bt i = c e) (ho : ∀ i p, ps[i]? = some p → out i = V.ref p) :
    ∀ k, k ≤ ps.length → ∃ rs, ((List.range k).filter bt).map out = rs.map V.ref ∧ Tups H rs (((L.take k).filter c).map tupP)
  | 0, _ => ⟨[], rfl, rfl, fun i p e h => by cases h⟩
  | k + 1, hk => by
    obtain ⟨rs, e1, e2⟩ := filt_tups hT c hb ho k (by omega)
    have hl := hT.1
    rw [List.length_map] at hl
    obtain ⟨p, hp⟩ : ∃ p, ps[k]? = some p := ⟨_, List.getElem?_eq_getElem (by omega)⟩
    obtain ⟨e, he⟩ : ∃ e, L[k]? = some e := ⟨_, List.getElem?_eq_getElem (by omega)⟩
    rw [List.range_succ, List.filter_append, List.map_append, take_snoc he, List.filter_append, List.map_append, e1]
    cases hc : c e with
    | true =>
      refine ⟨rs ++ [p], ?_, ?_⟩
      · rw [List.filter_cons_of_pos (by rw [hb k e he]; exact hc), List.filter_nil, List.map_append, List.map_singleton, ho k p hp]; rfl
      · rw [List.filter_cons_of_pos hc, List.filter_nil, List.map_singleton]
        exact e2.snoc (hT.2 k p _ hp (by rw [List.getElem?_map, he]; rfl))
    | false =>
      refine ⟨rs, ?_, ?_⟩
      · rw [List.filter_cons_of_neg (by rw [hb k e he, hc]; exact Bool.false_ne_true), List.filter_nil, List.map_nil, List.append_nil]
      · rw [List.filter_cons_of_neg (by rw [hc]; exact Bool.false_ne_true), List.filter_nil, List.map_nil, List.append_nil]
        exact e2

theorem scJRows : FnScope ["book", "pairs", "rows", "growing", "pair", "row"] ["book", "pairs"] (defScope sJRows) := ⟨rfl, rfl, rfl, by decide +kernel, rfl, by decide +kernel, by decide +kernel⟩
theorem ok_jrows {f fJR : Addr} {fd fdJR : FuncData} {CB : Addr} (F : Fun K "joining_rows" "joining_rows" sJRows f fd)
    (T : Txt mg)
    (GJR : FnOk P w K mg base CX0 3 fJR fdJR ["book", "pair", "rows"] (spJRow CB)) (kJR : PySem.W.keepIn K (.ref fJR) = true) (bJR : Binds K fdJR ["book", "pair", "rows"] []) (mJR : mg "joining_row" = some (.ref fJR)) :
    FnOk P w K mg base CX0 4 f fd ["book", "pairs"] (spJRows CB) := by
  refine F.ok scJRows (fun vs H Q E h => ?_) (fun cdv A outer s H vs Q E hr h => ?_)
  · obtain ⟨_, _, _, _, _, _, rfl, _⟩ := h
    rfl
  · obtain ⟨x, l, ss, bs, so, ps, rfl, hbk, B, hpm, hso, hl, hT, q⟩ := h
    have hu : (cxOf CX0 P w K mg base ["book", "pairs", "rows", "growing", "pair", "row"] "joining_rows" (defScope sJRows) f cdv A outer s H E).A.units + 1 < cLine := by
      have := hr.units
      exact Nat.lt_of_le_of_lt (Nat.add_le_add_left (by decide) _) this
    have hr3 := hr.mono (j := 3) (by omega)
    refine ⟨_, (pss_cut (ps_set (i := 2) scJRows.nd rfl (Or.inr rfl) pe_dnewT)
      (pss_cut (ps_set (i := 3) scJRows.nd rfl (Or.inl rfl) pe_bl)
      (pss_cut (ps_while PassesOwn.never (pt_val (pv 3)) (pss_cut (ps_set (i := 3) scJRows.nd rfl (Or.inl rfl) pe_bl)
      (pss_one (ps_for PassesOwn.never rfl (pi_list (pe_compI (N' := ["each", "rows"]) (pk := [none, some 2]) rfl (BlkOk.of (by rfl)) (pi_list (pv 1)) (fun s H ex => (pg_name (i := 0) (by show (["each", "rows"] : List Str).Nodup; decide +kernel) rfl (Or.inl rfl))) (fun s H ex => (pt_cmp (pc_dnotin hu (pv 0) (pv 1)))) (fun s H ex => (pv 0)))) (pg_name (i := 4) scJRows.nd rfl (Or.inl rfl)) (pss_cut (ps_set (i := 5) scJRows.nd rfl (Or.inl rfl) (pe_call GJR hr3 rfl mJR kJR bJR .nil pass0 (pa_cons (pv 0) (pa_cons (pv 4) (pa_cons (pv 2) pa_nil)))))
      (pss_one (ps_if (pt_cmpR op_notN (pv 5) pe_non (nomark _)) (pss_cons (ps_dput hu (pv 2) (pv 4) (pv 5) rfl)
      (pss_one (ps_set (i := 3) scJRows.nd rfl (Or.inl rfl) pe_bl))) pss_nil)))))))
      (pss_one (ps_ret (pv 2)))))), ?_⟩
    have hs := sz1000
    have hb8 := B.b8
    have hs12 := B.s12
    have hsl : so.length = ss.length := hpm.length_eq
    have hpl : ps.length = (prsL so).length := by rw [hT.1, List.length_map]
    have h66 := prsL_66 (l := so) (by omega)
    refine cutQ (fun σ' H' => ∃ d, H d = none ∧ σ' = [some (.ref x), some (.ref l), some (.ref d), none, none, none] ∧ H' = upd H d (.dT [])) (fun R hR => ?_) ?_
    · walk_at "dm"
      exact fun p hp => hR _ _ ⟨p, hp, rfl, rfl⟩
    rintro σ1 H1 ⟨d, hd, rfl, rfl⟩
    have S1 := Same.updN (o := .dT []) hd
    have hM1 : PRowsAt (upd H d (.dT [])) d [] [] := ⟨upd_same, rfl, fun i p e h => by cases h⟩
    generalize upd H d (.dT []) = H1 at *
    refine cutQ (fun σ' H' => σ' = [some (.ref x), some (.ref l), some (.ref d), some (.bl true), none, none] ∧ H' = H1) (fun R hR => ?_) ?_
    · walk_at "dm"
      exact hR _ _ ⟨rfl, rfl⟩
    rintro σ2 H2 ⟨rfl, rfl⟩
    refine cutQ (fun σ' H' => ∃ M qs o3 o4 o5, σ' = [some (.ref x), some (.ref l), some (.ref d), o3, o4, o5] ∧ Same H H' ∧ PRowsAt H' d M qs ∧ (∀ q ∈ qs, H q = none) ∧ JoinI (lkB ss bs) (bs.map (·.1)) so M ∧ ∀ pr ∈ prsL so, pr ∉ keysP M → Apart (lkB ss bs) (bs.map (·.1)) M pr) (fun R hR => ?_) ?_
    · unfold tWhile
      obtain ⟨Wp, hWp⟩ : ∃ Wp : Nat → St → Hp → Prop, ∀ m σ' H', Wp m σ' H' ↔ ∃ M qs g o4 o5, σ' = [some (.ref x), some (.ref l), some (.ref d), some (.bl g), o4, o5] ∧ Same H H' ∧ PRowsAt H' d M qs ∧ (∀ q ∈ qs, H q = none) ∧ JoinI (lkB ss bs) (bs.map (·.1)) so M ∧ m = 2 * (66 - M.length) + (if g = true then 1 else 0) ∧ (g = false → ∀ pr ∈ prsL so, pr ∉ keysP M → Apart (lkB ss bs) (bs.map (·.1)) M pr) := ⟨_, fun _ _ _ => Iff.rfl⟩
      refine ⟨Wp, ⟨_, (hWp _ _ _).mpr ⟨[], [], true, none, none, rfl, S1, hM1, (fun q hq => by cases hq), JoinI.nil, rfl, fun h => by cases h⟩⟩, ?_⟩
      intro m σ' H3 hw
      obtain ⟨M, qs, g, o4, o5, rfl, S3, hM, hq0, J, hm, hgf⟩ := (hWp _ _ _).mp hw
      have hJ66 := J.l66 (by omega : so.length ≤ 12)
      walk_at "dm"
      refine ite2 (fun hg => ?_) (fun hg => hR _ _ ⟨M, qs, _, _, _, rfl, S3, hM, hq0, J, hgf (by simpa using hg)⟩)
      subst hg
      rw [if_pos rfl] at hm
      refine ⟨fun σ' H' => ∃ m', m' < m ∧ Wp m' σ' H', fun _ _ h => h, ?_⟩
      refine cutQ (fun σ' H' => σ' = [some (.ref x), some (.ref l), some (.ref d), some (.bl false), o4, o5] ∧ H' = H3) (fun R hR => ?_) ?_
      · walk_at "dm"
        exact hR _ _ ⟨rfl, rfl⟩
      rintro σ4 H4 ⟨rfl, rfl⟩
      walk_at "dm"
      refine ⟨⟨_, SqL.of (S3 _ _ hl)⟩, fun D hD => ?_⟩
      have hT4 := hT.same S3
      refine compI_pure (steady_list (SqL.of (S3 _ _ hl))) (by rw [List.length_map, sizeLine_eq]; omega) hD (fun σ => ∃ o, σ = [o, some (.ref d)]) (fun i => match (prsL so)[i]? with | some e => !decide (e ∈ keysP M) | none => false) (fun i => match ps[i]? with | some p => .ref p | none => .non) ⟨none, rfl⟩ ?_ ?_
      · rintro i y σ' H' hi hy ⟨o, rfl⟩ S5 R1 R0 hR1 hR0
        rw [List.length_map] at hi
        rw [List.getElem?_map] at hy
        obtain ⟨p, hp, rfl⟩ := Option.map_eq_some_iff.mp hy
        obtain ⟨e, he⟩ : ∃ e, (prsL so)[i]? = some e := ⟨_, List.getElem?_eq_getElem (by omega)⟩
        have htp := S5 _ _ (hT4.2 i p (tupP e) hp (by rw [List.getElem?_map, he]; rfl))
        rw [he, hp] at hR1
        rw [he] at hR0
        dsimp only at hR1 hR0
        walk_at "dm"
        by_cases hk : e ∈ keysP M
        · obtain ⟨q, r, _, g1, _, _⟩ := (hM.same S5).get J.nd (p := e) htp hk
          refine ⟨_, g1, ite2 (fun h => ?_) (fun _ => hR0 (by rw [decide_eq_true hk]; rfl) _ ⟨_, rfl⟩)⟩
          simp at h
        · refine ⟨none, (hM.same S5).none (p := e) htp hk, ite2 (fun h => hR1 (by rw [decide_eq_false hk]; rfl) _ ⟨_, rfl⟩) (fun h => ?_)⟩
          simp at h
      rw [List.length_map]
      obtain ⟨rs, ers, hrs⟩ := filt_tups (k := ps.length) hT4 (fun e => !decide (e ∈ keysP M)) (bt := fun i => match (prsL so)[i]? with | some e => !decide (e ∈ keysP M) | none => false) (out := fun i => match ps[i]? with | some p => .ref p | none => .non) (fun i e h => by rw [h]) (fun i p h => by rw [h]) (Nat.le_refl _)
      rw [ers]
      rw [hpl, List.take_length] at hrs
      obtain ⟨FL, hFL⟩ : ∃ FL, FL = (prsL so).filter fun e => !decide (e ∈ keysP M) := ⟨_, rfl⟩
      rw [← hFL] at hrs
      have hFm : ∀ e ∈ FL, e ∈ prsL so ∧ e ∉ keysP M := fun e he => by
        rw [hFL, List.mem_filter] at he
        exact ⟨he.1, by simpa using he.2⟩
      have hFn : FL.Nodup := by rw [hFL]; exact (prsL_nodup hso).filter _
      have hrl : rs.length = FL.length := by rw [hrs.1, List.length_map]
      have SD := Same.updN (o := .lst (rs.map V.ref)) hD
      have hDl : upd H4 D (.lst (rs.map V.ref)) D = some (.lst (rs.map V.ref)) := upd_same
      have S5 := S3.trans SD
      have hM5 := hM.same SD
      have hrs5 := hrs.same SD
      generalize upd H4 D (.lst (rs.map V.ref)) = H5 at *
      refine ⟨⟨_, SqL.of hDl⟩, ?_⟩
      refine for_steadyQ (H0 := fun b => if b = D then some (.lst (rs.map V.ref)) else none) (steady_list (SqL.of (if_pos rfl))) (fun k σ' H' => ∃ M' qs' g o4 o5, σ' = [some (.ref x), some (.ref l), some (.ref d), some (.bl g), o4, o5] ∧ Same H H' ∧ H' D = some (.lst (rs.map V.ref)) ∧ Tups H' rs (FL.map tupP) ∧ PRowsAt H' d M' qs' ∧ (∀ q ∈ qs', H q = none) ∧ JoinI (lkB ss bs) (bs.map (·.1)) so M' ∧ (∀ e ∈ keysP M', e ∈ keysP M ∨ e ∈ FL.take k) ∧ (g = true → M.length < M'.length) ∧ (g = false → M' = M ∧ ∀ e ∈ FL.take k, Apart (lkB ss bs) (bs.map (·.1)) M e)) ⟨M, qs, false, o4, o5, rfl, S5, hDl, hrs5, hM5, hq0, J, fun e he => .inl he, (fun h => by cases h), fun _ => ⟨rfl, fun e he => by rw [List.take_zero] at he; cases he⟩⟩ ?_ ?_ ?_
      · rintro k σ' H' _ ⟨M', qs', g, o4, o5, rfl, _, hD', _⟩ b o e
        dsimp only at e
        split at e
        · rename_i hb; cases e; rw [hb]; exact hD'
        · cases e
      · rintro k y σ' H' hk hy ⟨M', qs', g, o4, o5, rfl, S6, hD', hrs', hM', hq', J', hin, hgt, hgn⟩ R2 hR2
        rw [List.length_map] at hk
        rw [List.getElem?_map] at hy
        obtain ⟨r, hr, rfl⟩ := Option.map_eq_some_iff.mp hy
        obtain ⟨e, he⟩ : ∃ e, FL[k]? = some e := ⟨_, List.getElem?_eq_getElem (by omega)⟩
        have hrt := hrs'.2 k r (tupP e) hr (by rw [List.getElem?_map, he]; rfl)
        obtain ⟨heP, heM⟩ := hFm e (List.mem_of_getElem? he)
        have heN : e ∉ keysP M' := fun h => by
          rcases hin e h with h | h
          · exact heM h
          · obtain ⟨j, hj⟩ := List.getElem?_of_mem h
            rw [List.getElem?_take] at hj
            by_cases hjk : j < k
            · rw [if_pos hjk] at hj
              obtain ⟨h1, e1⟩ := List.getElem?_eq_some_iff.mp hj
              obtain ⟨h2, e2⟩ := List.getElem?_eq_some_iff.mp he
              exact List.pairwise_iff_getElem.mp hFn j k h1 h2 hjk (e1.trans e2.symm)
            · rw [if_neg hjk] at hj; cases hj
        walk_at "dm"
        have hJ6' := J'.l66 (by omega : so.length ≤ 12)
        refine cutQ (fun σ2 H2 => Same H' H2 ∧ ((σ2 = [some (.ref x), some (.ref l), some (.ref d), some (.bl g), some (.ref r), some .non] ∧ Apart (lkB ss bs) (bs.map (·.1)) M' e) ∨ ∃ rw p, σ2 = [some (.ref x), some (.ref l), some (.ref d), some (.bl g), some (.ref r), some (.ref p)] ∧ Joins (lkB ss bs) (bs.map (·.1)) M' e rw ∧ H' p = none ∧ H2 p = some (.lst (rw.map V.str)))) (fun R3 hR3 => ?_) ?_
        · walk_at "dm"
          exact ⟨x, r, d, ss, bs, so, e, M', qs', rfl, Same.book S6 hbk, B, hpm, hso, hrt, heP, hM', J', fun H2 hA S7 => hR3 _ _ ⟨S7, .inl ⟨rfl, hA⟩⟩, fun rw p H2 hJ hp S7 h => hR3 _ _ ⟨S7, .inr ⟨rw, p, rfl, hJ, hp, h⟩⟩⟩
        rintro σ2 H2 ⟨S7, hc⟩
        rcases hc with ⟨rfl, hA⟩ | ⟨rw, p, rfl, hJ, hp, hp2⟩
        · walk_at "dm"
          refine ite2 (fun h => absurd trivial h) (fun _ => hR2 _ _ ⟨M', qs', g, _, _, rfl, S6.trans S7, S7 _ _ hD', hrs'.same S7, hM'.same S7, hq', J', fun e2 h => (hin e2 h).imp id fun h => ?_, hgt, fun hg => ⟨(hgn hg).1, fun e2 h => ?_⟩⟩)
          · rw [take_snoc he]; exact List.mem_append_left _ h
          · rw [take_snoc he] at h
            rcases List.mem_append.mp h with h | h
            · exact (hgn hg).2 e2 h
            · rw [List.mem_singleton.mp h, ← (hgn hg).1]; exact hA
        · walk_at "dm"
          obtain ⟨H8, hP8, hM8, hk8⟩ := (hM'.same S7).put (p := e) (r := rw) (S7 _ _ hrt) heN hp2 (by rw [sizeLine_eq]; omega)
          have S8 : Same H H8 := fun b o hb => by
            have hbd : b ≠ d := fun z => by rw [z, hd] at hb; cases hb
            rw [hk8 b hbd]; exact (S6.trans S7) b o hb
          have nd : ∀ {c o}, H2 c = some o → (∀ kvs, o ≠ .dT kvs) → c ≠ d := fun {c o} h1 h2 z => by
            rw [z, (hM'.same S7).1] at h1; cases h1; exact h2 _ rfl
          have hD8 : H8 D = some (.lst (rs.map V.ref)) := by rw [hk8 D (nd (S7 _ _ hD') fun _ h => by cases h)]; exact S7 _ _ hD'
          have hrs8 : Tups H8 rs (FL.map tupP) := ⟨hrs'.1, fun i q f hq hf => by
            have h := S7 _ _ (hrs'.2 i q f hq hf)
            rw [hk8 q (nd h fun _ h => by cases h)]; exact h⟩
          refine ite2 (fun _ => ⟨H8, hP8, hR2 _ _ ⟨M' ++ [(e, rw)], qs' ++ [p], true, _, _, rfl, S8, hD8, hrs8, hM8, fun q hq => ?_, J'.put heP heN hJ, fun e2 h => ?_, fun _ => ?_, fun h => by cases h⟩⟩) (fun h => absurd (fun z => by cases z) h)
          · rcases List.mem_append.mp hq with hq | hq
            · exact hq' q hq
            · rw [List.mem_singleton.mp hq]; exact S6.free hp
          · rw [keysP, List.map_append] at h
            rw [take_snoc he]
            rcases List.mem_append.mp h with h | h
            · exact (hin e2 h).imp id fun h => List.mem_append_left _ h
            · rw [List.map_singleton] at h
              exact .inr (List.mem_append_right _ h)
          · rw [List.length_append, List.length_singleton]
            cases g with
            | true => have := hgt rfl; omega
            | false => rw [(hgn rfl).1]; omega
      · rintro σ' H' ⟨M', qs', g, o4, o5, rfl, S6, hD', hrs', hM', hq', J', hin, hgt, hgn⟩
        refine ⟨_, ?_, (hWp _ _ _).mpr ⟨M', qs', g, _, _, rfl, S6, hM', hq', J', rfl, fun hg pr h1 h2 => ?_⟩⟩
        · have hJ6' := J'.l66 (by omega : so.length ≤ 12)
          rw [hm]
          cases g with
          | true => have := hgt rfl; rw [if_pos rfl]; omega
          | false => rw [(hgn rfl).1, if_neg Bool.false_ne_true]; omega
        · obtain ⟨e1, h3⟩ := hgn hg
          subst e1
          refine h3 pr ?_
          rw [List.length_map, hrl, List.take_length, hFL, List.mem_filter]
          exact ⟨h1, by rw [decide_eq_false h2]; rfl⟩
    rintro σ3 H3 ⟨M, qs, o3, o4, o5, rfl, S3, hM, hq0, J, hA⟩
    walk_at "dm"
    exact q d M qs _ hd S3 hM hq0 J hA
end

section
variable {P : Program} {w : World} {K : PySem.W.Frag} {mg : Str → Option Value} {base : Heap}
def spJoined (CB : Addr) : Sp := fun vs H Q _ => ∃ (x d : Addr) (ss : List Str) (bs : List (Str × List Str)) (so : List Str) (M : PRows) (qs : List Addr), vs = [.ref x, .ref d] ∧ BookAt H CB x ss bs ∧ BookIn ss bs ∧ so.Perm ss ∧ so.Pairwise ltN ∧ PRowsAt H d M qs ∧ JoinI (lkB ss bs) (bs.map (·.1)) so M ∧ (∀ pr ∈ prsL so, pr ∈ keysP M) ∧
  ∀ R z t r H', OkR (bs.map (·.1)) R → R.length ≤ 1000 → (∀ y ∈ ss, endL (lkB ss bs) R y = z) → z ∈ ss → Same H H' → H r = none → H' t = some (.tup [.ref r, .str z]) → H' r = some (.lst (R.map V.str)) → Q (.ref t) H'
theorem met_less {f : Str → Str} {a b : Str} {T : List Str} (h : f a = f b) : (metG ((a :: b :: T).map f)).length < (a :: b :: T).length := by
  have h1 := pigeonP (m := (b :: T).map f) (metG_nodup ((a :: b :: T).map f)) fun x hx => by
    rw [metG_mem] at hx
    rw [List.map_cons] at hx
    rcases List.mem_cons.mp hx with rfl | hx
    · rw [h]; exact List.mem_cons_self
    · exact hx
  rw [List.length_map] at h1
  rw [List.length_cons]
  omega
theorem PRowsAt.there {H : Hp} {d : Addr} {M : PRows} {ps : List Addr} (h : PRowsAt H d M ps) {p : Addr} (hp : p ∈ ps) : ∃ o, H p = some o := by
  obtain ⟨i, hi⟩ := List.getElem?_of_mem hp
  exact ⟨_, h.2.2 i p _ hi (List.getElem?_eq_getElem (by rw [← h.2.1]; exact (List.getElem?_eq_some_iff.mp hi).1))⟩

theorem scJoined : FnScope ["book", "rows", "row", "shades", "part"] ["book", "rows"] (defScope sJoined) := ⟨rfl, rfl, rfl, by decide +kernel, rfl, by decide +kernel, by decide +kernel⟩
theorem ok_joined {f fMS fWk : Addr} {fd fdMS fdWk : FuncData} {CB : Addr} (F : Fun K "joined" "joined" sJoined f fd)
    (T : Txt mg) (cB : Cls K CB)
    (GMS : FnOk P w K mg base CX0 1 fMS fdMS ["self"] (spBShades CB)) (hmMS : Meth K CB "shades" fMS) (bMS : Binds K fdMS ["self"] [])
    (GWk : FnOk P w K mg base CX0 3 fWk fdWk ["book", "row", "shade"] (spWalk K CB)) (kWk : PySem.W.keepIn K (.ref fWk) = true) (bWk : Binds K fdWk ["book", "row", "shade"] []) (mWk : mg "walk" = some (.ref fWk)) :
    FnOk P w K mg base CX0 4 f fd ["book", "rows"] (spJoined CB) := by
  refine F.ok scJoined (fun vs H Q E h => ?_) (fun cdv A outer s H vs Q E hr h => ?_)
  · obtain ⟨_, _, _, _, _, _, _, rfl, _⟩ := h
    rfl
  · obtain ⟨x, d, ss, bs, so, M, qs, rfl, hbk, B, hpm, hso, hM, J, hall, q⟩ := h
    have hu : (cxOf CX0 P w K mg base ["book", "rows", "row", "shades", "part"] "joined" (defScope sJoined) f cdv A outer s H E).A.units + 1 < cLine := by
      have := hr.units
      exact Nat.lt_of_le_of_lt (Nat.add_le_add_left (by decide) _) this
    have hr1 := hr.mono (j := 1) (by omega)
    have hr3 := hr.mono (j := 3) (by omega)
    refine ⟨_, (pss_cut (ps_set (i := 2) scJoined.nd rfl (Or.inl rfl) (pe_lst pa_nil))
      (pss_cut (ps_set (i := 3) scJoined.nd rfl (Or.inl rfl) (pe_meth0 (pv 0) cB hmMS GMS hr1 bMS .nil pass0))
      (pss_cut (ps_while PassesOwn.never (pt_cmpR op_gt (pe_callB call_len_seq (by rfl) T.len PySem.boot_len (pa_cons (pv 3) pa_nil)) pe_int (nomark _)) (pss_cut (ps_set (i := 4) scJoined.nd rfl (Or.inr rfl) (pe_dget hu (pv 1) (pe_tup (pa_cons (pe_ix ix_list (pv 3) pe_int (fun _ _ => rfl)) (pa_cons (pe_ix ix_list (pv 3) pe_int (fun _ _ => rfl)) pa_nil))) (fun _ _ => rfl)))
      (pss_cut (ps_expr (pe_bm PySem.F.plainAttrs_list PySem.F.slot_list_extend PySem.F.type_list_extend mt_extend (pv 2) (pa_cons (pv 4) pa_nil)))
      (pss_one (ps_set (i := 3) scJoined.nd rfl (Or.inl rfl) (pe_callB (call_sortedS rfl) (by rfl) T.sorted (by decide +kernel) (pa_cons (pe_callTy (call_setS rfl) (by rfl) T.set (by decide +kernel) (pa_cons (pe_comp (N' := ["shade", "book", "part"]) (pk := [none, some 0, some 4]) rfl (BlkOk.of (by rfl)) (pi_list (pv 3)) (fun s H ex => (pg_name (i := 0) (by show (["shade", "book", "part"] : List Str).Nodup; decide +kernel) rfl (Or.inl rfl))) (fun s H ex => (pe_ix (ix_list : IxR _ (rIxL K)) (pe_call GWk hr3 rfl mWk kWk bWk .nil pass0 (pa_cons (pv 1) (pa_cons (pv 2) (pa_cons (pv 0) pa_nil)))) (pe_un un_neg pe_int) (fun _ _ => rfl)))) pa_nil)) pa_nil)))))))
      (pss_one (ps_ret (pe_tup (pa_cons (pv 2) (pa_cons (pe_ix ix_list (pv 3) pe_int (fun _ _ => rfl)) pa_nil)))))))), ?_⟩
    have hs := sz1000
    have hs12 := B.s12
    have hs1 := B.s1
    have hsl : so.length = ss.length := hpm.length_eq
    have hbk0 := hbk
    obtain ⟨dx, bt, bd, bo, hi1, hi2, hi3, hi4, hi5⟩ := hbk
    refine cutQ (fun σ' H' => ∃ r, H r = none ∧ σ' = [some (.ref x), some (.ref d), some (.ref r), none, none] ∧ H' = upd H r (.lst [])) (fun R hR => ?_) ?_
    · walk_at "dm"
      exact ⟨by omega, fun p hp => hR _ _ ⟨p, hp, rfl, rfl⟩⟩
    rintro σ1 H1 ⟨r, hr0, rfl, rfl⟩
    have S1 := Same.updN (o := .lst []) hr0
    have hr1 : upd H r (.lst []) r = some (.lst []) := upd_same
    generalize upd H r (.lst []) = H1 at *
    refine cutQ (fun σ' H' => ∃ lT, σ' = [some (.ref x), some (.ref d), some (.ref r), some (.ref lT), none] ∧ Same H1 H' ∧ H' lT = some (.lst (so.map V.str)) ∧ r ≠ lT) (fun R hR => ?_) ?_
    · walk_at "dm"
      refine ⟨dx, _, S1 _ _ hi1, lk_other (by decide +kernel) (by decide +kernel), x, ss, bs, rfl, Same.book S1 hbk0, B, fun l so2 hl hpm2 hso2 => ?_⟩
      have e : so2 = so := List.Perm.eq_of_pairwise (le := ltN) (fun a b _ _ h1 h2 => absurd (ltN_tr h1 h2) ltN_irr) (sorted_lt hso2 (hpm2.nodup_iff.mpr B.snd)) hso (hpm2.trans hpm.symm)
      subst e
      exact hR _ _ ⟨l, rfl, Same.updN hl, upd_same, ne_of_none hr1 hl⟩
    rintro σ2 H2 ⟨lT, rfl, S2, hlT, hne⟩
    refine cutQ (fun σ' H' => ∃ (R : List Str) (z : Str) (lT : Addr) (o4 : Option V), σ' = [some (.ref x), some (.ref d), some (.ref r), some (.ref lT), o4] ∧ Same H H' ∧ H' r = some (.lst (R.map V.str)) ∧ H' lT = some (.lst [V.str z]) ∧ z ∈ so ∧ OkR (bs.map (·.1)) R ∧ R.length ≤ 1000 ∧ ∀ y ∈ so, endL (lkB ss bs) R y = z) (fun R0 hR0 => ?_) ?_
    · unfold tWhile
      obtain ⟨Wp, hWp⟩ : ∃ Wp : Nat → St → Hp → Prop, ∀ m σ' H', Wp m σ' H' ↔ ∃ (R T : List Str) (lT : Addr) (o4 : Option V), σ' = [some (.ref x), some (.ref d), some (.ref r), some (.ref lT), o4] ∧ Same H H' ∧ H' r = some (.lst (R.map V.str)) ∧ H' lT = some (.lst (T.map V.str)) ∧ r ≠ lT ∧ T.Pairwise ltN ∧ (∀ y ∈ T, y ∈ so) ∧ 1 ≤ T.length ∧ OkR (bs.map (·.1)) R ∧ R.length + 66 * T.length ≤ 792 ∧ (∀ y ∈ so, endL (lkB ss bs) R y ∈ T) ∧ m = T.length := ⟨_, fun _ _ _ => Iff.rfl⟩
      refine ⟨Wp, ⟨_, (hWp _ _ _).mpr ⟨[], so, lT, none, rfl, S1.trans S2, S2 _ _ hr1, hlT, hne, hso, fun _ h => h, by omega, (fun _ h => by cases h), by simp only [List.length_nil]; omega, fun y hy => hy, rfl⟩⟩, ?_⟩
      intro m σ' H3 hw
      obtain ⟨R, T, lT, o4, rfl, S3, hr3, hT3, hne3, hTp, hTs, hT1, hRo, hRl, hRT, hm⟩ := (hWp _ _ _).mp hw
      walk_at "dm"
      refine ⟨_, .inl (SqL.of hT3), ite2 (fun hgt => ?_) (fun hle => ?_)⟩
      · refine ⟨fun σ' H' => ∃ m', m' < m ∧ Wp m' σ' H', fun _ _ h => h, ?_⟩
        rw [List.length_map] at hgt
        match T, hgt, hT3, hTp, hTs, hRT, hm, hRl with
        | a :: b :: T, _, hT3, hTp, hTs, hRT, hm, hRl =>
        have hab : ltN a b := (List.pairwise_cons.mp hTp).1 b List.mem_cons_self
        have hpr : (a, b) ∈ prsL so := (prsL_mem hso).mpr ⟨hTs a List.mem_cons_self, hTs b (List.mem_cons_of_mem _ List.mem_cons_self), hab⟩
        refine cutQ (fun σ' H' => ∃ (q : Addr) (rw : List Str), σ' = [some (.ref x), some (.ref d), some (.ref r), some (.ref lT), some (.ref q)] ∧ Same H3 H' ∧ H' q = some (.lst (rw.map V.str)) ∧ ((a, b), rw) ∈ M ∧ q ≠ r) (fun R1 hR1 => ?_) ?_
        · walk_at "dm"
          refine ⟨_, SqL.of hT3, _, (atI_nat (j := 0) (v := V.str a) rfl : atI ((a :: b :: T).map V.str) 0 = _), _, SqL.of hT3, _, (atI_nat (j := 1) (v := V.str b) rfl : atI ((a :: b :: T).map V.str) 1 = _), by omega, fun p hp => ?_⟩
          have SG := Same.updN (o := .tup (tupP (a, b))) hp
          obtain ⟨q, rw, hrw, g1, g2, hqq⟩ := (hM.same (S3.trans SG)).get J.nd (p := (a, b)) upd_same (hall _ hpr)
          refine ⟨_, g1, hR1 _ _ ⟨q, rw, rfl, SG, g2, hrw, fun e => ?_⟩⟩
          obtain ⟨o, ho⟩ := hM.there hqq
          rw [e, hr0] at ho
          cases ho
        rintro σ4 H4 ⟨q, rw, rfl, S4, hq4, hrw, hqr⟩
        refine cutQ (fun σ' H' => σ' = [some (.ref x), some (.ref d), some (.ref r), some (.ref lT), some (.ref q)] ∧ Same H H' ∧ H' r = some (.lst ((R ++ rw).map V.str)) ∧ H' lT = some (.lst ((a :: b :: T).map V.str)) ∧ H' q = some (.lst (rw.map V.str))) (fun R1 hR1 => ?_) ?_
        · walk_at "dm"
          have h1 := J.len _ hrw
          have h2 := J.l66 (by omega : so.length ≤ 12)
          have h3 : rw.length ≤ 66 := Nat.le_trans h1 h2
          exact ⟨.inl ⟨rfl, _, SqL.of (S4 _ _ hr3)⟩, _, S4 _ _ hr3, _, hq4, by rw [List.length_map, List.length_map, sizeLine_eq]; omega, hR1 _ _ ⟨rfl, (S3.trans S4).step hr0, by rw [upd_same, List.map_append], by rw [upd_ne hne3.symm]; exact S4 _ _ hT3, by rw [upd_ne hqr]; exact hq4⟩⟩
        rintro σ5 H5 ⟨rfl, S5, hr5, hT5, hq5⟩
        walk_at "dm"
        have h1 := J.len _ hrw
        have h2 := J.l66 (by omega : so.length ≤ 12)
        have h3 : rw.length ≤ 66 := Nat.le_trans h1 h2
        obtain ⟨hwo, hwe⟩ := J.row _ hrw
        have hT12 : (a :: b :: T).length ≤ 12 := by
          have := pigeonP (hTp.imp fun {u v} k => (fun e => by rw [e] at k; exact ltN_irr k : u ≠ v)) hTs
          omega
        refine ⟨⟨_, SqL.of hT5⟩, fun D hD => ?_⟩
        have hcl := endL_mem (lkB_mem B) rw
        refine comp_gen (steady_list (SqL.of hT5)) (by rw [List.length_map, sizeLine_eq]; omega) hD (fun σ => ∃ o, σ = [o, some (.ref x), some (.ref q)]) (fun j v _ => ∃ y, (a :: b :: T)[j]? = some y ∧ v = .str (endL (lkB ss bs) rw y)) (fun _ _ _ _ _ h => h) ⟨none, rfl⟩ ?_ ?_
        · rintro j z σ' H' hj hz ⟨o, rfl⟩ S6 hD3 R4 hR4
          rw [List.getElem?_map] at hz
          obtain ⟨y, hy, rfl⟩ := Option.map_eq_some_iff.mp hz
          have hys : y ∈ ss := hpm.mem_iff.mp (hTs y (List.mem_of_getElem? hy))
          walk_at "dm"
          refine ⟨x, q, ss, bs, rw, y, rfl, Same.book (S5.trans S6) hbk0, B, SqL.of (S6 _ _ hq5), hwo, by omega, hys, fun p H2 hp S7 hp2 => ⟨p, rfl, _, SqL.of hp2, _, walkL_last _, ?_⟩⟩
          rw [List.take_length]
          exact hR4 _ _ _ ⟨_, rfl⟩ S7 ⟨y, hy, rfl⟩
        · intro us H6 S6 hD6 hul hus
          rw [List.length_map] at hul
          have eus : us = (((a :: b :: T).map (endL (lkB ss bs) rw)).map V.str) := by
            refine List.ext_getElem? fun i => ?_
            by_cases hi : i < us.length
            · have hi1 := List.getElem?_eq_getElem hi
              obtain ⟨y, h1, h2⟩ := hus i _ hi1
              rw [hi1, h2, List.getElem?_map, List.getElem?_map, h1]
              rfl
            · rw [List.getElem?_eq_none_iff.mpr (by omega), List.getElem?_eq_none_iff.mpr (by rw [List.length_map, List.length_map]; omega)]
          rw [eus] at hD6
          have hml := metG_len ((a :: b :: T).map (endL (lkB ss bs) rw))
          rw [List.length_map] at hml
          refine ⟨_, SqL.of hD6, by rw [List.length_map]; omega, fun p hp => ⟨_, upd_same, metG_nodup _, by omega, fun p1 T2 hp1 hpm2 hso2 => ?_⟩⟩
          have SS := (S6.trans (Same.updN (o := SetS P w p (metG ((a :: b :: T).map (endL (lkB ss bs) rw)))) hp)).trans (Same.updN (o := .lst (T2.map V.str)) hp1)
          have hless := met_less (f := endL (lkB ss bs) rw) (T := T) hwe
          rw [← hpm2.length_eq] at hless
          have hmem : ∀ y, y ∈ T2 ↔ y ∈ (a :: b :: T).map (endL (lkB ss bs) rw) := fun y => by rw [hpm2.mem_iff, metG_mem]
          refine ⟨T2.length, by rw [hm]; exact hless, (hWp _ _ _).mpr ⟨R ++ rw, T2, p1, _, rfl, S5.trans SS, SS _ _ hr5, upd_same, fun e => ?_, sorted_lt hso2 (hpm2.nodup_iff.mpr (metG_nodup _)), fun y hy => ?_, ?_, hRo.app hwo, ?_, fun y hy => ?_, rfl⟩⟩
          · have := (S6.trans (Same.updN (o := SetS P w p (metG ((a :: b :: T).map (endL (lkB ss bs) rw)))) hp)) _ _ hr5
            rw [e] at this
            exact absurd (this.symm.trans hp1) (fun z => by cases z)
          · obtain ⟨z, hz, rfl⟩ := List.mem_map.mp ((hmem y).mp hy)
            exact hpm.mem_iff.mpr (hcl z hwo (hpm.mem_iff.mp (hTs z hz)))
          · exact List.length_pos_of_mem ((hmem _).mpr (List.mem_map_of_mem (List.mem_cons_self (a := a))))
          · rw [List.length_append]
            simp only [List.length_cons] at hless hRl ⊢
            omega
          · rw [endL_app]
            exact (hmem _).mpr (List.mem_map_of_mem (hRT y hy))
      · rw [List.length_map] at hle
        obtain ⟨z, rfl⟩ : ∃ z, T = [z] := by
          match T, hle, hT1 with
          | [z], _, _ => exact ⟨z, rfl⟩
          | a :: b :: T, h, _ => exact absurd (show (1 : Int) < ((a :: b :: T).length : Nat) by simp only [List.length_cons]; omega) h
        exact hR0 _ _ ⟨R, z, lT, _, rfl, S3, hr3, hT3, hTs z List.mem_cons_self, hRo, by omega, fun y hy => List.mem_singleton.mp (hRT y hy)⟩
    rintro σ3 H3 ⟨R, z, lT, o4, rfl, S3, hr3, hT3, hz, hRo, hRl, hRe⟩
    walk_at "dm"
    refine ⟨_, SqL.of hT3, _, rfl, by omega, fun p hp => ?_⟩
    have Sp := Same.updN (o := .tup [.ref r, .str z]) hp
    exact q R z p r _ hRo hRl (fun y hy => hRe y (hpm.mem_iff.mpr hy)) (hpm.mem_iff.mp hz) (S3.trans Sp) hr0 upd_same (Sp _ _ hr3)
end

section
variable {P : Program} {w : World} {K : PySem.W.Frag} {mg : Str → Option Value} {base : Heap}
structure StuckL (lk : Str → Str → Str) (ns ss : List Str) (L : List (Str × Str)) : Prop where
  ne : L ≠ []
  nd : L.Nodup
  mem : ∀ e ∈ L, e.1 ∈ ss ∧ e.2 ∈ ss ∧ ltN e.1 e.2
  out : ∀ e ∈ L, ∀ n ∈ ns, lk n e.1 ≠ lk n e.2 ∧ ordP (lk n e.1) (lk n e.2) ∈ L
  len : L.length ≤ 66
def spAllToOne (CB : Addr) : Sp := fun vs H Q _ => ∃ (x : Addr) (ss : List Str) (bs : List (Str × List Str)), vs = [.ref x] ∧ BookAt H CB x ss bs ∧ BookIn ss bs ∧
  (∀ R z t r H', OkR (bs.map (·.1)) R → R.length ≤ 1000 → (∀ y ∈ ss, endL (lkB ss bs) R y = z) → z ∈ ss → Same H H' → H r = none → H' t = some (.tup [.ref r, .str z]) → H' r = some (.lst (R.map V.str)) → Q (.ref t) H') ∧
  (∀ L rs t l H', StuckL (lkB ss bs) (bs.map (·.1)) ss L → Same H H' → H l = none → H' t = some (.tup [.non, .ref l]) → H' l = some (.lst (rs.map V.ref)) → Tups H' rs (L.map tupP) → Q (.ref t) H')

theorem scAllToOne : FnScope ["book", "pairs", "rows", "apart"] ["book"] (defScope sAllToOne) := ⟨rfl, rfl, rfl, by decide +kernel, rfl, by decide +kernel, by decide +kernel⟩
theorem ok_alltoone {f fMS fAP fJS fJD : Addr} {fd fdMS fdAP fdJS fdJD : FuncData} {CB : Addr} (F : Fun K "all_to_one" "all_to_one" sAllToOne f fd)
    (T : Txt mg) (cB : Cls K CB)
    (GMS : FnOk P w K mg base CX0 1 fMS fdMS ["self"] (spBShades CB)) (hmMS : Meth K CB "shades" fMS) (bMS : Binds K fdMS ["self"] [])
    (GAP : FnOk P w K mg base CX0 1 fAP fdAP ["shades"] (spAllPairs K)) (kAP : PySem.W.keepIn K (.ref fAP) = true) (bAP : Binds K fdAP ["shades"] []) (mAP : mg "all_pairs" = some (.ref fAP))
    (GJS : FnOk P w K mg base CX0 4 fJS fdJS ["book", "pairs"] (spJRows CB)) (kJS : PySem.W.keepIn K (.ref fJS) = true) (bJS : Binds K fdJS ["book", "pairs"] []) (mJS : mg "joining_rows" = some (.ref fJS))
    (GJD : FnOk P w K mg base CX0 4 fJD fdJD ["book", "rows"] (spJoined CB)) (kJD : PySem.W.keepIn K (.ref fJD) = true) (bJD : Binds K fdJD ["book", "rows"] []) (mJD : mg "joined" = some (.ref fJD)) :
    FnOk P w K mg base CX0 5 f fd ["book"] (spAllToOne CB) := by
  refine F.ok scAllToOne (fun vs H Q E h => ?_) (fun cdv A outer s H vs Q E hr h => ?_)
  · obtain ⟨_, _, _, rfl, _⟩ := h
    rfl
  · obtain ⟨x, ss, bs, rfl, hbk, B, q1, q2⟩ := h
    have hu : (cxOf CX0 P w K mg base ["book", "pairs", "rows", "apart"] "all_to_one" (defScope sAllToOne) f cdv A outer s H E).A.units + 1 < cLine := by
      have := hr.units
      exact Nat.lt_of_le_of_lt (Nat.add_le_add_left (by decide) _) this
    have hr1 := hr.mono (j := 1) (by omega)
    have hr4 := hr.mono (j := 4) (by omega)
    refine ⟨_, (pss_cut (ps_set (i := 1) scAllToOne.nd rfl (Or.inl rfl) (pe_call GAP hr1 rfl mAP kAP bAP .nil pass0 (pa_cons (pe_meth0 (pv 0) cB hmMS GMS hr1 bMS .nil pass0) pa_nil)))
      (pss_cut (ps_set (i := 2) scAllToOne.nd rfl (Or.inr rfl) (pe_call GJS hr4 rfl mJS kJS bJS .nil pass0 (pa_cons (pv 0) (pa_cons (pv 1) pa_nil))))
      (pss_cut (ps_setcI (i := 3) (N' := ["pair", "rows"]) (pk := [none, some 2]) scAllToOne.nd rfl (Or.inl rfl) rfl (BlkOk.of (by rfl)) (pi_list (pv 1)) (fun s H ex => (pg_name (i := 0) (by show (["pair", "rows"] : List Str).Nodup; decide +kernel) rfl (Or.inl rfl))) (fun s H ex => (pt_cmp (pc_dnotin hu (pv 0) (pv 1)))) (fun s H ex => (pv 0)))
      (pss_cut (ps_if (pt_cmpR op_gt (pe_callB call_len_seq (by rfl) T.len PySem.boot_len (pa_cons (pv 3) pa_nil)) pe_int (nomark _)) (pss_one (ps_ret (pe_tup (pa_cons pe_non (pa_cons (pv 3) pa_nil))))) pss_nil)
      (pss_one (ps_ret (pe_call GJD hr4 rfl mJD kJD bJD .nil pass0 (pa_cons (pv 0) (pa_cons (pv 2) pa_nil))))))))), ?_⟩
    have hs := sz1000
    have hs12 := B.s12
    have hbk0 := hbk
    obtain ⟨dx, bt, bd, bo, hi1, hi2, hi3, hi4, hi5⟩ := hbk
    refine cutQ (fun σ' H' => ∃ lp ps so, σ' = [some (.ref x), some (.ref lp), none, none] ∧ Same H H' ∧ so.Perm ss ∧ so.Pairwise ltN ∧ H' lp = some (.lst (ps.map V.ref)) ∧ Tups H' ps ((prsL so).map tupP)) (fun R hR => ?_) ?_
    · walk_at "dm"
      refine ⟨dx, _, hi1, lk_other (by decide +kernel) (by decide +kernel), x, ss, bs, rfl, hbk0, B, fun l so hl hpm hso => ?_⟩
      have S1 := Same.updN (o := .lst (so.map V.str)) hl
      have hslt := sorted_lt hso (hpm.nodup_iff.mpr B.snd)
      exact ⟨l, so, rfl, SqL.of upd_same, by rw [hpm.length_eq]; exact hs12, fun p ps H' hp S2 hpl hT => hR _ _ ⟨p, ps, so, rfl, S1.trans S2, hpm, hslt, hpl, hT⟩⟩
    rintro σ1 H1 ⟨lp, ps, so, rfl, S1, hpm, hso, hlp, hT⟩
    have hsl : so.length = ss.length := hpm.length_eq
    refine cutQ (fun σ' H' => ∃ d M qs, σ' = [some (.ref x), some (.ref lp), some (.ref d), none] ∧ Same H1 H' ∧ PRowsAt H' d M qs ∧ JoinI (lkB ss bs) (bs.map (·.1)) so M ∧ ∀ pr ∈ prsL so, pr ∉ keysP M → Apart (lkB ss bs) (bs.map (·.1)) M pr) (fun R hR => ?_) ?_
    · walk_at "dm"
      exact ⟨x, lp, ss, bs, so, ps, rfl, Same.book S1 hbk0, B, hpm, hso, hlp, hT, fun d M qs H' hd S2 hM _ J hA => hR _ _ ⟨d, M, qs, rfl, S2, hM, J, hA⟩⟩
    rintro σ2 H2 ⟨d, M, qs, rfl, S2, hM, J, hA⟩
    have hT2 := hT.same S2
    have h66 := prsL_66 (l := so) (by omega)
    have hpl : ps.length = (prsL so).length := by rw [hT.1, List.length_map]
    obtain ⟨FL, hFL⟩ : ∃ FL, FL = (prsL so).filter fun e => !decide (e ∈ keysP M) := ⟨_, rfl⟩
    refine cutQ (fun σ' H' => ∃ D rs, σ' = [some (.ref x), some (.ref lp), some (.ref d), some (.ref D)] ∧ Same H2 H' ∧ H2 D = none ∧ H' D = some (.lst (rs.map V.ref)) ∧ Tups H' rs (FL.map tupP)) (fun R hR => ?_) ?_
    · walk_at "dm"
      refine ⟨⟨_, SqL.of (S2 _ _ hlp)⟩, fun D hD => ?_⟩
      refine compI_pure (steady_list (SqL.of (S2 _ _ hlp))) (by rw [List.length_map, sizeLine_eq]; omega) hD (fun σ => ∃ o, σ = [o, some (.ref d)]) (fun i => match (prsL so)[i]? with | some e => !decide (e ∈ keysP M) | none => false) (fun i => match ps[i]? with | some p => .ref p | none => .non) ⟨none, rfl⟩ ?_ ?_
      · rintro i y σ' H' hi hy ⟨o, rfl⟩ S5 R1 R0 hR1 hR0
        rw [List.length_map] at hi
        rw [List.getElem?_map] at hy
        obtain ⟨p, hp, rfl⟩ := Option.map_eq_some_iff.mp hy
        obtain ⟨e, he⟩ : ∃ e, (prsL so)[i]? = some e := ⟨_, List.getElem?_eq_getElem (by omega)⟩
        have htp := S5 _ _ (hT2.2 i p (tupP e) hp (by rw [List.getElem?_map, he]; rfl))
        rw [he, hp] at hR1
        rw [he] at hR0
        dsimp only at hR1 hR0
        walk_at "dm"
        by_cases hk : e ∈ keysP M
        · obtain ⟨q, r, _, g1, _, _⟩ := (hM.same S5).get J.nd (p := e) htp hk
          refine ⟨_, g1, ite2 (fun h => ?_) (fun _ => hR0 (by rw [decide_eq_true hk]; rfl) _ ⟨_, rfl⟩)⟩
          simp at h
        · refine ⟨none, (hM.same S5).none (p := e) htp hk, ite2 (fun h => hR1 (by rw [decide_eq_false hk]; rfl) _ ⟨_, rfl⟩) (fun h => ?_)⟩
          simp at h
      rw [List.length_map]
      obtain ⟨rs, ers, hrs⟩ := filt_tups (k := ps.length) hT2 (fun e => !decide (e ∈ keysP M)) (bt := fun i => match (prsL so)[i]? with | some e => !decide (e ∈ keysP M) | none => false) (out := fun i => match ps[i]? with | some p => .ref p | none => .non) (fun i e h => by rw [h]) (fun i p h => by rw [h]) (Nat.le_refl _)
      rw [ers]
      rw [hpl, List.take_length] at hrs
      rw [← hFL] at hrs
      have SD := Same.updN (o := .lst (rs.map V.ref)) hD
      exact hR _ _ ⟨D, rs, rfl, SD, hD, upd_same, hrs.same SD⟩
    rintro σ3 H3 ⟨D, rs, rfl, S3, hD0, hD, hrs⟩
    have hrl : rs.length = FL.length := by rw [hrs.1, List.length_map]
    have S12 := S1.trans S2
    have S13 := S12.trans S3
    refine cutQ (fun σ' H' => σ' = [some (.ref x), some (.ref lp), some (.ref d), some (.ref D)] ∧ H' = H3 ∧ FL = []) (fun R hR => ?_) ?_
    · walk_at "dm"
      refine ⟨_, .inl (SqL.of hD), ?_⟩
      rw [List.length_map, hrl]
      refine ite2 (fun hgt => ⟨by omega, fun t ht => ?_⟩) (fun hle => hR _ _ ⟨rfl, rfl, List.length_eq_zero_iff.mp (by omega)⟩)
      have St := Same.updN (o := .tup [.non, .ref D]) ht
      have hmem : ∀ e, e ∈ FL ↔ e ∈ prsL so ∧ e ∉ keysP M := fun e => by rw [hFL, List.mem_filter]; simp
      refine q2 FL rs t D _ ⟨fun e => by rw [e] at hgt; simp at hgt, by rw [hFL]; exact (prsL_nodup hso).filter _, fun e he => ?_, fun e he n hn => ?_, ?_⟩ (S13.trans St) (S12.free hD0) upd_same (St _ _ hD) (hrs.same St)
      · have := (prsL_mem hso).mp (show (e.1, e.2) ∈ prsL so from ((hmem e).mp he).1)
        exact ⟨hpm.mem_iff.mp this.1, hpm.mem_iff.mp this.2.1, this.2.2⟩
      · obtain ⟨h1, h2⟩ := (hmem e).mp he
        have hm := (prsL_mem hso).mp (show (e.1, e.2) ∈ prsL so from h1)
        obtain ⟨a1, a2⟩ := hA e h1 h2 n hn
        have c1 := lkB_mem B n hn e.1 (hpm.mem_iff.mp hm.1)
        have c2 := lkB_mem B n hn e.2 (hpm.mem_iff.mp hm.2.1)
        exact ⟨a1, (hmem _).mpr ⟨ordP_mem hso (hpm.mem_iff.mpr c1) (hpm.mem_iff.mpr c2) a1, a2⟩⟩
      · have := List.length_filter_le (fun e => !decide (e ∈ keysP M)) (prsL so)
        rw [← hFL] at this
        omega
    rintro σ4 H4 ⟨rfl, rfl, hF0⟩
    have hall : ∀ pr ∈ prsL so, pr ∈ keysP M := fun pr hp => Classical.byContradiction fun c => by
      have : pr ∈ FL := by rw [hFL, List.mem_filter]; exact ⟨hp, by rw [decide_eq_false c]; rfl⟩
      rw [hF0] at this
      cases this
    walk_at "dm"
    exact ⟨x, d, ss, bs, so, M, qs, rfl, Same.book S13 hbk0, B, hpm, hso, hM.same S3, J, hall, fun R z t r H' hRo hRl hRe hz S5 hr0 ht hr5 => q1 R z t r _ hRo hRl hRe hz (S13.trans S5) (S13.free hr0) ht hr5⟩
end

section
variable {P : Program} {w : World} {K : PySem.W.Frag} {mg : Str → Option Value} {base : Heap}
def spToOneR (K : PySem.W.Frag) : Sp := fun vs H Q _ => ∃ (t lo d r : Addr) (so ss ns row : List Str) (lk : Str → Str → Str) (z : Str), vs = [.ref t, .ref lo, .ref d] ∧ H t = some (.tup [.ref r, .str z]) ∧ H r = some (.lst (row.map V.str)) ∧ SqL K H lo (so.map V.str) ∧ so.Perm ss ∧ so.length ≤ 12 ∧ TabG H d ss ns lk ∧ (∀ n ∈ ns, ∀ z ∈ ss, lk n z ∈ ss) ∧ OkR ns row ∧ row.length ≤ 1000 ∧ (∀ y ∈ ss, endL lk row y = z) ∧ ∀ H', Same H H' → Q (.bl true) H'

theorem scToOne : FnScope ["_law_found", "_law_order", "_law_tables_here", "_law_shade"] ["_law_found", "_law_order", "_law_tables_here"] (defScope sToOne) := ⟨rfl, rfl, rfl, by decide +kernel, rfl, by decide +kernel, by decide +kernel⟩
theorem ok_toone {f fLo fAE : Addr} {fd fdLo fdAE : FuncData} (F : Fun K "_law_to_one" "_law_to_one" sToOne f fd)
    (T : Txt mg)
    (GLo : FnOk P w K mg base CX0 1 fLo fdLo ["_law_found", "_law_known", "_law_most"] (spListOfD K)) (kLo : PySem.W.keepIn K (.ref fLo) = true) (bLo : Binds K fdLo ["_law_found", "_law_known", "_law_most"] []) (mLo : mg "_law_list_of_names" = some (.ref fLo))
    (GAE : FnOk P w K mg base CX0 1 fAE fdAE ["_law_tables_here", "_law_row_here", "_law_shade"] (spAtEnd K)) (kAE : PySem.W.keepIn K (.ref fAE) = true) (bAE : Binds K fdAE ["_law_tables_here", "_law_row_here", "_law_shade"] []) (mAE : mg "_law_at_end" = some (.ref fAE)) :
    FnOk P w K mg base CX0 2 f fd ["_law_found", "_law_order", "_law_tables_here"] (spToOneR K) := by
  refine F.ok scToOne (fun vs H Q E h => ?_) (fun cdv A outer s H vs Q E hr h => ?_)
  · obtain ⟨_, _, _, _, _, _, _, _, _, _, rfl, _⟩ := h
    rfl
  · obtain ⟨t, lo, d, r, so, ss, ns, row, lk, z, rfl, ht, hr0, hlo, hpm, h12, hG, hcl, hrow, hr1k, hend, q⟩ := h
    have hr1 := hr.mono (j := 1) (by omega)
    refine ⟨_, (pss_cut (ps_if (PW.pt (pw_or (pt_not (pt_val (pe_call GLo hr1 rfl mLo kLo bLo .nil pass0 (pa_cons (pe_ix ix_tup (pv 0) pe_int (fun _ _ => rfl)) (pa_cons (pv 2) (pa_cons pe_int pa_nil)))))) (pw_or1 (pt_not (pt_val (pe_callB call_isi (by rfl) T.isi (by decide +kernel) (pa_cons (pe_ix ix_tup (pv 0) pe_int (fun _ _ => rfl)) (pa_cons (pe_bltn (v := .ty "str") rfl T.str (by decide +kernel) rfl) pa_nil)))))))) (pss_one (ps_ret pe_bl)) pss_nil)
      (pss_cut (ps_for PassesOwn.never rfl (pi_list (pv 1)) (pg_name (i := 3) scToOne.nd rfl (Or.inl rfl)) (pss_one (ps_if (pt_cmpR op_ne (pe_call GAE hr1 rfl mAE kAE bAE .nil pass0 (pa_cons (pv 2) (pa_cons (pe_ix ix_tup (pv 0) pe_int (fun _ _ => rfl)) (pa_cons (pv 3) pa_nil)))) (pe_ix ix_tup (pv 0) pe_int (fun _ _ => rfl)) (nomark _)) (pss_one (ps_ret pe_bl)) pss_nil)))
      (pss_one (ps_ret pe_bl)))), ?_⟩
    have hs := sz1000
    refine cutQ (fun σ' H' => σ' = [some (.ref t), some (.ref lo), some (.ref d), none] ∧ H' = H) (fun R hR => ?_) ?_
    · walk_at "dm"
      obtain ⟨kvs, hRd, hkeys, htab⟩ := hG
      exact ⟨_, SqT.of ht, _, rfl, r, d, row, ns, kvs, _, rfl, hr0, hRd, hkeys, hrow, by omega, true, rfl, ite2 (fun h => by cases h) (fun _ => ⟨_, SqT.of ht, _, rfl, _, TyOf.str _, true, rfl, ite2 (fun h => by cases h) (fun _ => hR _ _ ⟨rfl, rfl⟩)⟩)⟩
    rintro σ1 H1 ⟨rfl, rfl⟩
    refine cutQ (fun σ' H' => ∃ o, σ' = [some (.ref t), some (.ref lo), some (.ref d), o] ∧ H' = H1) (fun R hR => ?_) ?_
    · walk_at "dm"
      refine ⟨⟨_, hlo⟩, ?_⟩
      refine for_steadyQ (H0 := H1) (steady_list hlo) (fun i σ' H' => ∃ o, σ' = [some (.ref t), some (.ref lo), some (.ref d), o] ∧ H' = H1) ⟨none, rfl, rfl⟩ (fun _ _ _ _ ⟨_, _, e⟩ => by rw [e]; exact Same.refl _) ?_ (fun σ' H' ⟨o, e1, e2⟩ => hR _ _ ⟨o, e1, e2⟩)
      rintro i y σ' H' hi hy ⟨o, rfl, rfl⟩ R2 hR2
      rw [List.getElem?_map] at hy
      obtain ⟨x, hx, rfl⟩ := Option.map_eq_some_iff.mp hy
      have hxs := hpm.mem_iff.mp (List.mem_of_getElem? hx)
      walk_at "dm"
      refine ⟨_, SqT.of ht, _, rfl, d, r, ss, ns, row, lk, x, rfl, hG, hcl, SqL.of hr0, hrow, hxs, _, SqT.of ht, _, rfl, rfl, ite2 (fun h => absurd ?_ h) (fun _ => hR2 _ _ ⟨_, rfl, rfl⟩)⟩
      rw [hend x hxs]
    rintro σ2 H2 ⟨o, rfl, rfl⟩
    walk_at "dm"
    exact q _ (Same.refl _)
end

section
variable {P : Program} {w : World} {K : PySem.W.Frag} {mg : Str → Option Value} {base : Heap}
def seenV (L : List (Str × Str)) : List (List Key × V) := L.map fun e => (pkey e, V.bl true)
theorem seen_none : ∀ {L : List (Str × Str)} {e : Str × Str}, e ∉ L → valV (seenV L) (pkey e) = none
  | [], _, _ => rfl
  | x :: L, e, h => by
    have h1 : x ≠ e := fun z => h (by rw [z]; exact List.mem_cons_self)
    have ih := seen_none (L := L) (e := e) fun z => h (List.mem_cons_of_mem _ z)
    unfold valV at ih ⊢
    show Option.map (·.2) (List.find? _ ((pkey x, V.bl true) :: seenV L)) = none
    rw [List.find?_cons_of_neg (by simpa using fun z => h1 (pkey_inj z))]
    exact ih
theorem seen_some : ∀ {L : List (Str × Str)} {e : Str × Str}, e ∈ L → valV (seenV L) (pkey e) = some (V.bl true)
  | x :: L, e, h => by
    by_cases h1 : x = e
    · subst h1
      unfold valV
      show Option.map (·.2) (List.find? _ ((pkey x, V.bl true) :: seenV L)) = _
      rw [List.find?_cons_of_pos (by simp)]
      rfl
    · have hm : e ∈ L := by
        rcases List.mem_cons.mp h with h | h
        · exact absurd h.symm h1
        · exact h
      have ih := seen_some (L := L) (e := e) hm
      unfold valV at ih ⊢
      show Option.map (·.2) (List.find? _ ((pkey x, V.bl true) :: seenV L)) = _
      rw [List.find?_cons_of_neg (by simpa using fun z => h1 (pkey_inj z))]
      exact ih
def spStuckR (K : PySem.W.Frag) : Sp := fun vs H Q _ => ∃ (l lo d : Addr) (rs : List Addr) (so ss ns : List Str) (lk : Str → Str → Str) (L : List (Str × Str)), vs = [.ref l, .ref lo, .ref d] ∧ H l = some (.lst (rs.map V.ref)) ∧ Tups H rs (L.map tupP) ∧ H lo = some (.lst (so.map V.str)) ∧ so.Perm ss ∧ so.length ≤ 12 ∧ TabG H d ss ns lk ∧ (∀ n ∈ ns, ∀ z ∈ ss, lk n z ∈ ss) ∧ StuckL lk ns ss L ∧ ∀ H', Fz H H' → Q (.bl true) H'

theorem scStuck : FnScope ["_law_pairs", "_law_order", "_law_tables_here", "_law_seen", "_law_one", "_law_bath", "_law_came"] ["_law_pairs", "_law_order", "_law_tables_here"] (defScope sStuck) := ⟨rfl, rfl, rfl, by decide +kernel, rfl, by decide +kernel, by decide +kernel⟩
theorem ok_stuck {f fPr fLo : Addr} {fd fdPr fdLo : FuncData} (F : Fun K "_law_stuck" "_law_stuck" sStuck f fd)
    (T : Txt mg)
    (GPr : FnOk P w K mg base CX0 1 fPr fdPr ["_law_found"] spPair) (kPr : PySem.W.keepIn K (.ref fPr) = true) (bPr : Binds K fdPr ["_law_found"] []) (mPr : mg "_law_pair" = some (.ref fPr))
    (GLo : FnOk P w K mg base CX0 1 fLo fdLo ["_law_found", "_law_known", "_law_most"] (spListOfL K)) (kLo : PySem.W.keepIn K (.ref fLo) = true) (bLo : Binds K fdLo ["_law_found", "_law_known", "_law_most"] []) (mLo : mg "_law_list_of_names" = some (.ref fLo)) :
    FnOk P w K mg base CX0 2 f fd ["_law_pairs", "_law_order", "_law_tables_here"] (spStuckR K) := by
  refine F.ok scStuck (fun vs H Q E h => ?_) (fun cdv A outer s H vs Q E hr h => ?_)
  · obtain ⟨_, _, _, _, _, _, _, _, _, rfl, _⟩ := h
    rfl
  · obtain ⟨l, lo, d, rs, so, ss, ns, lk, L, rfl, hl, hT, hlo, hpm, h12, hG, hcl, St, q⟩ := h
    have hu : (cxOf CX0 P w K mg base ["_law_pairs", "_law_order", "_law_tables_here", "_law_seen", "_law_one", "_law_bath", "_law_came"] "_law_stuck" (defScope sStuck) f cdv A outer s H E).A.units + 1 < cLine := by
      have := hr.units
      exact Nat.lt_of_le_of_lt (Nat.add_le_add_left (by decide) _) this
    have hr1 := hr.mono (j := 1) (by omega)
    refine ⟨_, (pss_cut (ps_if (PW.pt (pw_or (pt_not (pt_val (pe_callB call_isi (by rfl) T.isi (by decide +kernel) (pa_cons (pv 0) (pa_cons (pe_bltn (v := .ty "list") rfl T.list (by decide +kernel) rfl) pa_nil))))) (pw_or (pt_cmpR op_lt (pe_callB call_len_seq (by rfl) T.len PySem.boot_len (pa_cons (pv 0) pa_nil)) pe_int (nomark _)) (pw_or1 (pt_cmpR op_gt (pe_callB call_len_seq (by rfl) T.len PySem.boot_len (pa_cons (pv 0) pa_nil)) pe_int (nomark _)))))) (pss_one (ps_ret pe_bl)) pss_nil)
      (pss_cut (ps_set (i := 3) scStuck.nd rfl (Or.inl rfl) pe_dnewT)
      (pss_cut (ps_for PassesOwn.never rfl (pi_list (pv 0)) (pg_name (i := 4) scStuck.nd rfl (Or.inl rfl)) (pss_cut (ps_if (PW.pt (pw_or (pt_not (pt_val (pe_call GPr hr1 rfl mPr kPr bPr .nil pass0 (pa_cons (pv 4) pa_nil)))) (pw_or1 (pt_not (pt_val (pe_call GLo hr1 rfl mLo kLo bLo .nil pass0 (pa_cons (pe_callTy call_list_of (by rfl) T.list (by decide +kernel) (pa_cons (pv 4) pa_nil)) (pa_cons (pv 1) (pa_cons pe_int pa_nil))))))))) (pss_one (ps_ret pe_bl)) pss_nil)
      (pss_cut (ps_if (PW.pt (pw_or (pt_cmpR op_ge_str (pe_ix ix_tup (pv 4) pe_int (fun _ _ => rfl)) (pe_ix ix_tup (pv 4) pe_int (fun _ _ => rfl)) (nomark _)) (pw_or1 (pt_cmp (pc_din hu (pv 4) (pv 3)))))) (pss_one (ps_ret pe_bl)) pss_nil)
      (pss_one (ps_dput hu (pv 3) (pv 4) pe_bl rfl)))))
      (pss_cut (ps_for PassesOwn.never rfl (pi_list (pv 0)) (pg_name (i := 4) scStuck.nd rfl (Or.inl rfl)) (pss_one (ps_for PassesOwn.never rfl (pi_dict (pv 2)) (pg_name (i := 5) scStuck.nd rfl (Or.inl rfl)) (pss_cons (ps_set (i := 6) scStuck.nd rfl (Or.inl rfl) (pe_callB call_sortedL (by rfl) T.sorted (by decide +kernel) (pa_cons (pe_lst (pa_cons (pe_dget hu (pe_dget hu (pv 2) (pv 5) (fun _ _ => rfl)) (pe_ix ix_tup (pv 4) pe_int (fun _ _ => rfl)) (fun _ _ => rfl)) (pa_cons (pe_dget hu (pe_dget hu (pv 2) (pv 5) (fun _ _ => rfl)) (pe_ix ix_tup (pv 4) pe_int (fun _ _ => rfl)) (fun _ _ => rfl)) pa_nil))) pa_nil)))
      (pss_one (ps_if (pt_cmp (pc_dnotin hu (pe_tup (pa_cons (pe_ix ix_list (pv 6) pe_int (fun _ _ => rfl)) (pa_cons (pe_ix ix_list (pv 6) pe_int (fun _ _ => rfl)) pa_nil))) (pv 3))) (pss_one (ps_ret pe_bl)) pss_nil))))))
      (pss_one (ps_ret pe_bl)))))), ?_⟩
    have hs := sz1000
    have hrl : rs.length = L.length := by rw [hT.1, List.length_map]
    have hL66 := St.len
    have hL1 : 1 ≤ L.length := Nat.pos_of_ne_zero fun e => St.ne (List.length_eq_zero_iff.mp e)
    refine cutQ (fun σ' H' => σ' = [some (.ref l), some (.ref lo), some (.ref d), none, none, none, none] ∧ H' = H) (fun R hR => ?_) ?_
    · walk_at "dm"
      refine ⟨_, TyOf.lst hl, true, rfl, ite2 (fun h => by cases h) (fun _ => ?_)⟩
      exact ⟨_, .inl (SqL.of hl), ite2 (fun h => absurd h (by rw [List.length_map]; omega)) (fun _ => ⟨_, .inl (SqL.of hl), ite2 (fun h => absurd h (by rw [List.length_map]; omega)) (fun _ => hR _ _ ⟨rfl, rfl⟩)⟩)⟩
    rintro σ1 H1 ⟨rfl, rfl⟩
    refine cutQ (fun σ' H' => ∃ sn, H1 sn = none ∧ σ' = [some (.ref l), some (.ref lo), some (.ref d), some (.ref sn), none, none, none] ∧ H' = upd H1 sn (.dT [])) (fun R hR => ?_) ?_
    · walk_at "dm"
      exact fun p hp => hR _ _ ⟨p, hp, rfl, rfl⟩
    rintro σ2 H2 ⟨sn, hsn, rfl, rfl⟩
    have S2 := Same.updN (o := .dT []) hsn
    refine cutQ (fun σ' H' => ∃ o4 o5 o6, σ' = [some (.ref l), some (.ref lo), some (.ref d), some (.ref sn), o4, o5, o6] ∧ Same H1 H' ∧ H' sn = some (.dT (seenV L))) (fun R hR => ?_) ?_
    · walk_at "dm"
      refine ⟨⟨_, SqL.of (S2 _ _ hl)⟩, ?_⟩
      refine for_steadyQ (H0 := H1) (steady_list (SqL.of hl)) (fun i σ' H' => ∃ o4 o5 o6, σ' = [some (.ref l), some (.ref lo), some (.ref d), some (.ref sn), o4, o5, o6] ∧ Same H1 H' ∧ H' sn = some (.dT (seenV (L.take i)))) ⟨none, none, none, rfl, S2, upd_same⟩ (fun _ _ _ _ ⟨_, _, _, _, h, _⟩ => h) ?_ ?_
      · rintro i y σ' H' hi hy ⟨o4, o5, o6, rfl, S, hsn'⟩ R2 hR2
        rw [List.getElem?_map] at hy
        obtain ⟨r, hr, rfl⟩ := Option.map_eq_some_iff.mp hy
        obtain ⟨e, he⟩ : ∃ e, L[i]? = some e := ⟨_, List.getElem?_eq_getElem (by rw [List.length_map] at hi; omega)⟩
        have ht := S _ _ (hT.2 i r (tupP e) hr (by rw [List.getElem?_map, he]; rfl))
        obtain ⟨m1, m2, mlt⟩ := St.mem e (List.mem_of_getElem? he)
        walk_at "dm"
        have hem : e ∉ L.take i := fun h => by
          obtain ⟨j, hj⟩ := List.getElem?_of_mem h
          rw [List.getElem?_take] at hj
          by_cases hjk : j < i
          · rw [if_pos hjk] at hj
            obtain ⟨h1, e1⟩ := List.getElem?_eq_some_iff.mp hj
            obtain ⟨h2, e2⟩ := List.getElem?_eq_some_iff.mp he
            exact List.pairwise_iff_getElem.mp St.nd j i h1 h2 hjk (e1.trans e2.symm)
          · rw [if_neg hjk] at hj; cases hj
        refine cutQ (fun σ2 H2 => σ2 = [some (.ref l), some (.ref lo), some (.ref d), some (.ref sn), some (.ref r), o5, o6] ∧ Same H' H2) (fun R3 hR3 => ?_) ?_
        · walk_at "dm"
          refine ⟨r, _, _, rfl, ht, true, rfl, ite2 (fun h => by cases h) (fun _ => ⟨_, .inr (SqT.of ht), fun l2 hl2 => ?_⟩)⟩
          have Sl := Same.updN (o := .lst (tupP e)) hl2
          exact ⟨l2, lo, [e.1, e.2], so, 2, rfl, upd_same, SqL.of ((S.trans Sl) _ _ hlo), fun x hx => by
            rcases List.mem_cons.mp hx with rfl | hx
            · exact hpm.mem_iff.mpr m1
            · rw [List.mem_singleton.mp hx]; exact hpm.mem_iff.mpr m2, by simp, true, rfl, ite2 (fun h => by cases h) (fun _ => hR3 _ _ ⟨rfl, Sl⟩)⟩
        rintro σ2 H2 ⟨rfl, S4⟩
        have ht2 := S4 _ _ ht
        have hsn2 := S4 _ _ hsn'
        have hD : DGet H2 sn (.ref r) none := by rw [← seen_none hem]; exact DGet.t hsn2 ht2
        refine cutQ (fun σ3 H3 => σ3 = [some (.ref l), some (.ref lo), some (.ref d), some (.ref sn), some (.ref r), o5, o6] ∧ H3 = H2) (fun R3 hR3 => ?_) ?_
        · walk_at "dm"
          exact ⟨_, SqT.of ht2, _, rfl, _, SqT.of ht2, _, rfl, _, rfl, _, rfl, ite2 (fun h => absurd mlt (by simpa using h)) (fun _ => ⟨none, hD, ite2 (fun h => by cases h) (fun _ => hR3 _ _ ⟨rfl, rfl⟩)⟩)⟩
        rintro σ3 H3 ⟨rfl, rfl⟩
        walk_at "dm"
        refine ⟨_, DPut.t (k := pkey e) hsn2 ht2 ?_, hR2 _ _ ⟨_, _, _, rfl, (S.trans S4).step hsn, ?_⟩⟩
        · unfold seenV
          rw [List.length_map, List.length_take, sizeLine_eq]
          omega
        · rw [upd_same, putK_new _ (seen_none hem), take_snoc he]
          unfold seenV
          rw [List.map_append]
          rfl
      · rintro σ' H' ⟨o4, o5, o6, rfl, S, hsn'⟩
        refine hR _ _ ⟨o4, o5, o6, rfl, S, ?_⟩
        rw [List.length_map, hrl, List.take_length] at hsn'
        exact hsn'
    rintro σ3 H3 ⟨o4, o5, o6, rfl, S3, hsn3⟩
    refine cutQ (fun σ' H' => ∃ o4 o5 o6, σ' = [some (.ref l), some (.ref lo), some (.ref d), some (.ref sn), o4, o5, o6] ∧ Fz H3 H') (fun R hR => ?_) ?_
    · walk_at "dm"
      refine ⟨⟨_, SqL.of (S3 _ _ hl)⟩, ?_⟩
      refine for_steadyQ (H0 := fun b => if b = l then some (.lst (rs.map V.ref)) else none) (steady_list (SqL.of (if_pos rfl))) (fun i σ' H' => ∃ o4 o5 o6, σ' = [some (.ref l), some (.ref lo), some (.ref d), some (.ref sn), o4, o5, o6] ∧ Fz H3 H') ⟨o4, o5, o6, rfl, Fz.refl _⟩ (fun _ _ _ _ ⟨_, _, _, _, h⟩ => fun b o e => ?_) ?_ (fun σ' H' h => hR _ _ h)
      · dsimp only at e
        split at e
        · rename_i hb; cases e; rw [hb]; exact h.1 _ _ (S3 _ _ hl) (fun _ h => by cases h)
        · cases e
      · rintro i y σ' H' hi hy ⟨o4, o5, o6, rfl, F⟩ R2 hR2
        rw [List.getElem?_map] at hy
        obtain ⟨r, hr, rfl⟩ := Option.map_eq_some_iff.mp hy
        obtain ⟨e, he⟩ : ∃ e, L[i]? = some e := ⟨_, List.getElem?_eq_getElem (by rw [List.length_map] at hi; omega)⟩
        have ht := F.1 _ _ (S3 _ _ (hT.2 i r (tupP e) hr (by rw [List.getElem?_map, he]; rfl))) (fun _ h => by cases h)
        have heL := List.mem_of_getElem? he
        obtain ⟨m1, m2, mlt⟩ := St.mem e heL
        have hG2 := F.tabG (Fz.tabG (Same.fz S3) hG)
        walk_at "dm"
        obtain ⟨kvs, hRd, hkeys, htab⟩ := id hG2
        refine ⟨kvs, dict_or (W := fun o HF => ForW (Itd d o kvs) _ _ _ _ HF) hRd fun o2 HF2 hHF2 FF2 => ?_⟩
        refine for_steadyQ (H0 := HF2) (steady_dict hHF2) (fun j σ' H'' => ∃ o5 o6, σ' = [some (.ref l), some (.ref lo), some (.ref d), some (.ref sn), some (.ref r), o5, o6] ∧ Same HF2 H'') ⟨o5, o6, rfl, Same.refl _⟩ (fun _ _ _ _ ⟨_, _, _, h⟩ => h) ?_ (fun σ H'' ⟨o5, o6, e1, h⟩ => hR2 _ _ ⟨_, _, _, e1, F.trans (FF2.trans (Same.fz h))⟩)
        rintro j y σ H'' hj ⟨k0, v0, hkv, rfl⟩ ⟨o5, o6, rfl, S5⟩ R3 hR3
        have FF := F.trans (FF2.trans (Same.fz S5))
        obtain ⟨n, hn, hk0⟩ : ∃ n, n ∈ ns ∧ k0 = Sum.inr n := by
          have e1 : (kvs.map (·.1))[j]? = some k0 := by rw [List.getElem?_map, hkv]; rfl
          rw [hkeys, List.getElem?_map] at e1
          obtain ⟨n, hn, e2⟩ := Option.map_eq_some_iff.mp e1
          exact ⟨n, List.mem_of_getElem? hn, e2.symm⟩
        subst hk0
        have hG3 := (FF2.trans (Same.fz S5)).tabG hG2
        have ht3 := (FF2.trans (Same.fz S5)).1 _ _ ht (fun _ h => by cases h)
        obtain ⟨q1, g1, g2⟩ := hG3.get hn m1
        obtain ⟨q2, g3, g4⟩ := hG3.get hn m2
        walk_at "dm"
        refine ⟨_, g1, _, SqT.of ht3, _, rfl, q1, rfl, _, g2, _, g3, _, SqT.of ht3, _, rfl, q2, rfl, _, g4, by omega, fun p hp => ⟨[lk n e.1, lk n e.2], SqL.of upd_same, by show 2 < 64; decide, fun p1 ss' hp1 hpm2 hso2 => ?_⟩⟩
        have hl2 : ss'.length = 2 := hpm2.length_eq
        match ss', hl2, hpm2, hso2 with
        | [u, v], _, hpm2, hso2 =>
        obtain ⟨e1, e2⟩ := ordP_of hpm2 hso2
        obtain ⟨b1, b2⟩ := St.out e heL n hn
        have SP := Same.updN (o := .lst [V.str (lk n e.1), V.str (lk n e.2)]) hp
        have SP1 := SP.trans (Same.updN (o := .lst ([u, v].map V.str)) hp1)
        refine ⟨_, SqL.of upd_same, _, rfl, _, SqL.of upd_same, _, rfl, by omega, fun p2 hp2 => ?_⟩
        have SP2 := SP1.trans (Same.updN (o := .tup [V.str u, V.str v]) hp2)
        have hsn5 := SP2 _ _ (FF.1 _ _ hsn3 (fun _ h => by cases h))
        have hD : DGet (upd (upd (upd H'' p (HO.lst [V.str (lk n e.1), V.str (lk n e.2)])) p1 (HO.lst (List.map V.str [u, v]))) p2 (HO.tup [V.str u, V.str v])) sn (V.ref p2) (some (.bl true)) := by
          rw [← seen_some (L := L) (e := (u, v)) (by rw [e1]; exact b2)]
          exact DGet.t hsn5 upd_same
        exact ⟨_, hD, ite2 (fun h => by cases h) (fun _ => hR3 _ _ ⟨_, _, rfl, S5.trans SP2⟩)⟩
    rintro σ4 H4 ⟨o4', o5', o6', rfl, F4⟩
    walk_at "dm"
    exact q _ ((Same.fz S3).trans F4)
end

section
variable {P : Program} {w : World} {K : PySem.W.Frag} {mg : Str → Option Value} {base : Heap}
theorem cat_use {H : Hp} {l b : Addr} {xs zs : List V} {Q : VK} (hl : H l = some (.lst xs)) (hb : H b = some (.lst zs)) (hz : xs.length + zs.length ≤ sizeLine) (q : ∀ p, H p = none → Q (.ref p) (upd H p (.lst (xs ++ zs)))) : rCat (.ref l) (.ref b) H Q := ⟨l, b, xs, zs, rfl, rfl, hl, hb, hz, q⟩
def rowT (ws : List Str) : Str := Txt.join (Str.ofString " ") ws ++ Str.ofString "\n"
def Few (ws : List Str) : Prop := ws.length ≤ 20 ∧ ∀ x ∈ ws, x.length ≤ 8
theorem Few.sum {ws : List Str} (h : ∀ x ∈ ws, x.length ≤ 8) : (ws.map (·.length)).sum ≤ 8 * ws.length := by
  induction ws with
  | nil => exact Nat.le_refl _
  | cons a r ih =>
    have h1 := h a List.mem_cons_self
    have h2 := ih fun x hx => h x (List.mem_cons_of_mem _ hx)
    rw [List.map_cons, List.sum_cons, List.length_cons]
    omega
theorem glue_len (z : Str) (l : List Str) : ∀ acc : Array Nat, (l.foldl (fun acc p => acc ++ z.cps ++ p.cps) acc).size = acc.size + ((l.map (·.length)).sum + l.length * z.length) := by
  induction l with
  | nil => intro acc; simp
  | cons a r ih =>
    intro acc
    rw [List.foldl_cons, ih, Array.size_append, Array.size_append, List.map_cons, List.sum_cons, List.length_cons, Nat.add_mul]
    show acc.size + z.length + a.length + _ = _
    omega
theorem join_len {z : Str} {l : List Str} : (Txt.join z l).length ≤ (l.map (·.length)).sum + l.length * z.length := by
  cases l with
  | nil =>
    show Str.empty.length ≤ _
    rw [show Str.empty.length = 0 from rfl]; exact Nat.zero_le _
  | cons a r =>
    show (List.foldl (fun acc p => acc ++ z.cps ++ p.cps) a.cps r).size ≤ _
    rw [glue_len, List.map_cons, List.sum_cons, List.length_cons, Nat.add_mul]
    show a.length + _ ≤ _
    omega
theorem rowT_len {ws : List Str} (h : Few ws) : (rowT ws).length ≤ 181 := by
  have h1 := Few.sum h.2
  have h2 := join_len (z := Str.ofString " ") (l := ws)
  have h3 := h.1
  have e1 : (Str.ofString " ").length = 1 := by decide +kernel
  have e2 : (Str.ofString "\n").length = 1 := by decide +kernel
  unfold rowT
  rw [app_len, e2]
  rw [e1] at h2
  omega
theorem app_assoc (a b c : Str) : a ++ b ++ c = a ++ (b ++ c) := str_ext (by
  show ((a.cps ++ b.cps) ++ c.cps).toList = (a.cps ++ (b.cps ++ c.cps)).toList
  simp)
theorem join_nil_fold (l : List Str) : ∀ a : Str, Txt.join (Str.ofString "") (a :: l) = l.foldl (· ++ ·) a := by
  have key : ∀ (l : List Str) (a : Str), (⟨l.foldl (fun acc p => acc ++ (Str.ofString "").cps ++ p.cps) a.cps⟩ : Str) = l.foldl (· ++ ·) a := by
    intro l
    induction l with
    | nil => intro a; rfl
    | cons b r ih =>
      intro a
      rw [List.foldl_cons, List.foldl_cons, ← ih (a ++ b)]
      have e : a.cps ++ (Str.ofString "").cps ++ b.cps = (a ++ b).cps := by
        show a.cps ++ (Str.ofString "").cps ++ b.cps = a.cps ++ b.cps
        rw [show (Str.ofString "").cps = #[] by decide +kernel, Array.append_empty]
      rw [e]
  exact fun a => key l a
theorem fold_len (l : List Str) (h : ∀ x ∈ l, x.length ≤ 181) : ∀ a : Str, (l.foldl (· ++ ·) a).length ≤ a.length + 181 * l.length := by
  induction l with
  | nil => intro a; exact Nat.le_refl _
  | cons b r ih =>
    intro a
    have h1 := h b List.mem_cons_self
    have h2 := ih (fun x hx => h x (List.mem_cons_of_mem _ hx)) (a ++ b)
    rw [app_len] at h2
    rw [List.foldl_cons, List.length_cons]
    omega
def bthT (so : List Str) (lk : Str → Str → Str) (n : Str) : Str := rowT (Str.ofString "bath" :: n :: so.map (lk n))
def bookT (so ns : List Str) (lk : Str → Str → Str) : Str := (ns.map (bthT so lk)).foldl (· ++ ·) (rowT (Str.ofString "shades" :: so))
def spWRow (K : PySem.W.Frag) : Sp := fun vs H Q _ => ∃ (a : Addr) (ws : List Str), vs = [.ref a] ∧ SqL K H a (ws.map V.str) ∧ Few ws ∧ Q (.str (rowT ws)) H
theorem scWRow : FnScope ["words"] ["words"] (defScope sWRow) := ⟨rfl, rfl, rfl, by decide +kernel, rfl, by decide +kernel, by decide +kernel⟩
theorem few_ok {ws : List Str} (h : Few ws) : (ws.map (·.length)).sum + ws.length * (Str.ofString " ").length ≤ 16777216 := by
  have h1 := Few.sum h.2
  have h3 := h.1
  have e1 : (Str.ofString " ").length = 1 := by decide +kernel
  rw [e1]
  omega
theorem ok_wrow {f : Addr} {fd : FuncData} (F : Fun K "write_row" "write_row" sWRow f fd) : FnOk P w K mg base CX0 1 f fd ["words"] (spWRow K) := by
  refine F.ok scWRow (fun vs H Q E h => ?_) (fun cdv A outer s H vs Q E hr h => ?_)
  · obtain ⟨_, _, rfl, _⟩ := h
    rfl
  · obtain ⟨a, ws, rfl, ha, hf, q⟩ := h
    refine ⟨_, pss_one (ps_ret (pe_op op_add_str (pe_bm PySem.F.plainAttrs_str PySem.F.slot_str_join PySem.F.type_str_join mt_join pe_str (pa_cons (pv 0) pa_nil)) pe_str)), ?_⟩
    have hs := sz1000
    have hl := rowT_len hf
    unfold rowT at hl
    rw [app_len] at hl
    walk_at "dm"
    exact ⟨rfl, ws, ha, few_ok hf, by omega, q⟩
theorem good_few {ss : List Str} (h : ∀ x ∈ ss, goodB x = true) : ∀ x ∈ ss, x.length ≤ 8 := fun x hx => good_len (h x hx)
theorem lkV_mem {ss : List Str} {bs : List (Str × List Str)} {b : Str × List Str} {z : Str} (B : BookIn ss bs) (hb : b ∈ bs) (hz : z ∈ ss) : lkV ss b z ∈ ss := by
  obtain ⟨i, hi⟩ := List.getElem?_of_mem hz
  have hl := B.bln b hb
  have hil : i < b.2.length := by rw [hl]; exact (List.getElem?_eq_some_iff.mp hi).1
  have e : valV (tabV ss b) (Sum.inr z) = some (V.str b.2[i]) := valV_zip ss (b.2.map V.str) i z _ B.snd hi (by rw [List.getElem?_map, List.getElem?_eq_getElem hil]; rfl)
  have e2 : lkV ss b z = b.2[i] := by unfold lkV; rw [e]
  rw [e2]
  exact B.bin b hb _ (List.getElem_mem hil)
theorem few_cons {x : Str} {ws : List Str} {n : Nat} (hx : x.length ≤ 8) (h : ∀ y ∈ ws, y.length ≤ 8) : ∀ y ∈ x :: ws, y.length ≤ 8 := fun y hy => by
  rcases List.mem_cons.mp hy with rfl | hy
  · exact hx
  · exact h y hy
theorem few_sh {so ss : List Str} {bs : List (Str × List Str)} (B : BookIn ss bs) (hp : so.Perm ss) : Few (Str.ofString "shades" :: so) := by
  have := B.s12
  refine ⟨by rw [List.length_cons, hp.length_eq]; omega, few_cons (n := 0) (by decide +kernel) fun y hy => good_few B.snm y (hp.mem_iff.mp hy)⟩
theorem few_bth {so ss : List Str} {bs : List (Str × List Str)} {b : Str × List Str} (B : BookIn ss bs) (hp : so.Perm ss) (hb : b ∈ bs) : Few (Str.ofString "bath" :: b.1 :: so.map (lkV ss b)) := by
  have := B.s12
  refine ⟨by rw [List.length_cons, List.length_cons, List.length_map, hp.length_eq]; omega, few_cons (n := 0) (by decide +kernel) (few_cons (n := 0) (good_len (B.bnm b hb)) fun y hy => ?_)⟩
  obtain ⟨z, hz, rfl⟩ := List.mem_map.mp hy
  exact good_few B.snm _ (lkV_mem B hb (hp.mem_iff.mp hz))
theorem map_congr' {so ss : List Str} {f g : Str → Str} (hp : so.Perm ss) (h : ∀ z ∈ ss, f z = g z) : so.map f = so.map g := List.map_congr_left fun z hz => h z (hp.mem_iff.mp hz)
def spWBook (C : Addr) : Sp := fun vs H Q _ => ∃ (x : Addr) (ss : List Str) (bs : List (Str × List Str)), vs = [.ref x] ∧ BookAt H C x ss bs ∧ BookIn ss bs ∧
  ∀ H' so ns, Same H H' → so.Perm ss → PyProof.Rows.sortedS so = true → ns.Perm (bs.map (·.1)) → PyProof.Rows.sortedS ns = true → Q (.str (bookT so ns (lkB ss bs))) H'
theorem scWBook : FnScope ["book", "rows", "bath"] ["book"] (defScope sWBook) := ⟨rfl, rfl, rfl, by decide +kernel, rfl, by decide +kernel, by decide +kernel⟩
theorem ok_wbook {C f fR fS fB fTb : Addr} {fd fdR fdS fdB fdTb : FuncData} (F : Fun K "write_book" "write_book" sWBook f fd) (c : Cls K C)
    (GR : FnOk P w K mg base CX0 1 fR fdR ["words"] (spWRow K)) (kR : PySem.W.keepIn K (.ref fR) = true) (bR : Binds K fdR ["words"] []) (mR : mg "write_row" = some (.ref fR))
    (GS : FnOk P w K mg base CX0 1 fS fdS ["self"] (spBShades C)) (hmS : Meth K C "shades" fS) (bS : Binds K fdS ["self"] [])
    (GB : FnOk P w K mg base CX0 1 fB fdB ["self"] (spBBaths C)) (hmB : Meth K C "baths" fB) (bB : Binds K fdB ["self"] [])
    (GTb : FnOk P w K mg base CX0 2 fTb fdTb ["self", "bath"] (spBTable C)) (hmT : Meth K C "table" fTb) (bTb : Binds K fdTb ["self", "bath"] []) :
    FnOk P w K mg base CX0 3 f fd ["book"] (spWBook C) := by
  refine F.ok scWBook (fun vs H Q E h => ?_) (fun cdv A outer s H vs Q E hr h => ?_)
  · obtain ⟨_, _, _, rfl, _⟩ := h
    rfl
  · obtain ⟨x, ss, bs, rfl, hbk, B, q⟩ := h
    have hr1 := hr.mono (j := 1) (by omega)
    refine ⟨_, pss_cut (ps_set (i := 1) scWBook.nd rfl (Or.inl rfl) (pe_lst (pa_cons (pe_call GR hr1 rfl mR kR bR .nil pass0 (pa_cons (pe_op op_cat (pe_lst (pa_cons pe_str pa_nil)) (pe_meth0 (pv 0) c hmS GS hr1 bS .nil pass0)) pa_nil)) pa_nil)))
      (pss_cons (ps_for PassesOwn.never rfl (pi_list (pe_meth0 (pv 0) c hmB GB hr1 bB .nil pass0)) (pg_name (i := 2) scWBook.nd rfl (Or.inl rfl))
        (pss_one (ps_expr (pe_bm PySem.F.plainAttrs_list PySem.F.slot_list_append PySem.F.type_list_append mt_append (pv 1) (pa_cons (pe_call GR hr1 rfl mR kR bR .nil pass0 (pa_cons (pe_op op_cat (pe_lst (pa_cons pe_str (pa_cons (pv 2) pa_nil))) (pe_meth (pv 0) c hmT GTb hr bTb .nil pass0 (pa_cons (pv 2) pa_nil))) pa_nil)) pa_nil)))))
      (pss_one (ps_ret (pe_bm PySem.F.plainAttrs_str PySem.F.slot_str_join PySem.F.type_str_join mt_join pe_str (pa_cons (pv 1) pa_nil))))), ?_⟩
    have hs := sz1000
    have hs12 := B.s12
    have hb8 := B.b8
    have hbk0 := hbk
    obtain ⟨dx, t, d, so, h1, h2, hpm, hso, h5⟩ := hbk
    have hsl : so.length = ss.length := hpm.length_eq
    refine cut (fun σ' H' => ∃ l, σ' = [some (.ref x), some (.ref l), none] ∧ Same H H' ∧ H l = none ∧ H' l = some (.lst [V.str (rowT (Str.ofString "shades" :: so))])) ?_ ?_
    · walk_at "dm"
      refine ⟨by omega, fun p hp => ?_⟩
      have Sa : Same H (upd H p (.lst [V.str (Str.ofString "shades")])) := Same.updN hp
      refine ⟨dx, _, Sa _ _ h1, lk_other (by decide +kernel) (by decide +kernel), x, ss, bs, rfl, Same.book Sa hbk0, B, fun l so2 hl hp2 hs2 => ?_⟩
      have e2 : so2 = so := sorted_uniq hs2 hso (hp2.trans hpm.symm)
      subst e2
      have hpl : p ≠ l := fun e => by rw [← e, upd_same] at hl; cases hl
      refine cat_use (by rw [upd_ne hpl]; exact upd_same) upd_same (by rw [List.length_map]; show 1 + _ ≤ _; omega) fun p2 hp2' => ?_
      have Sb := Sa.step (o := .lst (so2.map V.str)) (Sa.free hl)
      have Sc := Sb.step (o := .lst ([V.str (Str.ofString "shades")] ++ so2.map V.str)) (Sb.free hp2')
      refine ⟨p2, Str.ofString "shades" :: so2, rfl, SqL.of upd_same, few_sh B hpm, by omega, fun l3 hl3 => ⟨Sc.step (Sc.free hl3), Sc.free hl3, upd_same⟩⟩
    rintro σ1 H1 ⟨l, rfl, S1, hl0, hl⟩
    walk_at "dm"
    refine ⟨dx, _, S1 _ _ h1, lk_other (by decide +kernel) (by decide +kernel), x, ss, bs, rfl, Same.book S1 hbk0, B, fun lb ns hlb hnp hns => ?_⟩
    have hlbl : l ≠ lb := fun e => by rw [← e, hl] at hlb; cases hlb
    have S2 : Same H1 (upd H1 lb (.lst (ns.map V.str))) := Same.updN hlb
    have hnl : ns.length = bs.length := by rw [hnp.length_eq, List.length_map]
    generalize hG : upd H1 lb (.lst (ns.map V.str)) = G at S2
    have hGb : G lb = some (.lst (ns.map V.str)) := by rw [← hG]; exact upd_same
    have hGl : G l = some (.lst [V.str (rowT (Str.ofString "shades" :: so))]) := S2 _ _ hl
    have SHG : Same (hide H l) (hide G l) := Same.hide (S1.trans S2)
    have hH0 : Same H (hide H l) := fun y o e => by rw [hide_at (ne_of_none e hl0)]; exact e
    have hbl : Same H (hide G l) := hH0.trans SHG
    refine ⟨lb, rfl, ⟨_, SqL.of hGb⟩, ?_⟩
    refine for_steady (H0 := hide G l) (steady_list (SqL.of (by rw [hide_at (Ne.symm hlbl)]; exact hGb))) (fun i σ' H' => ∃ o, σ' = [some (.ref x), some (.ref l), o] ∧ Same (hide G l) H' ∧ H' l = some (.lst ((rowT (Str.ofString "shades" :: so) :: (ns.take i).map (bthT so (lkB ss bs))).map V.str)))
      ⟨none, rfl, hide_sub, hGl⟩ (fun _ _ _ _ ⟨_, _, h, _⟩ => h) ?_ ?_
    · rintro i y σ H' hi hy ⟨o, rfl, hS, hHl⟩
      rw [List.getElem?_map] at hy
      obtain ⟨n, hn, rfl⟩ := Option.map_eq_some_iff.mp hy
      rw [List.length_map] at hi
      obtain ⟨b, hb, rfl⟩ := List.mem_map.mp (hnp.mem_iff.mp (List.mem_of_getElem? hn))
      have SH := hbl.trans hS
      walk_at "dm"
      refine ⟨.inl ⟨rfl, _, SqL.of hHl⟩, by omega, fun p hp => ?_⟩
      have Sa : Same H' (upd H' p (.lst [V.str (Str.ofString "bath"), V.str b.1])) := Same.updN hp
      refine ⟨dx, _, Sa _ _ (SH _ _ h1), lk_other (by decide +kernel) (by decide +kernel), x, ss, bs, b, rfl, Same.book (SH.trans Sa) hbk0, B, hb, fun lt so2 hlt hp2 hs2 => ?_⟩
      have e2 : so2 = so := sorted_uniq hs2 hso (hp2.trans hpm.symm)
      subst e2
      have hpl : p ≠ lt := fun e => by rw [← e, upd_same] at hlt; cases hlt
      refine cat_use (by rw [upd_ne hpl]; exact upd_same) upd_same (by rw [List.length_map, List.length_map]; show 2 + _ ≤ _; omega) fun p2 hp2' => ?_
      have Sb := Sa.step (o := .lst ((so2.map (lkV ss b)).map V.str)) (Sa.free hlt)
      have Sc := Sb.step (o := .lst ([V.str (Str.ofString "bath"), V.str b.1] ++ (so2.map (lkV ss b)).map V.str)) (Sb.free hp2')
      have hll : (hide G l) l = none := by unfold hide; rw [if_pos rfl]
      refine ⟨p2, Str.ofString "bath" :: b.1 :: so2.map (lkV ss b), rfl, SqL.of upd_same, few_bth B hpm hb, _, Sc _ _ hHl, ?_, (hS.trans Sc).step hll, ?_⟩
      · rw [List.length_map, List.length_cons, List.length_map, List.length_take]; omega
      · rw [upd_same, take_snoc hn, List.map_append, List.map_cons, List.map_cons, List.map_append]
        unfold bthT
        rw [map_congr' (f := lkV ss b) (g := lkB ss bs b.1) hpm fun z _ => (lkB_eq z B.bnd hb).symm]
        rfl
    · rintro σ H' ⟨o, rfl, hS, hHl⟩
      rw [List.length_map, List.take_of_length_le (Nat.le_refl _)] at hHl
      walk_at "dm"
      have hbt : ∀ z ∈ rowT (Str.ofString "shades" :: so) :: ns.map (bthT so (lkB ss bs)), z.length ≤ 181 := fun z hz => by
        rcases List.mem_cons.mp hz with rfl | hz
        · exact rowT_len (few_sh B hpm)
        · obtain ⟨n, hn, rfl⟩ := List.mem_map.mp hz
          obtain ⟨b, hb, rfl⟩ := List.mem_map.mp (hnp.mem_iff.mp hn)
          unfold bthT
          rw [← map_congr' (f := lkV ss b) (g := lkB ss bs b.1) hpm fun z _ => (lkB_eq z B.bnd hb).symm]
          exact rowT_len (few_bth B hpm hb)
      refine ⟨rfl, _, SqL.of hHl, ?_, ?_⟩
      · have e0 : (Str.ofString "").length = 0 := by decide +kernel
        have hsum : ∀ l : List Str, (∀ z ∈ l, z.length ≤ 181) → (l.map (·.length)).sum ≤ 181 * l.length := by
          intro l
          induction l with
          | nil => intro _; exact Nat.le_refl _
          | cons a r ih =>
            intro h
            have h1 := h a List.mem_cons_self
            have h2 := ih fun x hx => h x (List.mem_cons_of_mem _ hx)
            rw [List.map_cons, List.sum_cons, List.length_cons]
            omega
        have := hsum _ hbt
        rw [List.length_cons, List.length_map] at this
        rw [e0]
        omega
      · rw [join_nil_fold]
        exact q H' so ns (hbl.trans hS) hpm hso hnp hns
def spText (K : PySem.W.Frag) : Sp := fun vs H Q _ => ∃ (lo d : Addr) (ss so ns : List Str) (bs : List (Str × List Str)) (lk : Str → Str → Str), vs = [.ref lo, .ref d] ∧ BookIn ss bs ∧ H lo = some (.lst (so.map V.str)) ∧ so.Perm ss ∧
  TabG H d ss ns lk ∧ ns.Perm (bs.map (·.1)) ∧ (∀ b ∈ bs, ∀ z ∈ ss, lk b.1 z = lkV ss b z) ∧ ∀ H' ns', Same H H' → ns'.Perm ns → PyProof.Rows.sortedS ns' = true → Q (.str (bookT so ns' lk)) H'
theorem scText : FnScope ["_law_order", "_law_tables_here", "_law_told", "_law_bath"] ["_law_order", "_law_tables_here"] (defScope sText) := ⟨rfl, rfl, rfl, by decide +kernel, rfl, by decide +kernel, by decide +kernel⟩
theorem ok_text {f : Addr} {fd : FuncData} (F : Fun K "_law_text" "_law_text" sText f fd) (T : Txt mg) : FnOk P w K mg base CX0 1 f fd ["_law_order", "_law_tables_here"] (spText K) := by
  refine F.ok scText (fun vs H Q E h => ?_) (fun cdv A outer s H vs Q E hr h => ?_)
  · obtain ⟨_, _, _, _, _, _, _, rfl, _⟩ := h
    rfl
  · obtain ⟨lo, d, ss, so, ns, bs, lk, rfl, B, hlo, hpm, hG, hns, hlk, q⟩ := h
    have hu : (cxOf CX0 P w K mg base ["_law_order", "_law_tables_here", "_law_told", "_law_bath"] "_law_text" (defScope sText) f cdv A outer s H E).A.units + 1 < cLine := by
      have := hr.units
      exact Nat.lt_of_le_of_lt (Nat.add_le_add_left (by decide) _) this
    refine ⟨_, pss_cut (ps_set (i := 2) scText.nd rfl (Or.inl rfl) (pe_op op_add_str (pe_bm PySem.F.plainAttrs_str PySem.F.slot_str_join PySem.F.type_str_join mt_join pe_str (pa_cons (pe_op op_cat (pe_lst (pa_cons pe_str pa_nil)) (pv 0)) pa_nil)) pe_str))
      (pss_cons (ps_for PassesOwn.never rfl (pi_list (pe_callB (call_sortedD rfl) (by rfl) T.sorted (by decide +kernel) (pa_cons (pv 1) pa_nil))) (pg_name (i := 3) scText.nd rfl (Or.inr rfl))
        (pss_one (ps_set (i := 2) scText.nd rfl (Or.inl rfl) (pe_op op_add_str (pe_op op_add_str (pv 2) (pe_bm PySem.F.plainAttrs_str PySem.F.slot_str_join PySem.F.type_str_join mt_join pe_str (pa_cons (pe_op op_cat (pe_lst (pa_cons pe_str (pa_cons (pv 3) pa_nil)))
          (pe_comp (N' := ["_law_shade", "_law_tables_here", "_law_bath"]) (pk := [none, some 1, some 3]) rfl (BlkOk.of (by rfl)) (pi_list (pv 0)) (fun s H ex => pg_name (i := 0) (by show (["_law_shade", "_law_tables_here", "_law_bath"] : List Str).Nodup; decide +kernel) rfl (Or.inl rfl))
          (fun s H ex => pe_dget hu (pe_dget hu (pv 1) (pv 2) (fun _ _ => rfl)) (pv 0) (fun _ _ => rfl)))) pa_nil))) pe_str))))
      (pss_one (ps_ret (pv 2)))), ?_⟩
    have hs := sz1000
    have hs12 := B.s12
    have hb8 := B.b8
    have hsl : so.length = ss.length := hpm.length_eq
    have hnl : ns.length = bs.length := by rw [hns.length_eq, List.length_map]
    refine cut (fun σ' H' => σ' = [some (.ref lo), some (.ref d), some (.str (rowT (Str.ofString "shades" :: so))), none] ∧ Same H H') ?_ ?_
    · walk_at "dm"
      refine ⟨rfl, by omega, fun p hp => ?_⟩
      have Sa : Same H (upd H p (.lst [V.str (Str.ofString "shades")])) := Same.updN hp
      refine cat_use upd_same (Sa _ _ hlo) (by rw [List.length_map]; show 1 + _ ≤ _; omega) fun p2 hp2 => ?_
      have hf := few_sh B hpm
      have hl := rowT_len hf
      unfold rowT at hl
      rw [app_len] at hl
      exact ⟨p2, rfl, Str.ofString "shades" :: so, SqL.of upd_same, few_ok hf, by omega, rfl, Sa.step (Sa.free hp2)⟩
    rintro σ1 H1 ⟨rfl, S1⟩
    have hGR := hG
    obtain ⟨kvs, hR, hkeys, htab⟩ := hGR
    walk_at "dm"
    refine ⟨ns, kvs, Same.rd S1 hR, hkeys, by omega, fun lb ns2 hlb hpp hs4 => ?_⟩
    have S2 : Same H1 (upd H1 lb (.lst (ns2.map V.str))) := Same.updN hlb
    generalize hGG : upd H1 lb (.lst (ns2.map V.str)) = G at S2
    have hGb : G lb = some (.lst (ns2.map V.str)) := by rw [← hGG]; exact upd_same
    have SG := S1.trans S2
    refine ⟨⟨_, SqL.of hGb⟩, ?_⟩
    refine for_steady (H0 := G) (steady_list (SqL.of hGb)) (fun i σ' H' => ∃ o, σ' = [some (.ref lo), some (.ref d), some (.str (bookT so (ns2.take i) lk)), o] ∧ Same G H')
      ⟨none, rfl, Same.refl _⟩ (fun _ _ _ _ ⟨_, _, h⟩ => h) ?_ ?_
    · rintro i y σ H' hi hy ⟨o, rfl, hS⟩
      rw [List.getElem?_map] at hy
      obtain ⟨n, hn, rfl⟩ := Option.map_eq_some_iff.mp hy
      rw [List.length_map] at hi
      have hnn : n ∈ ns := hpp.mem_iff.mp (List.mem_of_getElem? hn)
      obtain ⟨b, hb, rfl⟩ := List.mem_map.mp (hns.mem_iff.mp hnn)
      have SH := SG.trans hS
      walk_at "dm"
      refine ⟨rfl, by omega, fun p hp => ?_⟩
      have Sa : Same H' (upd H' p (.lst [V.str (Str.ofString "bath"), V.str b.1])) := Same.updN hp
      generalize hG2 : upd H' p (.lst [V.str (Str.ofString "bath"), V.str b.1]) = G2 at Sa
      have hG2p : G2 p = some (.lst [V.str (Str.ofString "bath"), V.str b.1]) := by rw [← hG2]; exact upd_same
      have SH2 := SH.trans Sa
      have hlo2 : SqL K G2 lo (so.map V.str) := SqL.of (SH2 _ _ hlo)
      refine ⟨⟨_, hlo2⟩, fun D hD => ?_⟩
      refine comp_pure (steady_list hlo2) (by rw [List.length_map]; omega) hD (fun σ => ∃ o, σ = [o, some (.ref d), some (.str b.1)]) (fun k => V.str (lk b.1 (so.getD k ⟨#[]⟩))) ⟨none, rfl⟩ ?_ ?_
      · rintro k y σ' H3 hk2 hy ⟨o, rfl⟩ hS3 R hR
        rw [List.getElem?_map] at hy
        obtain ⟨z, hz, rfl⟩ := Option.map_eq_some_iff.mp hy
        have hzs : z ∈ ss := hpm.mem_iff.mp (List.mem_of_getElem? hz)
        obtain ⟨r, hg1, hg2⟩ := (Fz.tabG (Same.fz (SH2.trans hS3)) hG).get hnn hzs
        walk_at "dm"
        refine ⟨_, hg1, r, rfl, _, hg2, ?_⟩
        have e : so.getD k ⟨#[]⟩ = z := by rw [List.getD_eq_getElem?_getD, hz]; rfl
        have := hR [some (V.str z), some (V.ref d), some (V.str b.1)] ⟨_, rfl⟩
        rw [e] at this
        exact this
      · have e : (List.range (so.map V.str).length).map (fun k => V.str (lk b.1 (so.getD k ⟨#[]⟩))) = (so.map (lk b.1)).map V.str := by
          rw [List.map_map]
          refine map_range _ so _ _ (by rw [List.length_map]) fun k y hy => ?_
          rw [List.getD_eq_getElem?_getD, hy]
          rfl
        rw [e]
        have hDp : p ≠ D := fun e => by rw [← e, hG2p] at hD; cases hD
        refine cat_use (by rw [upd_ne hDp]; exact hG2p) upd_same (by rw [List.length_map, List.length_map]; show 2 + _ ≤ _; omega) fun p2 hp2 => ?_
        have Sb : Same G2 (upd G2 D (.lst ((so.map (lk b.1)).map V.str))) := Same.updN hD
        have hf : Few (Str.ofString "bath" :: b.1 :: so.map (lk b.1)) := by
          rw [map_congr' (f := lk b.1) (g := lkV ss b) hpm (hlk b hb)]
          exact few_bth B hpm hb
        have hl := rowT_len hf
        unfold rowT at hl
        rw [app_len] at hl
        have hbt : ∀ z ∈ (ns2.take i).map (bthT so lk), z.length ≤ 181 := fun z hz => by
          obtain ⟨n, hn, rfl⟩ := List.mem_map.mp hz
          obtain ⟨b', hb', rfl⟩ := List.mem_map.mp (hns.mem_iff.mp (hpp.mem_iff.mp (List.mem_of_mem_take hn)))
          unfold bthT
          rw [map_congr' (f := lk b'.1) (g := lkV ss b') hpm (hlk b' hb')]
          exact rowT_len (few_bth B hpm hb')
        have hlen := fold_len _ hbt (rowT (Str.ofString "shades" :: so))
        have hl0 := rowT_len (few_sh B hpm)
        have hns2 : ns2.length = ns.length := hpp.length_eq
        rw [List.length_map, List.length_take] at hlen
        have hlen2 : (bookT so (ns2.take i) lk).length ≤ 1900 := by unfold bookT; omega
        have hsz : (4000 : Nat) ≤ sizeLine := by rw [sizeLine_eq]; decide
        refine ⟨p2, rfl, Str.ofString "bath" :: b.1 :: so.map (lk b.1), SqL.of upd_same, few_ok hf, by omega, by rw [app_len]; omega, ?_, (hS.trans Sa).trans (Sb.step (Sb.free hp2))⟩
        rw [take_snoc hn]
        unfold bookT bthT rowT
        rw [List.map_append, List.foldl_append, app_assoc]
        rfl
    · rintro σ H' ⟨o, rfl, hS⟩
      rw [List.length_map, List.take_of_length_le (Nat.le_refl _)]
      walk_at "dm"
      exact q H' ns2 (SG.trans hS) hpp hs4
end

section
variable {P : Program} {w : World} {K : PySem.W.Frag} {mg : Str → Option Value} {base : Heap}
theorem glue_pre (z : Str) : ∀ (r : List Str) (u v : Array Nat), r.foldl (fun acc p => acc ++ z.cps ++ p.cps) (u ++ v) = u ++ r.foldl (fun acc p => acc ++ z.cps ++ p.cps) v
  | [], _, _ => rfl
  | p :: r, u, v => by
    rw [List.foldl_cons, List.foldl_cons, Array.append_assoc, Array.append_assoc, glue_pre z r u, Array.append_assoc]
theorem join_app (z u v : Str) (L : List Str) : Txt.join z ((u ++ v) :: L) = u ++ Txt.join z (v :: L) := str_ext (by
  show (L.foldl (fun acc p => acc ++ z.cps ++ p.cps) (u.cps ++ v.cps)).toList = (u.cps ++ L.foldl (fun acc p => acc ++ z.cps ++ p.cps) v.cps).toList
  rw [glue_pre])
theorem join_cc (z a b : Str) (r : List Str) : Txt.join z (a :: b :: r) = a ++ z ++ Txt.join z (b :: r) := by
  rw [← join_app]
  rfl
theorem join_1 (z a : Str) : Txt.join z [a] = a := rfl
theorem tl_app (a b : Str) : (a ++ b).cps.toList = a.cps.toList ++ b.cps.toList := by
  show (a.cps ++ b.cps).toList = _
  rw [Array.toList_append]
def jl (c : Nat) : List (List Nat) → List Nat
  | [] => []
  | [a] => a
  | a :: b :: r => a ++ c :: jl c (b :: r)
theorem jl_txt (c : Nat) : ∀ ws : List Str, ws ≠ [] → (Txt.join ⟨#[c]⟩ ws).cps.toList = jl c (ws.map (·.cps.toList))
  | [], h => absurd rfl h
  | [a], _ => rfl
  | a :: b :: r, _ => by
    rw [join_cc, tl_app, tl_app, jl_txt c (b :: r) (by simp), List.append_assoc]
    rfl
theorem jl_str (c : Nat) : ∀ ws : List Str, ws ≠ [] → (Str.join ⟨#[c]⟩ ws).cps.toList = jl c (ws.map (·.cps.toList))
  | [], h => absurd rfl h
  | [a], _ => by rw [PyProof.Rows.join_one]; rfl
  | a :: b :: r, _ => by
    rw [PyProof.Rows.join_cons_cons, tl_app, tl_app, jl_str c (b :: r) (by simp), List.append_assoc]
    rfl
theorem cut_one {c : Nat} : ∀ {a b X Y : List Nat}, c ∉ a → c ∉ b → a ++ c :: X = b ++ c :: Y → a = b ∧ X = Y
  | [], [], X, Y, _, _, h => ⟨rfl, (List.cons.inj h).2⟩
  | [], y :: b, X, Y, _, hb, h => absurd ((List.cons.inj h).1 ▸ List.mem_cons_self) hb
  | x :: a, [], X, Y, ha, _, h => absurd ((List.cons.inj h).1 ▸ List.mem_cons_self) ha
  | x :: a, y :: b, X, Y, ha, hb, h => by
    obtain ⟨e1, e2⟩ := List.cons.inj h
    obtain ⟨e3, e4⟩ := cut_one (fun m => ha (List.mem_cons_of_mem _ m)) (fun m => hb (List.mem_cons_of_mem _ m)) e2
    exact ⟨by rw [e1, e3], e4⟩
theorem jl_inj {c : Nat} : ∀ {as bs : List (List Nat)}, as ≠ [] → bs ≠ [] → (∀ a ∈ as, c ∉ a) → (∀ b ∈ bs, c ∉ b) → jl c as = jl c bs → as = bs
  | [], _, h, _, _, _, _ => absurd rfl h
  | _, [], _, h, _, _, _ => absurd rfl h
  | [a], [b], _, _, _, _, h => by rw [show a = b from h]
  | [a], b :: b2 :: r, _, _, ha, _, h => absurd (by rw [show a = b ++ c :: jl c (b2 :: r) from h]; simp) (ha a List.mem_cons_self)
  | a :: a2 :: r, [b], _, _, _, hb, h => absurd (by rw [← show a ++ c :: jl c (a2 :: r) = b from h]; simp) (hb b List.mem_cons_self)
  | a :: a2 :: r, b :: b2 :: r', _, _, ha, hb, h => by
    obtain ⟨e1, e2⟩ := cut_one (ha a List.mem_cons_self) (hb b List.mem_cons_self) (show a ++ c :: jl c (a2 :: r) = b ++ c :: jl c (b2 :: r') from h)
    rw [e1, jl_inj (by simp) (by simp) (fun x hx => ha x (List.mem_cons_of_mem _ hx)) (fun x hx => hb x (List.mem_cons_of_mem _ hx)) e2]
theorem map_tl_inj : ∀ {as bs : List Str}, as.map (·.cps.toList) = bs.map (·.cps.toList) → as = bs
  | [], [], _ => rfl
  | a :: as, b :: bs, h => by
    rw [List.map_cons, List.map_cons] at h
    obtain ⟨e1, e2⟩ := List.cons.inj h
    rw [str_ext e1, map_tl_inj e2]
theorem split_join {c : Nat} {ws : List Str} (hne : ws ≠ []) (hf : ∀ w ∈ ws, c ∉ w.cps.toList) : Txt.split (Txt.join ⟨#[c]⟩ ws) ⟨#[c]⟩ = ws := by
  have h1 := StrLaws.join_split (Txt.join ⟨#[c]⟩ ws) ⟨#[c]⟩
  have hp := PyProof.Rows.split_pos (Txt.join ⟨#[c]⟩ ws) ⟨#[c]⟩
  have hfr := StrLaws.split_free (Txt.join ⟨#[c]⟩ ws) c
  generalize Txt.split (Txt.join ⟨#[c]⟩ ws) ⟨#[c]⟩ = P at h1 hp hfr
  have hP : P ≠ [] := fun e => by rw [e] at hp; simp at hp
  have h2 := congrArg (·.cps.toList) h1
  have h3 : jl c (P.map (·.cps.toList)) = jl c (ws.map (·.cps.toList)) := by rw [← jl_str c P hP, ← jl_txt c ws hne]; exact h2
  refine map_tl_inj (jl_inj (by simpa using hP) (by simpa using hne) ?_ ?_ h3)
  · intro a ha
    obtain ⟨p, hp, rfl⟩ := List.mem_map.mp ha
    exact hfr p hp
  · intro a ha
    obtain ⟨p, hp, rfl⟩ := List.mem_map.mp ha
    exact hf p hp
theorem sep_b : (Str.ofString " ") = ⟨#[32]⟩ := by decide +kernel
theorem sep_n : (Str.ofString "\n") = ⟨#[10]⟩ := by decide +kernel
def cont (so : List Str) (lk : Str → Str → Str) (n : Str) : Str := Txt.join (Str.ofString " ") (Str.ofString "bath" :: n :: so.map (lk n))
def partsT (so ns : List Str) (lk : Str → Str → Str) : List Str := Txt.join (Str.ofString " ") (Str.ofString "shades" :: so) :: ns.map (cont so lk) ++ [Str.ofString ""]
theorem fold_join : ∀ (rest : List Str) (acc : Str), (rest.map (· ++ Str.ofString "\n")).foldl (· ++ ·) (acc ++ Str.ofString "\n") = Txt.join (Str.ofString "\n") (acc :: rest ++ [Str.ofString ""])
  | [], acc => by
    show acc ++ Str.ofString "\n" = Txt.join (Str.ofString "\n") (acc :: [Str.ofString ""])
    rw [join_cc, join_1]
    exact str_ext (by rw [tl_app (acc ++ Str.ofString "\n"), show (Str.ofString "").cps.toList = [] by decide +kernel, List.append_nil])
  | r :: rest, acc => by
    rw [List.map_cons, List.foldl_cons, ← app_assoc, fold_join rest (acc ++ Str.ofString "\n" ++ r)]
    show Txt.join (Str.ofString "\n") ((acc ++ Str.ofString "\n" ++ r) :: (rest ++ [Str.ofString ""])) = Txt.join (Str.ofString "\n") (acc :: r :: (rest ++ [Str.ofString ""]))
    rw [join_app, join_cc]
theorem bookT_parts (so ns : List Str) (lk : Str → Str → Str) : bookT so ns lk = Txt.join (Str.ofString "\n") (partsT so ns lk) := by
  unfold bookT partsT
  rw [← fold_join]
  show (ns.map (bthT so lk)).foldl (· ++ ·) _ = _
  rw [List.map_map]
  rfl
theorem good_no {z : Str} (h : goodB z = true) {c : Nat} (hc : inL c = false) : c ∉ z.cps.toList := fun hm => by
  unfold goodB at h
  rw [Bool.and_eq_true] at h
  have := List.all_eq_true.mp h.2 c hm
  rw [hc] at this
  cases this
theorem no32 : inL 32 = false := by decide +kernel
theorem no10 : inL 10 = false := by decide +kernel
theorem mem_join {c d : Nat} : ∀ ws : List Str, (∀ w ∈ ws, d ∉ w.cps.toList) → d ≠ c → d ∉ (Txt.join ⟨#[c]⟩ ws).cps.toList
  | [], _, _ => by show d ∉ []; exact List.not_mem_nil
  | [a], h, _ => h a List.mem_cons_self
  | a :: b :: r, h, hd => by
    rw [join_cc, tl_app, tl_app]
    intro hm
    rcases List.mem_append.mp hm with hm | hm
    · rcases List.mem_append.mp hm with hm | hm
      · exact h a List.mem_cons_self hm
      · exact hd (List.mem_singleton.mp hm)
    · exact mem_join (b :: r) (fun w hw => h w (List.mem_cons_of_mem _ hw)) hd hm
end

section
variable {P : Program} {w : World} {K : PySem.W.Frag} {mg : Str → Option Value} {base : Heap}
theorem cut_drop {xs : List V} {k : Nat} (h : k ≤ xs.length) : cutV xs (some (k : Int)) none = xs.drop k := by
  unfold cutV
  rw [HT.sIx_nat, HT.sIx_none, Nat.min_eq_left h]
  exact List.take_of_length_le (by rw [List.length_drop]; exact Nat.le_refl _)
theorem cut_mid {xs : List V} (h : 2 ≤ xs.length) : cutV xs (some (1 : Int)) (some (-1 : Int)) = (xs.drop 1).take (xs.length - 2) := by
  unfold cutV
  have e1 : HT.sIx xs.length 0 (some (1 : Int)) = 1 := by
    have := HT.sIx_nat xs.length 0 1
    rw [Nat.min_eq_left (by omega)] at this
    exact this
  have e2 : HT.sIx xs.length xs.length (some (-1 : Int)) = xs.length - 1 := by
    unfold HT.sIx
    show (if (-1 : Int) < 0 then _ else _) = _
    rw [if_pos (by decide)]
    omega
  rw [e1, e2, Nat.sub_sub]
def spBathOf (K : PySem.W.Frag) : Sp := fun vs H Q _ => ∃ (l : Addr) (w0 n : Str) (outs : List Str), vs = [.ref l] ∧ SqL K H l ((w0 :: n :: outs).map V.str) ∧ outs.length ≤ 900 ∧
  ∀ (lo t : Addr) H', Same H H' → H lo = none → H t = none → H' t = some (.tup [.str n, .ref lo]) → H' lo = some (.lst (outs.map V.str)) → Q (.ref t) H'
theorem scBathOf : FnScope ["words"] ["words"] (defScope sBathOf) := ⟨rfl, rfl, rfl, by decide +kernel, rfl, by decide +kernel, by decide +kernel⟩
theorem ok_bathof {f : Addr} {fd : FuncData} (F : Fun K "bath_of" "bath_of" sBathOf f fd) (T : Txt mg) : FnOk P w K mg base CX0 1 f fd ["words"] (spBathOf K) := by
  refine F.ok scBathOf (fun vs H Q E h => ?_) (fun cdv A outer s H vs Q E hr h => ?_)
  · obtain ⟨_, _, _, _, rfl, _⟩ := h
    rfl
  · obtain ⟨l, w0, n, outs, rfl, hl, hlen, q⟩ := h
    refine ⟨_, pss_cons (ps_if (pt_cmpR op_lt (pe_callB call_len_seq (by rfl) T.len PySem.boot_len (pa_cons (pv 0) pa_nil)) pe_int (nomark _)) pss_never pss_nil)
      (pss_one (ps_ret (pe_tup (pa_cons (pe_ix ix_list (pv 0) pe_int (fun _ _ => rfl)) (pa_cons (pe_slice sl_list (pv 0) (po_some pe_int) po_none) pa_nil))))), ?_⟩
    have hs := sz1000
    have e1 : atI ((w0 :: n :: outs).map V.str) ((1 : Nat) : Int) = some (V.str n) := atI_str rfl
    walk_at "dm"
    refine ⟨_, .inl hl, ?_⟩
    rw [List.length_map, List.length_cons, List.length_cons]
    refine ite2 (fun h => absurd h (by omega)) (fun _ => ⟨_, hl, V.str n, e1, _, hl, fun lo hlo => ⟨by omega, fun t ht => ?_⟩⟩)
    have ec : cutV ((w0 :: n :: outs).map V.str) (some 2) none = outs.map V.str := cut_drop (k := 2) (by rw [List.length_map, List.length_cons, List.length_cons]; omega)
    have Sa : Same H (upd H lo (.lst (cutV ((w0 :: n :: outs).map V.str) (some 2) none))) := Same.updN hlo
    have hlt : lo ≠ t := fun e => by rw [← e, upd_same] at ht; cases ht
    exact q lo t _ (Sa.step (Sa.free ht)) hlo (Sa.free ht) upd_same (by rw [upd_ne hlt, upd_same, ec])
def bsR (so ns : List Str) (lk : Str → Str → Str) : List (Str × List Str) := ns.map fun n => (n, so.map (lk n))
theorem bsR_keys (so ns : List Str) (lk : Str → Str → Str) : (bsR so ns lk).map (·.1) = ns := by
  unfold bsR
  rw [List.map_map]
  exact List.map_id ns
def rowsW (so ns : List Str) (lk : Str → Str → Str) : List (List Str) := (Str.ofString "shades" :: so) :: ns.map (fun n => Str.ofString "bath" :: n :: so.map (lk n)) ++ [[Str.ofString ""]]
theorem no_of_few {ws : List Str} {c : Nat} (h : ∀ x ∈ ws, goodB x = true) (hc : inL c = false) : ∀ x ∈ ws, c ∉ x.cps.toList := fun x hx => good_no (h x hx) hc
theorem all_cons {ws : List Str} {a : Str} (ha : goodB a = true) (h : ∀ x ∈ ws, goodB x = true) : ∀ x ∈ a :: ws, goodB x = true := fun x hx => by
  rcases List.mem_cons.mp hx with rfl | hx
  · exact ha
  · exact h x hx
theorem good_sh : goodB (Str.ofString "shades") = true := by decide +kernel
theorem good_ba : goodB (Str.ofString "bath") = true := by decide +kernel
theorem rowW_good {so ns : List Str} {lk : Str → Str → Str} (B : BookIn so (bsR so ns lk)) : (∀ x ∈ Str.ofString "shades" :: so, goodB x = true) ∧ ∀ n ∈ ns, ∀ x ∈ Str.ofString "bath" :: n :: so.map (lk n), goodB x = true := by
  refine ⟨all_cons good_sh B.snm, fun n hn => ?_⟩
  have hb : (n, so.map (lk n)) ∈ bsR so ns lk := List.mem_map.mpr ⟨n, hn, rfl⟩
  refine all_cons good_ba (all_cons (B.bnm _ hb) fun x hx => ?_)
  exact B.snm x (B.bin _ hb x hx)
theorem split_row {ws : List Str} (hne : ws ≠ []) (h : ∀ x ∈ ws, goodB x = true) : Txt.split (Txt.join (Str.ofString " ") ws) (Str.ofString " ") = ws := by
  rw [sep_b]
  exact split_join hne (no_of_few h no32)
theorem split_empty : Txt.split (Str.ofString "") (Str.ofString " ") = [Str.ofString ""] := by
  rw [sep_b]
  refine split_join (c := 32) (ws := [Str.ofString ""]) (by simp) fun w hw => ?_
  rw [List.mem_singleton.mp hw, show (Str.ofString "").cps.toList = [] by decide +kernel]
  exact List.not_mem_nil
theorem split_text {so ns : List Str} {lk : Str → Str → Str} (B : BookIn so (bsR so ns lk)) : Txt.split (bookT so ns lk) (Str.ofString "\n") = partsT so ns lk := by
  rw [bookT_parts, sep_n]
  have hg := rowW_good B
  refine split_join (by unfold partsT; simp) fun w hw => ?_
  unfold partsT at hw
  rcases List.mem_append.mp hw with hw | hw
  · rcases List.mem_cons.mp hw with rfl | hw
    · rw [sep_b]; exact mem_join _ (no_of_few hg.1 no10) (by decide)
    · obtain ⟨n, hn, rfl⟩ := List.mem_map.mp hw
      unfold cont
      rw [sep_b]; exact mem_join _ (no_of_few (hg.2 n hn) no10) (by decide)
  · rw [List.mem_singleton.mp hw, show (Str.ofString "").cps.toList = [] by decide +kernel]
    exact List.not_mem_nil
theorem parts_rows {so ns : List Str} {lk : Str → Str → Str} (B : BookIn so (bsR so ns lk)) : (partsT so ns lk).map (fun p => Txt.split p (Str.ofString " ")) = rowsW so ns lk := by
  have hg := rowW_good B
  unfold partsT rowsW
  rw [List.map_append, List.map_cons, List.map_map, split_row (by simp) hg.1]
  have e : ns.map ((fun p => Txt.split p (Str.ofString " ")) ∘ cont so lk) = ns.map fun n => Str.ofString "bath" :: n :: so.map (lk n) := List.map_congr_left fun n hn => split_row (by simp) (hg.2 n hn)
  rw [e]
  show _ ++ [Txt.split (Str.ofString "") (Str.ofString " ")] = _
  rw [split_empty]
theorem lkV_R {so : List Str} {n z : Str} {lk : Str → Str → Str} (hd : so.Nodup) (hz : z ∈ so) : lkV so (n, so.map (lk n)) z = lk n z := by
  obtain ⟨i, hi⟩ := List.getElem?_of_mem hz
  have e : valV (tabV so (n, so.map (lk n))) (Sum.inr z) = some (V.str (lk n z)) := valV_zip so ((so.map (lk n)).map V.str) i z _ hd hi (by rw [List.getElem?_map, List.getElem?_map, hi]; rfl)
  unfold lkV
  rw [e]
theorem lkB_R {so ns : List Str} {n z : Str} {lk : Str → Str → Str} (B : BookIn so (bsR so ns lk)) (hn : n ∈ ns) (hz : z ∈ so) : lkB so (bsR so ns lk) n z = lk n z := by
  have hb : (n, so.map (lk n)) ∈ bsR so ns lk := List.mem_map.mpr ⟨n, hn, rfl⟩
  have := lkB_eq (ss := so) z B.bnd hb
  rw [lkV_R B.snd hz] at this
  exact this
theorem bookT_R {so ns : List Str} {lk : Str → Str → Str} (B : BookIn so (bsR so ns lk)) : bookT so ns (lkB so (bsR so ns lk)) = bookT so ns lk := by
  unfold bookT
  have e : ns.map (bthT so (lkB so (bsR so ns lk))) = ns.map (bthT so lk) := List.map_congr_left fun n hn => by
    unfold bthT
    rw [List.map_congr_left (f := lkB so (bsR so ns lk) n) (g := lk n) fun z hz => lkB_R B hn hz]
  rw [e]
theorem bsR_in {ss so ns : List Str} {bs : List (Str × List Str)} (B : BookIn ss bs) (hpm : so.Perm ss) (hnp : ns.Perm (bs.map (·.1))) : BookIn so (bsR so ns (lkB ss bs)) := by
  have hl := hpm.length_eq
  have key : ∀ b ∈ bsR so ns (lkB ss bs), ∃ b' ∈ bs, b.1 = b'.1 ∧ b.2 = so.map (lkB ss bs b'.1) := fun b hb => by
    obtain ⟨n, hn, rfl⟩ := List.mem_map.mp hb
    obtain ⟨b', hb', rfl⟩ := List.mem_map.mp (hnp.mem_iff.mp hn)
    exact ⟨b', hb', rfl, rfl⟩
  refine ⟨by rw [hl]; exact B.s1, by rw [hl]; exact B.s12, hpm.nodup_iff.mpr B.snd, fun x hx => B.snm x (hpm.mem_iff.mp hx), fun x hx => B.snw x (hpm.mem_iff.mp hx), ?_, ?_, ?_, ?_, ?_, ?_⟩
  · have := hnp.length_eq
    rw [List.length_map] at this
    unfold bsR
    rw [List.length_map, this]; exact B.b8
  · rw [bsR_keys]; exact hnp.nodup_iff.mpr B.bnd
  · intro b hb
    obtain ⟨b', hb', e1, e2⟩ := key b hb
    rw [e1]; exact B.bnm b' hb'
  · intro b hb
    obtain ⟨b', hb', e1, e2⟩ := key b hb
    rw [e1]; exact B.bnw b' hb'
  · intro b hb
    obtain ⟨b', hb', e1, e2⟩ := key b hb
    rw [e2, List.length_map]
  · intro b hb x hx
    obtain ⟨b', hb', e1, e2⟩ := key b hb
    rw [e2] at hx
    obtain ⟨z, hz, rfl⟩ := List.mem_map.mp hx
    rw [lkB_eq z B.bnd hb']
    exact hpm.mem_iff.mpr (lkV_mem B hb' (hpm.mem_iff.mp hz))
end

section
variable {P : Program} {w : World} {K : PySem.W.Frag} {mg : Str → Option Value} {base : Heap}
def RowsAt (H : Hp) (lb : Addr) (rw : List (List Str)) : Prop := ∃ ps : List Addr, H lb = some (.lst (ps.map V.ref)) ∧ ps.length = rw.length ∧ ∀ (i : Nat) p ws, ps[i]? = some p → rw[i]? = some ws → H p = some (.lst (ws.map V.str))
def spLoose (C : Addr) : Sp := fun vs H Q _ => ∃ (so ns : List Str) (lk : Str → Str → Str), vs = [.str (bookT so ns lk)] ∧ BookIn so (bsR so ns lk) ∧ ∀ x H', H x = none → Same H H' → BookAt H' C x so (bsR so ns lk) → Q (.ref x) H'
theorem scLoose : FnScope ["text", "rows", "baths", "e"] ["text"] (defScope sLoose) := ⟨rfl, rfl, rfl, by decide +kernel, rfl, by decide +kernel, by decide +kernel⟩
theorem bookT_short {so ns : List Str} {lk : Str → Str → Str} (B : BookIn so (bsR so ns lk)) : (bookT so ns lk).length ≤ 1900 := by
  have hb8 : ns.length ≤ 8 := by have := B.b8; unfold bsR at this; rw [List.length_map] at this; exact this
  have h0 := rowT_len (few_sh B (List.Perm.refl so))
  have hbt : ∀ z ∈ ns.map (bthT so lk), z.length ≤ 181 := fun z hz => by
    obtain ⟨n, hn, rfl⟩ := List.mem_map.mp hz
    have hb : (n, so.map (lk n)) ∈ bsR so ns lk := List.mem_map.mpr ⟨n, hn, rfl⟩
    have hf := few_bth B (List.Perm.refl so) hb
    rw [List.map_congr_left (f := lkV so (n, so.map (lk n))) (g := lk n) fun z hz => lkV_R B.snd hz] at hf
    exact rowT_len hf
  have := fold_len _ hbt (rowT (Str.ofString "shades" :: so))
  rw [List.length_map] at this
  unfold bookT
  omega
theorem getr_first {so ns : List Str} {lk : Str → Str → Str} : (rowsW so ns lk)[0]? = some (Str.ofString "shades" :: so) := rfl
theorem rowsW_len {so ns : List Str} {lk : Str → Str → Str} : (rowsW so ns lk).length = ns.length + 2 := by
  unfold rowsW
  rw [List.length_append, List.length_cons, List.length_map]
  rfl
theorem rowsW_bath {so ns : List Str} {lk : Str → Str → Str} {i : Nat} {n : Str} (h : ns[i]? = some n) : (rowsW so ns lk)[i + 1]? = some (Str.ofString "bath" :: n :: so.map (lk n)) := by
  have hi := (List.getElem?_eq_some_iff.mp h).1
  unfold rowsW
  rw [List.cons_append, List.getElem?_cons_succ, List.getElem?_append_left (by rw [List.length_map]; exact hi), List.getElem?_map, h]
  rfl
theorem ok_loose {C f fO fI : Addr} {fd fdO fdI : FuncData} (F : Fun K "loosely_read" "loosely_read" sLoose f fd) (T : Txt mg) (M : Mk K C fI)
    (GO : FnOk P w K mg base CX0 1 fO fdO ["words"] (spBathOf K)) (kO : PySem.W.keepIn K (.ref fO) = true) (bO : Binds K fdO ["words"] []) (mO : mg "bath_of" = some (.ref fO))
    (GI : FnOk P w K mg base CX0 4 fI fdI ["self", "shades", "baths"] (spInit K C)) (bI : Binds K fdI ["self", "shades", "baths"] []) (mC : mg "Book" = some (.ref C)) :
    FnOk P w K mg base CX0 6 f fd ["text"] (spLoose C) := by
  refine F.ok scLoose (fun vs H Q E h => ?_) (fun cdv A outer s H vs Q E hr h => ?_)
  · obtain ⟨_, _, _, rfl, _⟩ := h
    rfl
  · obtain ⟨so, ns, lk, rfl, B, q⟩ := h
    have hr1 := hr.mono (j := 1) (by omega)
    refine ⟨_, pss_cut (ps_setc (i := 1) (N' := ["row"]) (pk := [none]) scLoose.nd rfl (Or.inl rfl) rfl (BlkOk.of (by rfl)) (pi_list (pe_bm PySem.F.plainAttrs_str PySem.F.slot_str_split PySem.F.type_str_split mt_split (pv 0) (pa_cons pe_str pa_nil))) (fun s H ex => pg_name (i := 0) (by show (["row"] : List Str).Nodup; decide +kernel) rfl (Or.inl rfl))
        (fun s H ex => (pe_bm PySem.F.plainAttrs_str PySem.F.slot_str_split PySem.F.type_str_split mt_split (pv 0) (pa_cons pe_str pa_nil) : PE _ _ (tBM K "str" _ (tVar 0) (tCons (tC (.str (Str.ofString " "))) tNil)))))
      (pss_cut (ps_setc (i := 2) (N' := ["words"]) (pk := [none]) scLoose.nd rfl (Or.inl rfl) rfl (BlkOk.of (by rfl)) (pi_list (pe_slice sl_list (pv 1) (po_some pe_int) (po_some (pe_un un_neg pe_int)))) (fun s H ex => pg_name (i := 0) (by show (["words"] : List Str).Nodup; decide +kernel) rfl (Or.inl rfl))
        (fun s H ex => pe_call GO hr1 rfl mO kO bO .nil pass0 (pa_cons (pv 0) pa_nil)))
      (pss_one (ps_tryN fun pn W => pss_one (ps_ret (pe_make M GI hr rfl mC bI .nil pass0 (pa_cons (pe_slice (sl_list : SlR _ (rSlL K)) (pe_ix (ix_list : IxR _ (rIxL K)) (pv 1) pe_int (fun _ _ => rfl)) (po_some pe_int) po_none) (pa_cons (pv 2) pa_nil))))))), ?_⟩
    have hs := sz1000
    have hsz : (4000 : Nat) ≤ sizeLine := by rw [sizeLine_eq]; decide
    have hb8 : ns.length ≤ 8 := by have := B.b8; unfold bsR at this; rw [List.length_map] at this; exact this
    have hs12 := B.s12
    have hlen := bookT_short B
    have hrw := parts_rows B
    have hpl : (partsT so ns lk).length = ns.length + 2 := by
      have := congrArg List.length hrw
      rw [List.length_map, rowsW_len] at this
      exact this
    refine cut (fun σ' H' => ∃ lr, σ' = [some (.str (bookT so ns lk)), some (.ref lr), none, none] ∧ Same H H' ∧ RowsAt H' lr (rowsW so ns lk)) ?_ ?_
    · walk_at "dm"
      refine ⟨rfl, rfl, by omega, fun lo hlo => ?_⟩
      rw [split_text B]
      have Sa : Same H (upd H lo (.lst ((partsT so ns lk).map V.str))) := Same.updN hlo
      generalize hG : upd H lo (.lst ((partsT so ns lk).map V.str)) = G at Sa
      have hGl : G lo = some (.lst ((partsT so ns lk).map V.str)) := by rw [← hG]; exact upd_same
      refine ⟨⟨_, SqL.of hGl⟩, fun D hD => ?_⟩
      refine comp_by (H0 := G) (steady_list (SqL.of hGl)) (by rw [List.length_map]; omega) (fun i xs σ' H' => (∃ o, σ' = [o]) ∧ Same G H' ∧ H' D = some (.lst xs) ∧ ∃ qs : List Addr, xs = qs.map V.ref ∧ qs.length = i ∧ ∀ (j : Nat) p ws, qs[j]? = some p → (rowsW so ns lk)[j]? = some ws → hide H' D p = some (.lst (ws.map V.str)))
        ⟨⟨none, rfl⟩, Same.updN hD, upd_same, [], rfl, rfl, (by intro j p b h; simp at h)⟩ (fun i xs σ' H' ⟨_, h1, _, qs, h2, h3, _⟩ => ⟨h1, by rw [h2, List.length_map]; exact h3⟩) ?_ ?_
      · rintro i xs σ' H' x hi hx ⟨⟨o, rfl⟩, hS, hHD, qs, rfl, hql, hqB⟩ R hR
        rw [List.getElem?_map] at hx
        obtain ⟨p, hp, rfl⟩ := Option.map_eq_some_iff.mp hx
        have hwi : (rowsW so ns lk)[i]? = some (Txt.split p (Str.ofString " ")) := by rw [← hrw, List.getElem?_map, hp]; rfl
        have hpl2 : p.length ≤ (bookT so ns lk).length := by
          have := PyProof.Rows.part_short (x := bookT so ns lk) (y := Str.ofString "\n") (a := p) (by rw [split_text B]; exact List.mem_of_getElem? hp)
          exact this
        walk_at "dm"
        refine ⟨rfl, rfl, by omega, fun t ht => ?_⟩
        have htD : t ≠ D := fun e => by rw [e, hHD] at ht; cases ht
        have S4 : Same H' (upd H' t (.lst ((Txt.split p (Str.ofString " ")).map V.str))) := Same.updN ht
        refine hR _ _ _ (S4 _ _ hHD) ⟨⟨_, rfl⟩, (hS.trans S4).step hD, upd_same, qs ++ [t], by rw [List.map_append]; rfl, by rw [List.length_append, hql]; rfl, fun j p2 b2 hp2 hb2 => ?_⟩
        rw [hide_upd]
        by_cases hj : j < i
        · rw [List.getElem?_append_left (by omega)] at hp2
          exact Same.hide S4 _ _ (hqB j p2 b2 hp2 hb2)
        · have hj2 : j = i := by
            have := (List.getElem?_eq_some_iff.mp hp2).1
            rw [List.length_append, hql] at this
            simp only [List.length_singleton] at this
            omega
          subst hj2
          rw [List.getElem?_append_right (by omega), hql, Nat.sub_self] at hp2
          cases hp2
          rw [hwi] at hb2
          cases hb2
          rw [hide_at htD]; exact upd_same
      · rintro xs σ' H' ⟨_, hS, hHD, qs, rfl, hql, hqB⟩
        rw [List.length_map] at hql
        exact ⟨Sa.trans hS, qs, hHD, by rw [hql, hpl, rowsW_len], fun j p ws hp hw => hide_sub _ _ (hqB j p ws hp hw)⟩
    rintro σ1 H1 ⟨lr, rfl, S1, ps, hlr, hpsl, hP⟩
    rw [rowsW_len] at hpsl
    refine cut (fun σ' H' => ∃ lb, σ' = [some (.str (bookT so ns lk)), some (.ref lr), some (.ref lb), none] ∧ Same H1 H' ∧ Bths H' lb (bsR so ns lk)) ?_ ?_
    · walk_at "dm"
      refine ⟨_, SqL.of hlr, fun lo hlo => ?_⟩
      have ec : cutV (ps.map V.ref) (some 1) (some (-1)) = ((ps.drop 1).take ns.length).map V.ref := by
        rw [cut_mid (by rw [List.length_map]; omega), List.length_map, hpsl, List.map_take, List.map_drop]
        rfl
      rw [ec]
      have Sa : Same H1 (upd H1 lo (.lst (((ps.drop 1).take ns.length).map V.ref))) := Same.updN hlo
      generalize hG : upd H1 lo (.lst (((ps.drop 1).take ns.length).map V.ref)) = G at Sa
      have hGl : G lo = some (.lst (((ps.drop 1).take ns.length).map V.ref)) := by rw [← hG]; exact upd_same
      have htl : ((ps.drop 1).take ns.length).length = ns.length := by rw [List.length_take, List.length_drop]; omega
      refine ⟨⟨_, SqL.of hGl⟩, fun D hD => ?_⟩
      refine comp_by (H0 := G) (steady_list (SqL.of hGl)) (by rw [List.length_map]; omega) (fun i xs σ' H' => (∃ o, σ' = [o]) ∧ Same G H' ∧ H' D = some (.lst xs) ∧ ∃ qs : List Addr, xs = qs.map V.ref ∧ qs.length = i ∧ ∀ (j : Nat) p b, qs[j]? = some p → (bsR so ns lk)[j]? = some b → BthAt (hide H' D) p b)
        ⟨⟨none, rfl⟩, Same.updN hD, upd_same, [], rfl, rfl, (by intro j p b h; simp at h)⟩ (fun i xs σ' H' ⟨_, h1, _, qs, h2, h3, _⟩ => ⟨h1, by rw [h2, List.length_map]; exact h3⟩) ?_ ?_
      · rintro i xs σ' H' x hi hx ⟨⟨o, rfl⟩, hS, hHD, qs, rfl, hql, hqB⟩ R hR
        rw [List.getElem?_map] at hx
        obtain ⟨p, hp, rfl⟩ := Option.map_eq_some_iff.mp hx
        rw [List.length_map, htl] at hi
        obtain ⟨n, hn⟩ : ∃ n, ns[i]? = some n := ⟨_, List.getElem?_eq_getElem hi⟩
        have hp1 : ps[i + 1]? = some p := by
          rw [List.getElem?_take, if_pos hi, List.getElem?_drop] at hp
          rw [Nat.add_comm]; exact hp
        have hHp := (Sa.trans hS) _ _ (hP (i + 1) p _ hp1 (rowsW_bath hn))
        walk_at "dm"
        refine ⟨p, _, n, _, rfl, SqL.of hHp, by rw [List.length_map]; omega, fun l3 t H2 S4 hl3 ht h1 h2 => ?_⟩
        have hl3D : l3 ≠ D := fun e => by rw [e, hHD] at hl3; cases hl3
        have htD : t ≠ D := fun e => by rw [e, hHD] at ht; cases ht
        refine hR _ _ _ (S4 _ _ hHD) ⟨⟨_, rfl⟩, (hS.trans S4).step hD, upd_same, qs ++ [t], by rw [List.map_append]; rfl, by rw [List.length_append, hql]; rfl, fun j p2 b2 hp2 hb2 => ?_⟩
        rw [hide_upd]
        by_cases hj : j < i
        · rw [List.getElem?_append_left (by omega)] at hp2
          exact Same.bthAt (Same.hide S4) (hqB j p2 b2 hp2 hb2)
        · have hj2 : j = i := by
            have := (List.getElem?_eq_some_iff.mp hp2).1
            rw [List.length_append, hql] at this
            simp only [List.length_singleton] at this
            omega
          subst hj2
          rw [List.getElem?_append_right (by omega), hql, Nat.sub_self] at hp2
          cases hp2
          unfold bsR at hb2
          rw [List.getElem?_map, hn] at hb2
          cases hb2
          exact ⟨l3, by rw [hide_at htD]; exact h1, by rw [hide_at hl3D]; exact h2⟩
      · rintro xs σ' H' ⟨_, hS, hHD, qs, rfl, hql, hqB⟩
        rw [List.length_map, htl] at hql
        exact ⟨Sa.trans hS, qs, hHD, by unfold bsR; rw [hql, List.length_map], fun j p b hp hb => Same.bthAt hide_sub (hqB j p b hp hb)⟩
    rintro σ2 H2 ⟨lb, rfl, S2, hb⟩
    obtain ⟨p0, hp0⟩ : ∃ p, ps[0]? = some p := ⟨_, List.getElem?_eq_getElem (by omega)⟩
    have hH0 := S2 _ _ (hP 0 p0 _ hp0 getr_first)
    have e0 : atI (ps.map V.ref) ((0 : Nat) : Int) = some (V.ref p0) := atI_nat (by rw [List.getElem?_map, hp0]; rfl)
    walk_at "dm"
    refine ⟨_, SqL.of (S2 _ _ hlr), _, e0, p0, rfl, _, SqL.of hH0, fun l2 hl2 => ?_⟩
    have ec : cutV ((Str.ofString "shades" :: so).map V.str) (some 1) none = so.map V.str := cut_drop (k := 1) (by rw [List.length_map, List.length_cons]; omega)
    rw [ec]
    have Sa : Same H2 (upd H2 l2 (.lst (so.map V.str))) := Same.updN hl2
    intro x dx hx hdx hne
    have S5 : Same (upd H2 l2 (.lst (so.map V.str))) (upd (upd (upd H2 l2 (.lst (so.map V.str))) dx (.own x)) x (.ins C dx [])) := (Same.updN hdx).step hx
    have S6 : Same (upd H2 l2 (.lst (so.map V.str))) (hide (upd (upd (upd H2 l2 (.lst (so.map V.str))) dx (.own x)) x (.ins C dx [])) x) := fun y o e => by
      rw [hide_at (ne_of_none e hx)]; exact S5 y o e
    refine ⟨x, dx, l2, lb, so, bsR so ns lk, rfl, upd_same, SqL.of (S5 _ _ upd_same), Same.bths (Sa.trans S5) hb, B, fun H3 S3 hbk => ⟨rfl, ?_⟩⟩
    exact q x H3 (((S1.trans S2).trans Sa).free hx) ((((S1.trans S2).trans Sa).trans S6).trans S3) hbk
def spRead (C : Addr) : Sp := fun vs H Q _ => ∃ (so ns : List Str) (lk : Str → Str → Str), vs = [.str (bookT so ns lk)] ∧ BookIn so (bsR so ns lk) ∧ PyProof.Rows.sortedS so = true ∧ PyProof.Rows.sortedS ns = true ∧ ∀ x H', H x = none → Same H H' → BookAt H' C x so (bsR so ns lk) → Q (.ref x) H'
theorem scRead : FnScope ["text", "book"] ["text"] (defScope sRead) := ⟨rfl, rfl, rfl, by decide +kernel, rfl, by decide +kernel, by decide +kernel⟩
theorem ok_read {C f fL fW : Addr} {fd fdL fdW : FuncData} (F : Fun K "read_book" "read_book" sRead f fd)
    (GL : FnOk P w K mg base CX0 6 fL fdL ["text"] (spLoose C)) (kL : PySem.W.keepIn K (.ref fL) = true) (bL : Binds K fdL ["text"] []) (mL : mg "loosely_read" = some (.ref fL))
    (GW : FnOk P w K mg base CX0 3 fW fdW ["book"] (spWBook C)) (kW : PySem.W.keepIn K (.ref fW) = true) (bW : Binds K fdW ["book"] []) (mW : mg "write_book" = some (.ref fW)) :
    FnOk P w K mg base CX0 7 f fd ["text"] (spRead C) := by
  refine F.ok scRead (fun vs H Q E h => ?_) (fun cdv A outer s H vs Q E hr h => ?_)
  · obtain ⟨_, _, _, rfl, _⟩ := h
    rfl
  · obtain ⟨so, ns, lk, rfl, B, hso, hns, q⟩ := h
    have hr3 := hr.mono (j := 3) (by omega)
    refine ⟨_, pss_cons (ps_set (i := 1) scRead.nd rfl (Or.inl rfl) (pe_call GL hr rfl mL kL bL .nil pass0 (pa_cons (pv 0) pa_nil)))
      (pss_cons (ps_if (pt_cmpR op_ne (pe_call GW hr3 rfl mW kW bW .nil pass0 (pa_cons (pv 1) pa_nil)) (pv 0) (nomark _)) pss_never pss_nil)
      (pss_one (ps_ret (pv 1)))), ?_⟩
    walk_at "dm"
    refine ⟨so, ns, lk, rfl, B, fun x H1 hx S1 hbk => ⟨x, so, _, rfl, hbk, B, fun H2 so2 ns2 S2 h1 h2 h3 h4 => ?_⟩⟩
    rw [bsR_keys] at h3
    have e1 : so2 = so := sorted_uniq h2 hso h1
    have e2 : ns2 = ns := sorted_uniq h4 hns h3
    subst e1 e2
    rw [bookT_R B]
    exact ⟨rfl, ite2 (fun h => absurd rfl h) (fun _ => q x H2 hx (S1.trans S2) (Same.book S2 hbk))⟩
end

section
variable {P : Program} {w : World} {K : PySem.W.Frag} {mg : Str → Option Value} {base : Heap}
def spBCheckX (C cN : Addr) : Sp := fun vs H Q E => ∃ (x : Addr) (ss : List Str) (bs : List (Str × List Str)) (z : Str), vs = [.ref x, .str z] ∧ BookAt H C x ss bs ∧ BookIn ss bs ∧ Shw z ∧ (z ∈ bs.map (·.1) → Q .non H) ∧ (z ∉ bs.map (·.1) → E (.ref cN) none H)
theorem ok_bcheckX {C f cN : Addr} {fd : FuncData} (F : Fun K "check_bath" "Book.check_bath" sBCheck f fd) (c : Cls K C) (nT : NoAttr K C "tables") (XN : ExcC K cN) (mN : mg "NoBath" = some (.ref cN)) : FnOk P w K mg base (CX1 P w) 1 f fd ["self", "bath"] (spBCheckX C cN) := by
  refine F.okX scBCheck (fun vs H Q E h => ?_) (fun cdv A outer s H vs Q E hr h => ?_)
  · obtain ⟨_, _, _, _, rfl, _⟩ := h
    rfl
  · obtain ⟨x, ss, bs, z, rfl, ⟨dx, t, d, so, h1, h2, h3, h4, h5⟩, B, hz, q, qe⟩ := h
    have hu : (cxOf (CX1 P w) P w K mg base ["self", "bath"] "Book.check_bath" (defScope sBCheck) f cdv A outer s H E).A.units + 1 < cLine := by
      have := hr.units
      exact Nat.lt_of_le_of_lt (Nat.add_le_add_left (by decide) _) this
    refine ⟨_, pss_one (ps_if (pt_cmp (pc_dnotin hu (pv 1) (pe_fld (pv 0) rfl))) (pss_one (ps_raise rfl rfl mN XN.exc PySem.F.excBase_ValueError (pa_cons (pe_fstr (pv 1)) pa_nil) goes1)) pss_nil), ?_⟩
    by_cases hm : z ∈ bs.map (·.1)
    · obtain ⟨b, hb, rfl⟩ := List.mem_map.mp hm
      obtain ⟨r, hg, hr⟩ := Tabs.get B h5 hb
      walk_at "dm"
      exact ⟨C, dx, _, h1, c, nT, _, lk_tables, d, rfl, _, hg, q hm⟩
    · obtain ⟨ds, e1, e2, e3⟩ := h5
      walk_at "dm"
      refine ⟨C, dx, _, h1, c, nT, _, lk_tables, d, rfl, none, .inl ⟨_, Sum.inr z, e1, rfl, (valV_zip_none _ _ _ hm).symm⟩, ?_⟩
      exact ⟨hz.1, hz.2, fun y => ⟨by decide, qe hm⟩⟩
def spBCShadeX (C cS : Addr) : Sp := fun vs H Q E => ∃ (x : Addr) (ss : List Str) (bs : List (Str × List Str)) (y : Str), vs = [.ref x, .str y] ∧ BookAt H C x ss bs ∧ Shw y ∧ (y ∈ ss → Q .non H) ∧ (y ∉ ss → E (.ref cS) none H)
theorem ok_bcshadeX {C f cS : Addr} {fd : FuncData} (F : Fun K "check_shade" "Book.check_shade" sBCShade f fd) (c : Cls K C) (nO : NoAttr K C "order") (XS : ExcC K cS) (mS : mg "NoShade" = some (.ref cS)) : FnOk P w K mg base (CX1 P w) 1 f fd ["self", "shade"] (spBCShadeX C cS) := by
  refine F.okX scBCShade (fun vs H Q E h => ?_) (fun cdv A outer s H vs Q E hr h => ?_)
  · obtain ⟨_, _, _, _, rfl, _⟩ := h
    rfl
  · obtain ⟨x, ss, bs, y, rfl, ⟨dx, t, d, so, h1, h2, h3, h4, h5⟩, hy, q, qe⟩ := h
    refine ⟨_, pss_one (ps_if (pt_cmpR op_notIn_seq (pv 1) (pe_fld (pv 0) rfl) (by with_unfolding_all rfl)) (pss_one (ps_raise rfl rfl mS XS.exc PySem.F.excBase_ValueError (pa_cons (pe_fstr (pv 1)) pa_nil) goes1)) pss_nil), ?_⟩
    by_cases hm : y ∈ ss
    · have hyo : y ∈ so := h3.mem_iff.mpr hm
      walk_at "dm"
      refine ⟨C, dx, _, h1, c, nO, _, lk_order, t, rfl, _, .inr (SqT.of h2), rfl, flat_strs so, ?_⟩
      rw [inV_str, decide_eq_true hyo]
      exact q hm
    · have hyo : y ∉ so := fun h => hm (h3.mem_iff.mp h)
      walk_at "dm"
      refine ⟨C, dx, _, h1, c, nO, _, lk_order, t, rfl, _, .inr (SqT.of h2), rfl, flat_strs so, ?_⟩
      rw [inV_str, decide_eq_false hyo]
      exact ⟨hy.1, hy.2, fun w => ⟨by decide, qe hm⟩⟩
end

section
variable {P : Program} {w : World} {K : PySem.W.Frag} {mg : Str → Option Value} {base : Heap}
abbrev Bk := List Str × List (Str × List Str)
structure Hs where
  cl : List (Str × Str)
  day : Int
  dp : List (Int × Str × Str × Str)
  bk : List (Int × Bk)
def clV (cl : List (Str × Str)) : List (Key × V) := cl.map fun c => (Sum.inr c.1, V.str c.2)
def bkV (bk : List (Int × Bk)) (rs : List Addr) : List (Key × V) := (bk.zip rs).map fun e => (Sum.inl e.1.1, V.ref e.2)
structure Ad where
  x : Addr
  dx : Addr
  d1 : Addr
  ls : Addr
  db : Addr
def hid (H : Hp) (A : Ad) : Hp := fun b => if b = A.x ∨ b = A.d1 ∨ b = A.ls ∨ b = A.db then none else H b
theorem hid_sub {H : Hp} {A : Ad} : Same (hid H A) H := fun b o e => by
  unfold hid at e
  split at e
  · cases e
  · exact e
theorem hid_same {H H' : Hp} {A : Ad} (S : Same H H') : Same (hid H A) (hid H' A) := fun b o e => by
  unfold hid at e ⊢
  split at e
  · cases e
  · rename_i h; rw [if_neg h]; exact S b o e
def hfs (A : Ad) (day : Int) : List (Str × V) := [("first_shades", .ref A.d1), ("day_now", .int day), ("standing", .ref A.ls), ("books_from", .ref A.db)]
structure HouseAt (H : Hp) (C CB : Addr) (A : Ad) (W : Hp) (ss : List Str) (h : Hs) : Prop where
  ins : H A.x = some (.ins C A.dx (hfs A h.day))
  cl : H A.d1 = some (.dK (clV h.cl))
  dp : ∃ ps : List Addr, H A.ls = some (.lst (ps.map V.ref)) ∧ ps.length = h.dp.length ∧ ∀ (i : Nat) p e, ps[i]? = some p → h.dp[i]? = some e → W p = some (.tup [.int e.1, .str e.2.1, .str e.2.2.1, .str e.2.2.2])
  bk : ∃ rs : List Addr, H A.db = some (.dK (bkV h.bk rs)) ∧ rs.length = h.bk.length ∧ ∀ (i : Nat) r e, rs[i]? = some r → h.bk[i]? = some e → BookAt W CB r e.2.1 e.2.2
  ne : A.d1 ≠ A.db
  sub : Same W (hid H A)
def Grows (H W W' : Hp) : Prop := Same W W' ∧ ∀ b o, W b = none → H b = some o → W' b = none
structure HsOk (ss : List Str) (names : List Str) (h : Hs) : Prop where
  cnd : (h.cl.map (·.1)).Nodup
  csh : ∀ c ∈ h.cl, c.2 ∈ ss
  cnm : ∀ c ∈ h.cl, goodB c.1 = true
  d1 : 1 ≤ h.day
  d4 : h.day ≤ 400
  dl : h.dp.length ≤ 1000
  dd : ∀ e ∈ h.dp, 1 ≤ e.1 ∧ e.1 ≤ h.day
  ds : ∀ e ∈ h.dp, e.2.2.2 ∈ ss
  k1 : ∃ b r, h.bk = (1, b) :: r
  ks : h.bk.Pairwise (fun a b => a.1 < b.1)
  kd : ∀ e ∈ h.bk, 1 ≤ e.1 ∧ e.1 ≤ h.day
  kl : h.bk.length ≤ 400
  kb : ∀ e ∈ h.bk, BookIn e.2.1 e.2.2 ∧ (∀ n, n ∈ e.2.2.map (·.1) ↔ n ∈ names) ∧ ∀ z, z ∈ e.2.1 ↔ z ∈ ss
def bkOn : List (Int × Bk) → Int → Bk
  | [], _ => ([], [])
  | [e], _ => e.2
  | e :: e2 :: r, d => if e2.1 ≤ d then bkOn (e2 :: r) d else e.2
theorem bkOn_at : ∀ (bk : List (Int × Bk)) (d M : Int) (b : Bk), bk.Pairwise (fun a b => a.1 < b.1) → (M, b) ∈ bk → M ≤ d → (∀ e ∈ bk, e.1 ≤ d → e.1 ≤ M) → bkOn bk d = b
  | [], _, _, _, _, h, _, _ => by cases h
  | [e], d, M, b, _, h, _, _ => by rw [List.mem_singleton] at h; rw [← h]; rfl
  | e :: e2 :: r, d, M, b, hp, h, hM, hx => by
    have hp2 := List.pairwise_cons.mp hp
    unfold bkOn
    by_cases h2 : e2.1 ≤ d
    · rw [if_pos h2]
      rcases List.mem_cons.mp h with h | h
      · have h3 := hp2.1 e2 List.mem_cons_self
        have h4 := hx e2 (List.mem_cons_of_mem _ List.mem_cons_self) h2
        rw [← h] at h3
        exact absurd h3 (by show ¬ (M < e2.1); omega)
      · exact bkOn_at (e2 :: r) d M b hp2.2 h hM fun e he => hx e (List.mem_cons_of_mem _ he)
    · rw [if_neg h2]
      rcases List.mem_cons.mp h with h | h
      · rw [← h]
      · rcases List.mem_cons.mp h with h | h
        · rw [← h] at h2; exact absurd hM h2
        · have := (List.pairwise_cons.mp hp2.2).1 _ h
          exact absurd hM (by show ¬ (M ≤ d); have h5 : e2.1 < M := this; omega)
theorem valV_cl {cl : List (Str × Str)} {c : Str × Str} (hd : (cl.map (·.1)).Nodup) (h : c ∈ cl) : valV (clV cl) (Sum.inr c.1) = some (V.str c.2) := by
  induction cl with
  | nil => cases h
  | cons a r ih =>
    rw [List.map_cons, List.nodup_cons] at hd
    unfold clV valV
    rw [List.map_cons, List.find?_cons]
    by_cases e : a.1 = c.1
    · rcases List.mem_cons.mp h with h | h
      · rw [h]; simp
      · exact absurd (List.mem_map_of_mem (f := (·.1)) h) (by rw [← e]; exact hd.1)
    · rcases List.mem_cons.mp h with h | h
      · exact absurd (by rw [h]) e
      · have := ih hd.2 h
        unfold clV valV at this
        simp only [Sum.inr.injEq, e, decide_false]
        exact this
theorem valV_cl_none {cl : List (Str × Str)} {z : Str} (h : z ∉ cl.map (·.1)) : valV (clV cl) (Sum.inr z) = none := by
  unfold valV clV
  rw [Option.map_eq_none_iff, List.find?_eq_none]
  intro kv hkv
  obtain ⟨c, hc, rfl⟩ := List.mem_map.mp hkv
  simp only [Sum.inr.injEq, decide_eq_true_eq]
  exact fun e => h (by rw [← e]; exact List.mem_map_of_mem hc)
theorem Same.house {H H' : Hp} {C CB : Addr} {A : Ad} {W : Hp} {ss : List Str} {h : Hs} (S : Same H H') (hh : HouseAt H C CB A W ss h) : HouseAt H' C CB A W ss h := by
  obtain ⟨h1, h2, ⟨ps, h3, h4, h5⟩, ⟨rs, h6, h7, h8⟩, h9, h10⟩ := hh
  exact ⟨S _ _ h1, S _ _ h2, ⟨ps, S _ _ h3, h4, h5⟩, ⟨rs, S _ _ h6, h7, h8⟩, h9, h10.trans (hid_same S)⟩
theorem hid_upd {H : Hp} {A : Ad} {b : Addr} {o : HO} (b1 : b ≠ A.x) (b2 : b ≠ A.d1) (b3 : b ≠ A.ls) (b4 : b ≠ A.db) : hid (upd H b o) A = upd (hid H A) b o := by
  funext y
  unfold hid
  by_cases hy : y = A.x ∨ y = A.d1 ∨ y = A.ls ∨ y = A.db
  · rw [if_pos hy]
    have hyb : y ≠ b := fun e => by rw [e] at hy; rcases hy with z | z | z | z; exact b1 z; exact b2 z; exact b3 z; exact b4 z
    rw [upd_ne hyb, if_pos hy]
  · rw [if_neg hy]
    by_cases e : y = b
    · rw [e, upd_same, upd_same]
    · rw [upd_ne e, upd_ne e, if_neg hy]
theorem HouseAt.up {H : Hp} {C CB : Addr} {A : Ad} {W : Hp} {ss : List Str} {h : Hs} (hh : HouseAt H C CB A W ss h) : Same W H := hh.sub.trans hid_sub
theorem lk_first {A : Ad} {d : Int} : List.lookup (Str.ofString "first_shades") (hfs A d) = some (.ref A.d1) := rfl
theorem lk_day {A : Ad} {d : Int} : List.lookup (Str.ofString "day_now") (hfs A d) = some (.int d) := rfl
theorem lk_stand {A : Ad} {d : Int} : List.lookup (Str.ofString "standing") (hfs A d) = some (.ref A.ls) := rfl
theorem lk_books {A : Ad} {d : Int} : List.lookup (Str.ofString "books_from") (hfs A d) = some (.ref A.db) := rfl
theorem lk_oth {A : Ad} {d : Int} {m : Str} (h1 : (m == Str.ofString "first_shades") = false) (h2 : (m == Str.ofString "day_now") = false) (h3 : (m == Str.ofString "standing") = false) (h4 : (m == Str.ofString "books_from") = false) : List.lookup m (hfs A d) = none := by
  unfold hfs
  rw [List.lookup_cons, h1]
  show List.lookup m [(Str.ofString "day_now", V.int d), (Str.ofString "standing", V.ref A.ls), (Str.ofString "books_from", V.ref A.db)] = none
  rw [List.lookup_cons, h2]
  show List.lookup m [(Str.ofString "standing", V.ref A.ls), (Str.ofString "books_from", V.ref A.db)] = none
  rw [List.lookup_cons, h3]
  show List.lookup m [(Str.ofString "books_from", V.ref A.db)] = none
  rw [List.lookup_cons, h4]
  rfl
structure Hx (K : PySem.W.Frag) (mg : Str → Option Value) (C : Addr) : Prop where
  c : Cls K C
  n1 : NoAttr K C "first_shades"
  n2 : NoAttr K C "day_now"
  n3 : NoAttr K C "standing"
  n4 : NoAttr K C "books_from"
  fd : ∃ t, mg "FIRST_DAY" = some (.int 1 t)
  ld : ∃ t, mg "LAST_DAY" = some (.int 400 t)
  mc : ∃ t, mg "MOST_CLOTHS" = some (.int 50 t)
  md : ∃ t, mg "MOST_DIPS" = some (.int 1000 t)
  max : mg "max" = none
def spCDay (cND : Addr) : Sp := fun vs H Q E => ∃ d : Int, vs = [.int d] ∧ ((1 ≤ d ∧ d ≤ 400) → Q .non H) ∧ (¬ (1 ≤ d ∧ d ≤ 400) → E (.ref cND) none H)
theorem scCDay : FnScope ["day"] ["day"] (defScope sCDay) := ⟨rfl, rfl, rfl, by decide +kernel, rfl, by decide +kernel, by decide +kernel⟩
theorem ok_cday {f : Addr} {fd : FuncData} {CH CB cND : Addr} (F : Fun K "check_day" "check_day" sCDay f fd)
    (T : Txt mg) (hX : Hx K mg CH) (cB : Cls K CB) (XND : ExcC K cND) (mND : mg "NoDay" = some (.ref cND)) :
    FnOk P w K mg base (CX1 P w) 1 f fd ["day"] (spCDay cND) := by
  refine F.okX scCDay (fun vs H Q E h => ?_) (fun cdv A outer s H vs Q E hr h => ?_)
  · obtain ⟨_, rfl, _⟩ := h
    rfl
  · obtain ⟨d, rfl, q, qe⟩ := h
    obtain ⟨_, hfd⟩ := hX.fd
    obtain ⟨_, hld⟩ := hX.ld
    refine ⟨_, (pss_one (ps_if (PW.pt (pw_or (pt_cmpR op_lt (pv 0) (pe_glob (v := .int 1) rfl hfd ⟨_, rfl⟩) (nomark _)) (pw_or1 (pt_cmpR op_gt (pv 0) (pe_glob (v := .int 400) rfl hld ⟨_, rfl⟩) (nomark _))))) (pss_one (ps_raise rfl rfl mND XND.exc PySem.F.excBase_ValueError (pa_cons pe_str pa_nil) goes1)) pss_nil)), ?_⟩
    walk_at "dm"
    refine ite2 (fun h => ⟨by decide, qe (by omega)⟩) (fun h1 => ite2 (fun h => ⟨by decide, qe (by omega)⟩) (fun h2 => q (by omega)))
def spHCC (CH CB cNC : Addr) : Sp := fun vs H Q E => ∃ (A : Ad) (W : Hp) (ss : List Str) (h : Hs) (z : Str), vs = [.ref A.x, .str z] ∧ HouseAt H CH CB A W ss h ∧ Shw z ∧ (h.cl.map (·.1)).Nodup ∧ (z ∈ h.cl.map (·.1) → Q .non H) ∧ (z ∉ h.cl.map (·.1) → E (.ref cNC) none H)
theorem scHCC : FnScope ["self", "cloth"] ["self", "cloth"] (defScope sHCCloth) := ⟨rfl, rfl, rfl, by decide +kernel, rfl, by decide +kernel, by decide +kernel⟩
theorem ok_hcc {f : Addr} {fd : FuncData} {CH CB cNC : Addr} (F : Fun K "check_cloth" "House.check_cloth" sHCCloth f fd)
    (T : Txt mg) (hX : Hx K mg CH) (cB : Cls K CB) (XNC : ExcC K cNC) (mNC : mg "NoCloth" = some (.ref cNC)) :
    FnOk P w K mg base (CX1 P w) 1 f fd ["self", "cloth"] (spHCC CH CB cNC) := by
  refine F.okX scHCC (fun vs H Q E h => ?_) (fun cdv A outer s H vs Q E hr h => ?_)
  · obtain ⟨_, _, _, _, _, rfl, _⟩ := h
    rfl
  · obtain ⟨A0, W, ss, h, z, rfl, hh, hz, hnd, q, qe⟩ := h
    have hu : (cxOf (CX1 P w) P w K mg base ["self", "cloth"] "House.check_cloth" (defScope sHCCloth) f cdv A outer s H E).A.units + 1 < cLine := by
      have := hr.units
      exact Nat.lt_of_le_of_lt (Nat.add_le_add_left (by decide) _) this
    refine ⟨_, (pss_one (ps_if (pt_cmp (pc_dnotin hu (pv 1) (pe_fld (pv 0) rfl))) (pss_one (ps_raise rfl rfl mNC XNC.exc PySem.F.excBase_ValueError (pa_cons (pe_fstr (pv 1)) pa_nil) goes1)) pss_nil)), ?_⟩
    by_cases hm : z ∈ h.cl.map (·.1)
    · obtain ⟨c, hc, rfl⟩ := List.mem_map.mp hm
      walk_at "dm"
      exact ⟨CH, A0.dx, _, hh.ins, hX.c, hX.n1, _, lk_first, A0.d1, rfl, _, .inl ⟨_, Sum.inr c.1, .inl hh.cl, rfl, (valV_cl hnd hc).symm⟩, q hm⟩
    · walk_at "dm"
      exact ⟨CH, A0.dx, _, hh.ins, hX.c, hX.n1, _, lk_first, A0.d1, rfl, none, .inl ⟨_, Sum.inr z, .inl hh.cl, rfl, (valV_cl_none hm).symm⟩, hz.1, hz.2, fun y => ⟨by decide, qe hm⟩⟩
def spHCD (CH CB cND cLa : Addr) : Sp := fun vs H Q E => ∃ (A : Ad) (W : Hp) (ss : List Str) (h : Hs) (d : Int), vs = [.ref A.x, .int d] ∧ HouseAt H CH CB A W ss h ∧ ((1 ≤ d ∧ d ≤ 400) → h.day ≤ d → Q .non H) ∧ (¬ (1 ≤ d ∧ d ≤ 400) → E (.ref cND) none H) ∧ ((1 ≤ d ∧ d ≤ 400) → d < h.day → E (.ref cLa) none H)
theorem scHCD : FnScope ["self", "day"] ["self", "day"] (defScope sHCDay) := ⟨rfl, rfl, rfl, by decide +kernel, rfl, by decide +kernel, by decide +kernel⟩
theorem ok_hcd {f fCD : Addr} {fd fdCD : FuncData} {CH CB cLa cND : Addr} (F : Fun K "check_day_to_do" "House.check_day_to_do" sHCDay f fd)
    (T : Txt mg) (hX : Hx K mg CH) (cB : Cls K CB) (XLa : ExcC K cLa) (mLa : mg "Late" = some (.ref cLa))
    (GCD : FnOk P w K mg base (CX1 P w) 1 fCD fdCD ["day"] (spCDay cND)) (kCD : PySem.W.keepIn K (.ref fCD) = true) (bCD : Binds K fdCD ["day"] []) (mCD : mg "check_day" = some (.ref fCD)) :
    FnOk P w K mg base (CX1 P w) 2 f fd ["self", "day"] (spHCD CH CB cND cLa) := by
  refine F.okX scHCD (fun vs H Q E h => ?_) (fun cdv A outer s H vs Q E hr h => ?_)
  · obtain ⟨_, _, _, _, _, rfl, _⟩ := h
    rfl
  · obtain ⟨A0, W, ss, h, d, rfl, hh, q, qd, ql⟩ := h
    have hr1 := hr.mono (j := 1) (by omega)
    refine ⟨_, (pss_cut (ps_expr (pe_call GCD hr1 rfl mCD kCD bCD .nil pass1 (pa_cons (pv 1) pa_nil)))
      (pss_one (ps_if (pt_cmpR op_lt (pv 1) (pe_fld (pv 0) rfl) (nomark _)) (pss_one (ps_raise rfl rfl mLa XLa.exc PySem.F.excBase_ValueError (pa_cons pe_str pa_nil) goes1)) pss_nil))), ?_⟩
    refine cutQ (fun σ' H' => (1 ≤ d ∧ d ≤ 400) ∧ σ' = [some (.ref A0.x), some (.int d)] ∧ H' = H) (fun R hR => ?_) ?_
    · walk_at "dm"
      exact ⟨d, rfl, fun hd => hR _ _ ⟨hd, rfl, rfl⟩, qd⟩
    rintro σ1 H1 ⟨hd, rfl, rfl⟩
    walk_at "dm"
    exact ⟨CH, A0.dx, _, hh.ins, hX.c, hX.n2, _, lk_day, _, rfl, ite2 (fun h1 => ⟨by decide, ql hd h1⟩) (fun h1 => q hd (by omega))⟩
end

section
variable {P : Program} {w : World} {K : PySem.W.Frag} {mg : Str → Option Value} {base : Heap}
theorem bkV_len {bk : List (Int × Bk)} {rs : List Addr} (h : rs.length = bk.length) : (bkV bk rs).length = bk.length := by
  unfold bkV
  rw [List.length_map, List.length_zip, h, Nat.min_self]
theorem bkV_val : ∀ {bk : List (Int × Bk)} {rs : List Addr} {i : Nat} {e : Int × Bk} {r : Addr}, bk.Pairwise (fun a b => a.1 < b.1) → bk[i]? = some e → rs[i]? = some r → valV (bkV bk rs) (Sum.inl e.1) = some (V.ref r)
  | [], _, i, _, _, _, h, _ => by simp at h
  | a :: bk, [], i, _, _, _, _, h => by simp at h
  | a :: bk, r0 :: rs, 0, e, r, _, h1, h2 => by
    simp only [List.getElem?_cons_zero, Option.some.injEq] at h1 h2
    subst h1 h2
    unfold bkV valV
    simp
  | a :: bk, r0 :: rs, i + 1, e, r, hp, h1, h2 => by
    simp only [List.getElem?_cons_succ] at h1 h2
    have hp2 := List.pairwise_cons.mp hp
    have hlt := hp2.1 e (List.mem_of_getElem? h1)
    have ih := bkV_val hp2.2 h1 h2
    unfold bkV valV at ih ⊢
    rw [List.zip_cons_cons, List.map_cons, List.find?_cons]
    have hne : ¬ (a.1 = e.1) := by omega
    simp only [Sum.inl.injEq, hne, decide_false]
    exact ih
def spHBook (CH CB cND : Addr) : Sp := fun vs H Q E => ∃ (A : Ad) (W : Hp) (ss names : List Str) (h : Hs) (d : Int), vs = [.ref A.x, .int d] ∧ HouseAt H CH CB A W ss h ∧ HsOk ss names h ∧ ((1 ≤ d ∧ d ≤ 400) → ∀ r H', Same H H' → BookAt W CB r (bkOn h.bk d).1 (bkOn h.bk d).2 → Q (.ref r) H') ∧ (¬ (1 ≤ d ∧ d ≤ 400) → E (.ref cND) none H)
theorem scHBook : FnScope ["self", "day"] ["self", "day"] (defScope sHBook) := ⟨rfl, rfl, rfl, by decide +kernel, rfl, by decide +kernel, by decide +kernel⟩
theorem ok_hbook {f fCD : Addr} {fd fdCD : FuncData} {CH CB cND : Addr} (F : Fun K "book" "House.book" sHBook f fd)
    (T : Txt mg) (hX : Hx K mg CH) (cB : Cls K CB)
    (GCD : FnOk P w K mg base (CX1 P w) 1 fCD fdCD ["day"] (spCDay cND)) (kCD : PySem.W.keepIn K (.ref fCD) = true) (bCD : Binds K fdCD ["day"] []) (mCD : mg "check_day" = some (.ref fCD)) :
    FnOk P w K mg base (CX1 P w) 2 f fd ["self", "day"] (spHBook CH CB cND) := by
  refine F.okX scHBook (fun vs H Q E h => ?_) (fun cdv A outer s H vs Q E hr h => ?_)
  · obtain ⟨_, _, _, _, _, _, rfl, _⟩ := h
    rfl
  · obtain ⟨A0, W, ss, names, h, d, rfl, hh, ho, q, qd⟩ := h
    have hu : (cxOf (CX1 P w) P w K mg base ["self", "day"] "House.book" (defScope sHBook) f cdv A outer s H E).A.units + 1 < cLine := by
      have := hr.units
      exact Nat.lt_of_le_of_lt (Nat.add_le_add_left (by decide) _) this
    have hr1 := hr.mono (j := 1) (by omega)
    refine ⟨_, (pss_cut (ps_expr (pe_call GCD hr1 rfl mCD kCD bCD .nil pass1 (pa_cons (pv 1) pa_nil)))
      (pss_one (ps_ret (pe_dget hu (pe_fld (pv 0) rfl) (pe_callB (call_maxL rfl) (by rfl) hX.max (by decide +kernel) (pa_cons (pe_thaw (pe_compI (N' := ["start", "day"]) (pk := [none, some 1]) rfl (BlkOk.of (by rfl)) (pi_dict (pe_fld (pv 0) rfl)) (fun s H ex => (pg_name (i := 0) (by show (["start", "day"] : List Str).Nodup; decide +kernel) rfl (Or.inl rfl))) (fun s H ex => (pt_cmpR op_le (pv 0) (pv 1) (nomark _))) (fun s H ex => (pv 0)))) pa_nil)) (fun _ _ => rfl))))), ?_⟩
    have hs := sz1000
    refine cutQ (fun σ' H' => (1 ≤ d ∧ d ≤ 400) ∧ σ' = [some (.ref A0.x), some (.int d)] ∧ H' = H) (fun R hR => ?_) ?_
    · walk_at "dm"
      exact ⟨d, rfl, fun hd => hR _ _ ⟨hd, rfl, rfl⟩, qd⟩
    rintro σ1 H1 ⟨hd, rfl, rfl⟩
    obtain ⟨rs, hdb, hrl, hrB⟩ := hh.bk
    have hkl := ho.kl
    have hnf : ∀ o u, H1 A0.db ≠ some (.frz o u) := fun o u e => by rw [hdb] at e; cases e
    have hkm : (bkV h.bk rs).map (·.1) = h.bk.map (fun e => Sum.inl e.1) := by
      unfold bkV
      rw [List.map_map]
      have : (fun e : (Int × Bk) × Addr => (Sum.inl e.1.1 : Key)) = (fun e => (Sum.inl e.1 : Key)) ∘ Prod.fst := rfl
      show (h.bk.zip rs).map (fun e => (Sum.inl e.1.1 : Key)) = _
      rw [this, ← List.map_map, List.map_fst_zip (by omega)]
    walk_at "dm"
    refine ⟨CH, A0.dx, _, hh.ins, hX.c, hX.n4, _, lk_books, CH, A0.dx, _, hh.ins, hX.c, hX.n4, _, lk_books, A0.db, rfl, _, .inl ⟨hdb, fun o D hD => ?_⟩⟩
    have hDb : D ≠ A0.db := fun e => by rw [e, upd_same] at hD; cases hD
    refine compI_pure (steady_dict (H1 := upd H1 A0.db (.frz o (.dK (bkV h.bk rs)))) upd_same) (by rw [bkV_len hrl]; omega) hD (fun σ => ∃ o, σ = [o, some (.int d)]) (fun i => decide ((h.bk.getD i (0, ([], []))).1 ≤ d)) (fun i => V.int (h.bk.getD i (0, ([], []))).1) ⟨none, rfl⟩ ?_ ?_
    · rintro i x σ' H3 hi ⟨k, v, hk, rfl⟩ ⟨o2, rfl⟩ hS R1 R0 h1 h0
      rw [bkV_len hrl] at hi
      obtain ⟨e, he⟩ : ∃ e, h.bk[i]? = some e := ⟨_, List.getElem?_eq_getElem hi⟩
      have ek : k = Sum.inl e.1 := by
        have := congrArg (fun l => l[i]?) hkm
        simp only [List.getElem?_map, hk, he] at this
        simpa using this
      subst ek
      have eg : h.bk.getD i (0, ([], [])) = e := by rw [List.getD_eq_getElem?_getD, he]; rfl
      rw [eg] at h1 h0
      walk_at "dm"
      refine ⟨_, rfl, ite2 (fun hle => h1 (decide_eq_true (by simpa using hle)) _ ⟨_, rfl⟩) (fun hle => h0 (decide_eq_false (by simpa using hle)) _ ⟨_, rfl⟩)⟩
    · refine .inr ⟨A0.db, o, _, by rw [upd_ne (Ne.symm hDb)]; exact upd_same, hnf, ?_⟩
      have hD1 : H1 D = none := by rw [upd_ne hDb] at hD; exact hD
      have SF : ∀ L : List V, Same H1 (upd (upd (upd H1 A0.db (.frz o (.dK (bkV h.bk rs)))) D (.lst L)) A0.db (.dK (bkV h.bk rs))) := fun L b ob e => by
        by_cases hb : b = A0.db
        · rw [hb, hdb] at e; rw [hb, upd_same]; exact e
        · rw [upd_ne hb, upd_ne (ne_of_none e hD1), upd_ne hb]; exact e
      rw [bkV_len hrl]
      have eL : ((List.range h.bk.length).filter (fun i => decide ((h.bk.getD i (0, ([], []))).1 ≤ d))).map (fun i => V.int (h.bk.getD i (0, ([], []))).1) = (((List.range h.bk.length).filter (fun i => decide ((h.bk.getD i (0, ([], []))).1 ≤ d))).map (fun i => (h.bk.getD i (0, ([], []))).1)).map V.int := by rw [List.map_map]; rfl
      rw [eL]
      have mem : ∀ M, M ∈ ((List.range h.bk.length).filter (fun i => decide ((h.bk.getD i (0, ([], []))).1 ≤ d))).map (fun i => (h.bk.getD i (0, ([], []))).1) ↔ ∃ (i : Nat) (e : Int × Bk), h.bk[i]? = some e ∧ e.1 ≤ d ∧ e.1 = M := fun M => by
        rw [List.mem_map]
        constructor
        · rintro ⟨i, hi, rfl⟩
          obtain ⟨h1, h2⟩ := List.mem_filter.mp hi
          have hl := List.mem_range.mp h1
          refine ⟨i, h.bk.getD i (0, ([], [])), ?_, by simpa using h2, rfl⟩
          rw [List.getD_eq_getElem?_getD, List.getElem?_eq_getElem hl]; rfl
        · rintro ⟨i, e, h1, h2, rfl⟩
          have eg : h.bk.getD i (0, ([], [])) = e := by rw [List.getD_eq_getElem?_getD, h1]; rfl
          exact ⟨i, List.mem_filter.mpr ⟨List.mem_range.mpr (List.getElem?_eq_some_iff.mp h1).1, by rw [eg]; exact decide_eq_true h2⟩, by rw [eg]⟩
      refine ⟨_, SqL.of (by rw [upd_ne hDb]; exact upd_same), ?_, fun M hM hmax => ?_⟩
      · obtain ⟨b0, r0, hb0⟩ := ho.k1
        exact List.length_pos_of_mem ((mem 1).mpr ⟨0, (1, b0), by rw [hb0]; rfl, hd.1, rfl⟩)
      · obtain ⟨i, e, he, hle, rfl⟩ := (mem M).mp hM
        obtain ⟨r, hr0⟩ : ∃ r, rs[i]? = some r := ⟨_, List.getElem?_eq_getElem (by rw [hrl]; exact (List.getElem?_eq_some_iff.mp he).1)⟩
        refine ⟨A0.db, rfl, V.ref r, .inl ⟨_, Sum.inl e.1, .inl upd_same, rfl, (bkV_val ho.ks he hr0).symm⟩, q hd r _ (SF _) ?_⟩
        rw [bkOn_at h.bk d e.1 e.2 ho.ks (List.mem_of_getElem? he) hle fun e2 he2 hle2 => by
          obtain ⟨j, hj⟩ := List.getElem?_of_mem he2
          exact hmax _ ((mem e2.1).mpr ⟨j, e2, hj, hle2, rfl⟩)]
        exact hrB i r e hr0 he
def spHNew (CH CB : Addr) : Sp := fun vs H Q E => ∃ (A : Ad) (W : Hp) (ss names : List Str) (h : Hs), vs = [.ref A.x] ∧ HouseAt H CH CB A W ss h ∧ HsOk ss names h ∧ (∀ r H', Same H H' → BookAt W CB r (bkOn h.bk 400).1 (bkOn h.bk 400).2 → Q (.ref r) H')
theorem scHNew : FnScope ["self"] ["self"] (defScope sHNewest) := ⟨rfl, rfl, rfl, by decide +kernel, rfl, by decide +kernel, by decide +kernel⟩
theorem ok_hnew {f fHB : Addr} {fd fdHB : FuncData} {CH CB cND : Addr} (F : Fun K "newest_book" "House.newest_book" sHNewest f fd)
    (T : Txt mg) (hX : Hx K mg CH) (cB : Cls K CB)
    (GHB : FnOk P w K mg base (CX1 P w) 2 fHB fdHB ["self", "day"] (spHBook CH CB cND)) (hmHB : Meth K CH "book" fHB) (bHB : Binds K fdHB ["self", "day"] []) :
    FnOk P w K mg base (CX1 P w) 3 f fd ["self"] (spHNew CH CB) := by
  refine F.okX scHNew (fun vs H Q E h => ?_) (fun cdv A outer s H vs Q E hr h => ?_)
  · obtain ⟨_, _, _, _, _, rfl, _⟩ := h
    rfl
  · obtain ⟨A0, W, ss, names, h, rfl, hh, ho, q⟩ := h
    obtain ⟨_, hld⟩ := hX.ld
    have cH := hX.c
    have hr2 := hr.mono (j := 2) (by omega)
    refine ⟨_, (pss_one (ps_ret (pe_meth (pv 0) cH hmHB GHB hr2 bHB .nil pass1 (pa_cons (pe_glob (v := .int 400) rfl hld ⟨_, rfl⟩) pa_nil)))), ?_⟩
    walk_at "dm"
    exact ⟨A0.dx, _, hh.ins, lk_oth (by decide +kernel) (by decide +kernel) (by decide +kernel) (by decide +kernel), A0, W, ss, names, h, 400, rfl, hh, ho, fun _ => q, fun hn => absurd (by omega) hn⟩
end

section
variable {P : Program} {w : World} {K : PySem.W.Frag} {mg : Str → Option Value} {base : Heap}
def trailL (dp : List (Int × Str × Str × Str)) (c : Str) (d : Int) : List (Int × Str × Str) := (dp.filter fun e => decide (e.2.1 = c) && decide (e.1 ≤ d)).map fun e => (e.1, e.2.2.1, e.2.2.2)
def shadeL (h : Hs) (c : Str) (d : Int) : Str := match (trailL h.dp c d).getLast? with
  | some e => e.2.2
  | none => ((h.cl.lookup c).getD ⟨#[]⟩)
abbrev d0 : Int × Str × Str × Str := (0, ⟨#[]⟩, ⟨#[]⟩, ⟨#[]⟩)
theorem range_filter {α β : Type} (l : List α) (dflt : α) (p : α → Bool) (f : α → β) : (((List.range l.length).filter (fun i => p (l.getD i dflt))).map (fun i => f (l.getD i dflt))) = (l.filter p).map f := by
  have e : l = (List.range l.length).map (fun i => l.getD i dflt) := by
    refine List.ext_getElem? fun i => ?_
    rw [List.getElem?_map]
    by_cases hi : i < l.length
    · rw [List.getElem?_range hi, List.getElem?_eq_getElem hi]
      show _ = some (l.getD i dflt)
      rw [List.getD_eq_getElem?_getD, List.getElem?_eq_getElem hi]; rfl
    · rw [List.getElem?_eq_none (by omega), List.getElem?_eq_none (by simpa using hi)]; rfl
  conv => rhs; rw [e]
  rw [List.filter_map, List.map_map]
  rfl
def spHTrail (CH CB cNC cND : Addr) : Sp := fun vs H Q E => ∃ (A : Ad) (W : Hp) (ss names : List Str) (h : Hs) (z : Str) (d : Int), vs = [.ref A.x, .str z, .int d] ∧ HouseAt H CH CB A W ss h ∧ HsOk ss names h ∧ Shw z ∧ (z ∈ h.cl.map (·.1) → (1 ≤ d ∧ d ≤ 400) → ∀ l ps H', Same H H' → H l = none → H' l = some (.lst (ps.map V.ref)) → Tups H' ps ((trailL h.dp z d).map fun e => [.int e.1, .str e.2.1, .str e.2.2]) → Q (.ref l) H') ∧ (z ∉ h.cl.map (·.1) → E (.ref cNC) none H) ∧ (z ∈ h.cl.map (·.1) → ¬ (1 ≤ d ∧ d ≤ 400) → E (.ref cND) none H)
theorem scHTrail : FnScope ["self", "cloth", "day"] ["self", "cloth", "day"] (defScope sHTrail) := ⟨rfl, rfl, rfl, by decide +kernel, rfl, by decide +kernel, by decide +kernel⟩
theorem ok_htrail {f fHC fCD : Addr} {fd fdHC fdCD : FuncData} {CH CB cNC cND : Addr} (F : Fun K "trail" "House.trail" sHTrail f fd)
    (T : Txt mg) (hX : Hx K mg CH) (cB : Cls K CB)
    (GHC : FnOk P w K mg base (CX1 P w) 1 fHC fdHC ["self", "cloth"] (spHCC CH CB cNC)) (hmHC : Meth K CH "check_cloth" fHC) (bHC : Binds K fdHC ["self", "cloth"] [])
    (GCD : FnOk P w K mg base (CX1 P w) 1 fCD fdCD ["day"] (spCDay cND)) (kCD : PySem.W.keepIn K (.ref fCD) = true) (bCD : Binds K fdCD ["day"] []) (mCD : mg "check_day" = some (.ref fCD)) :
    FnOk P w K mg base (CX1 P w) 2 f fd ["self", "cloth", "day"] (spHTrail CH CB cNC cND) := by
  refine F.okX scHTrail (fun vs H Q E h => ?_) (fun cdv A outer s H vs Q E hr h => ?_)
  · obtain ⟨_, _, _, _, _, _, _, rfl, _⟩ := h
    rfl
  · obtain ⟨A0, W, ss, names, h, z, d, rfl, hh, ho, hz, q, qc, qd⟩ := h
    have cH := hX.c
    have hr1 := hr.mono (j := 1) (by omega)
    refine ⟨_, (pss_cut (ps_expr (pe_meth (pv 0) cH hmHC GHC hr1 bHC .nil pass1 (pa_cons (pv 1) pa_nil)))
      (pss_cut (ps_expr (pe_call GCD hr1 rfl mCD kCD bCD .nil pass1 (pa_cons (pv 2) pa_nil)))
      (pss_one (ps_ret (pe_compI (N' := ["when", "dipped", "bath", "out", "cloth", "day"]) (pk := [none, none, none, none, some 1, some 2]) rfl (BlkOk.of (by rfl)) (pi_list (pe_fld (pv 0) rfl)) (fun s H ex => ((pg_tup (n := 4) rfl (pgs_cons (pg_name (i := 0) (by show (["when", "dipped", "bath", "out", "cloth", "day"] : List Str).Nodup; decide +kernel) rfl (Or.inl rfl)) (pgs_cons (pg_name (i := 1) (by show (["when", "dipped", "bath", "out", "cloth", "day"] : List Str).Nodup; decide +kernel) rfl (Or.inl rfl)) (pgs_cons (pg_name (i := 2) (by show (["when", "dipped", "bath", "out", "cloth", "day"] : List Str).Nodup; decide +kernel) rfl (Or.inl rfl)) (pgs_cons (pg_name (i := 3) (by show (["when", "dipped", "bath", "out", "cloth", "day"] : List Str).Nodup; decide +kernel) rfl (Or.inl rfl)) pgs_nil))))) : PG _ _ (gTup K 4 (gCons (gName 0) (gCons (gName 1) (gCons (gName 2) (gCons (gName 3) gNil))))))) (fun s H ex => (PW.pt (pw_and (pt_cmpR op_eq (pv 1) (pv 4) (nomark _)) (pw_and1 (pt_cmpR op_le (pv 0) (pv 5) (nomark _)))))) (fun s H ex => (pe_tup (pa_cons (pv 0) (pa_cons (pv 2) (pa_cons (pv 3) pa_nil)))))))))), ?_⟩
    have hs := sz1000
    refine cutQ (fun σ' H' => z ∈ h.cl.map (·.1) ∧ σ' = [some (.ref A0.x), some (.str z), some (.int d)] ∧ H' = H) (fun R hR => ?_) ?_
    · walk_at "dm"
      exact ⟨A0.dx, _, hh.ins, lk_oth (by decide +kernel) (by decide +kernel) (by decide +kernel) (by decide +kernel), A0, W, ss, h, z, rfl, hh, hz, ho.cnd, fun hm => hR _ _ ⟨hm, rfl, rfl⟩, qc⟩
    rintro σ1 H1 ⟨hm, rfl, rfl⟩
    refine cutQ (fun σ' H' => (1 ≤ d ∧ d ≤ 400) ∧ σ' = [some (.ref A0.x), some (.str z), some (.int d)] ∧ H' = H1) (fun R hR => ?_) ?_
    · walk_at "dm"
      exact ⟨d, rfl, fun hd => hR _ _ ⟨hd, rfl, rfl⟩, qd hm⟩
    rintro σ2 H2 ⟨hd, rfl, rfl⟩
    obtain ⟨ps, hls, hpl, hpT⟩ := hh.dp
    have hdl := ho.dl
    walk_at "dm"
    refine ⟨CH, A0.dx, _, hh.ins, hX.c, hX.n3, _, lk_stand, A0.ls, rfl, ⟨_, SqL.of hls⟩, fun D hD => ?_⟩
    refine compI_tup (steady_list (SqL.of hls)) (by rw [List.length_map]; omega) hD (fun σ => ∃ o1 o2 o3 o4, σ = [o1, o2, o3, o4, some (.str z), some (.int d)]) (fun i => (fun e : Int × Str × Str × Str => decide (e.2.1 = z) && decide (e.1 ≤ d)) (h.dp.getD i d0)) (fun i => (fun e : Int × Str × Str × Str => [V.int e.1, .str e.2.2.1, .str e.2.2.2]) (h.dp.getD i d0)) ⟨none, none, none, none, rfl⟩ ?_ ?_
    · rintro i x σ' H3 hi hx ⟨o1, o2, o3, o4, rfl⟩ hS R1 R0 h1 h0
      rw [List.getElem?_map] at hx
      obtain ⟨p, hp, rfl⟩ := Option.map_eq_some_iff.mp hx
      obtain ⟨e, he⟩ : ∃ e, h.dp[i]? = some e := ⟨_, List.getElem?_eq_getElem (by rw [List.length_map] at hi; omega)⟩
      have ht := hS _ _ (hh.up _ _ (hpT i p e hp he))
      have eg : h.dp.getD i d0 = e := by rw [List.getD_eq_getElem?_getD, he]; rfl
      simp only [eg] at h1 h0
      refine g_tup4 ht ?_
      walk_at "dm"
      refine ⟨rfl, ite2 (fun hc => ite2 (fun hle => ⟨by omega, fun p hp => h1 (by simp [hc, hle]) p _ ⟨_, _, _, _, rfl⟩ hp⟩) (fun hle => h0 (by simp [hle]) _ ⟨_, _, _, _, rfl⟩)) (fun hc => h0 (by simp [hc]) _ ⟨_, _, _, _, rfl⟩)⟩
    · intro qs H' S' hHD hT
      rw [List.length_map, hpl, range_filter h.dp d0 (fun e => decide (e.2.1 = z) && decide (e.1 ≤ d)) (fun e => [V.int e.1, .str e.2.2.1, .str e.2.2.2])] at hT
      refine q hm hd D qs H' S' hD hHD ?_
      unfold trailL
      rw [List.map_map]
      exact hT
theorem lookup_mem {cl : List (Str × Str)} {c : Str × Str} (hd : (cl.map (·.1)).Nodup) (h : c ∈ cl) : cl.lookup c.1 = some c.2 := by
  induction cl with
  | nil => cases h
  | cons a r ih =>
    rw [List.map_cons, List.nodup_cons] at hd
    rw [List.lookup_cons]
    by_cases e : c.1 = a.1
    · rw [show (c.1 == a.1) = true from beq_iff_eq.mpr e]
      rcases List.mem_cons.mp h with h | h
      · rw [h]
      · exact absurd (List.mem_map_of_mem (f := (·.1)) h) (by rw [e]; exact hd.1)
    · rw [show (c.1 == a.1) = false from beq_eq_false_iff_ne.mpr e]
      rcases List.mem_cons.mp h with h | h
      · exact absurd (by rw [h]) e
      · exact ih hd.2 h
def spHShade (CH CB cNC cND : Addr) : Sp := fun vs H Q E => ∃ (A : Ad) (W : Hp) (ss names : List Str) (h : Hs) (z : Str) (d : Int), vs = [.ref A.x, .str z, .int d] ∧ HouseAt H CH CB A W ss h ∧ HsOk ss names h ∧ Shw z ∧ (z ∈ h.cl.map (·.1) → (1 ≤ d ∧ d ≤ 400) → ∀ H', Same H H' → Q (.str (shadeL h z d)) H') ∧ (z ∉ h.cl.map (·.1) → E (.ref cNC) none H) ∧ (z ∈ h.cl.map (·.1) → ¬ (1 ≤ d ∧ d ≤ 400) → E (.ref cND) none H)
theorem scHShade : FnScope ["self", "cloth", "day", "trail"] ["self", "cloth", "day"] (defScope sHShade) := ⟨rfl, rfl, rfl, by decide +kernel, rfl, by decide +kernel, by decide +kernel⟩
theorem ok_hshade {f fHT : Addr} {fd fdHT : FuncData} {CH CB cNC cND : Addr} (F : Fun K "shade" "House.shade" sHShade f fd)
    (T : Txt mg) (hX : Hx K mg CH) (cB : Cls K CB)
    (GHT : FnOk P w K mg base (CX1 P w) 2 fHT fdHT ["self", "cloth", "day"] (spHTrail CH CB cNC cND)) (hmHT : Meth K CH "trail" fHT) (bHT : Binds K fdHT ["self", "cloth", "day"] []) :
    FnOk P w K mg base (CX1 P w) 3 f fd ["self", "cloth", "day"] (spHShade CH CB cNC cND) := by
  refine F.okX scHShade (fun vs H Q E h => ?_) (fun cdv A outer s H vs Q E hr h => ?_)
  · obtain ⟨_, _, _, _, _, _, _, rfl, _⟩ := h
    rfl
  · obtain ⟨A0, W, ss, names, h, z, d, rfl, hh, ho, hz, q, qc, qd⟩ := h
    have hu : (cxOf (CX1 P w) P w K mg base ["self", "cloth", "day", "trail"] "House.shade" (defScope sHShade) f cdv A outer s H E).A.units + 1 < cLine := by
      have := hr.units
      exact Nat.lt_of_le_of_lt (Nat.add_le_add_left (by decide) _) this
    have cH := hX.c
    have hr2 := hr.mono (j := 2) (by omega)
    refine ⟨_, (pss_cut (ps_set (i := 3) scHShade.nd rfl (Or.inl rfl) (pe_meth (pv 0) cH hmHT GHT hr2 bHT .nil pass1 (pa_cons (pv 1) (pa_cons (pv 2) pa_nil))))
      (pss_cut (ps_if (pt_cmpR op_eq (pe_callB call_len_seq (by rfl) T.len PySem.boot_len (pa_cons (pv 3) pa_nil)) pe_int (nomark _)) (pss_one (ps_ret (pe_dget hu (pe_fld (pv 0) rfl) (pv 1) (fun _ _ => rfl)))) pss_nil)
      (pss_one (ps_ret (pe_ix ix_tup (pe_ix ix_list (pv 3) (pe_un un_neg pe_int) (fun _ _ => rfl)) pe_int (fun _ _ => rfl)))))), ?_⟩
    have hs := sz1000
    refine cutQ (fun σ' H' => ∃ l ps, (z ∈ h.cl.map (·.1)) ∧ (1 ≤ d ∧ d ≤ 400) ∧ σ' = [some (.ref A0.x), some (.str z), some (.int d), some (.ref l)] ∧ Same H H' ∧ H' l = some (.lst (ps.map V.ref)) ∧ Tups H' ps ((trailL h.dp z d).map fun e => [.int e.1, .str e.2.1, .str e.2.2])) (fun R hR => ?_) ?_
    · walk_at "dm"
      exact ⟨A0.dx, _, hh.ins, lk_oth (by decide +kernel) (by decide +kernel) (by decide +kernel) (by decide +kernel), A0, W, ss, names, h, z, d, rfl, hh, ho, hz, fun hm hd l ps H' S' hl hH hT => hR _ _ ⟨l, ps, hm, hd, rfl, S', hH, hT⟩, qc, qd⟩
    rintro σ1 H1 ⟨l, ps, hm, hd, rfl, S1, hl1, hT⟩
    have q := q hm hd
    refine cutQ (fun σ' H' => trailL h.dp z d ≠ [] ∧ σ' = [some (.ref A0.x), some (.str z), some (.int d), some (.ref l)] ∧ H' = H1) (fun R hR => ?_) ?_
    · obtain ⟨c, hc, rfl⟩ := List.mem_map.mp hm
      walk_at "dm"
      have hpl := hT.1
      rw [List.length_map] at hpl
      refine ⟨_, .inl (SqL.of hl1), rfl, ?_⟩
      rw [List.length_map, hpl]
      refine ite2 (fun h0 => ?_) (fun h0 => hR _ _ ⟨fun e => h0 (by rw [e]; rfl), rfl, rfl⟩)
      have e0 : trailL h.dp c.1 d = [] := List.length_eq_zero_iff.mp (by omega)
      refine ⟨CH, A0.dx, _, S1 _ _ hh.ins, hX.c, hX.n1, _, lk_first, _, rfl, _, .inl ⟨_, Sum.inr c.1, .inl (S1 _ _ hh.cl), rfl, (valV_cl ho.cnd hc).symm⟩, ?_⟩
      have es : shadeL h c.1 d = c.2 := by
        unfold shadeL
        rw [e0]
        show (h.cl.lookup c.1).getD _ = _
        rw [lookup_mem ho.cnd hc]
        rfl
      have := q H1 S1
      rw [es] at this
      exact this
    rintro σ2 H2 ⟨hne, rfl, rfl⟩
    have hpl := hT.1
    rw [List.length_map] at hpl
    have hlast : (trailL h.dp z d).getLast? = some ((trailL h.dp z d).getLast hne) := List.getLast?_eq_some_getLast hne
    have hps : ps ≠ [] := fun e => hne (List.length_eq_zero_iff.mp (by rw [← hpl, e]; rfl))
    walk_at "dm"
    have ea : atI (ps.map V.ref) (-1) = some (V.ref (ps.getLast hps)) := by
      have e : ps.map V.ref = ps.dropLast.map V.ref ++ [V.ref (ps.getLast hps)] := by
        rw [← List.map_singleton, ← List.map_append, List.dropLast_concat_getLast hps]
      rw [e]
      exact atI_last _ _
    have ht := hT.2 (ps.length - 1) (ps.getLast hps) [.int ((trailL h.dp z d).getLast hne).1, .str ((trailL h.dp z d).getLast hne).2.1, .str ((trailL h.dp z d).getLast hne).2.2] (by rw [List.getLast_eq_getElem]; exact List.getElem?_eq_getElem _) (by rw [List.getElem?_map, hpl, List.getLast_eq_getElem, List.getElem?_eq_getElem (by have := List.length_pos_iff.mpr hne; omega)]; rfl)
    refine ⟨_, SqL.of hl1, _, ea, _, rfl, _, SqT.of ht, V.str ((trailL h.dp z d).getLast hne).2.2, rfl, ?_⟩
    have es : shadeL h z d = ((trailL h.dp z d).getLast hne).2.2 := by
      unfold shadeL
      rw [hlast]
    rw [← es]
    exact q H2 S1
end

section
variable {P : Program} {w : World} {K : PySem.W.Frag} {mg : Str → Option Value} {base : Heap}
theorem pF1 {v : V} : putF (Str.ofString "first_shades") v [] = [(Str.ofString "first_shades", v)] := rfl
theorem pF2 {v u : V} : putF (Str.ofString "day_now") u [(Str.ofString "first_shades", v)] = [(Str.ofString "first_shades", v), (Str.ofString "day_now", u)] := by
  show (if Str.ofString "first_shades" = Str.ofString "day_now" then _ else _) = _
  rw [if_neg (by decide +kernel)]
  rfl
theorem pF3 {v u t : V} : putF (Str.ofString "standing") t [(Str.ofString "first_shades", v), (Str.ofString "day_now", u)] = [(Str.ofString "first_shades", v), (Str.ofString "day_now", u), (Str.ofString "standing", t)] := by
  unfold putF
  rw [if_neg (by decide +kernel)]
  unfold putF
  rw [if_neg (by decide +kernel)]
  rfl
theorem pF4 {v u t r : V} : putF (Str.ofString "books_from") r [(Str.ofString "first_shades", v), (Str.ofString "day_now", u), (Str.ofString "standing", t)] = [(Str.ofString "first_shades", v), (Str.ofString "day_now", u), (Str.ofString "standing", t), (Str.ofString "books_from", r)] := by
  unfold putF
  rw [if_neg (by decide +kernel)]
  unfold putF
  rw [if_neg (by decide +kernel)]
  unfold putF
  rw [if_neg (by decide +kernel)]
  rfl
theorem pFd {A : Ad} {d e : Int} : putF (Str.ofString "day_now") (.int e) (hfs A d) = hfs A e := by
  unfold hfs putF
  rw [if_neg (by decide +kernel)]
  unfold putF
  rw [if_pos rfl]
def spHInit (CH CB : Addr) : Sp := fun vs H Q _ => ∃ (x dx bk : Addr) (W : Hp) (ss : List Str) (bs : List (Str × List Str)), vs = [.ref x, .ref bk] ∧ H x = some (.ins CH dx []) ∧ Same W (hide H x) ∧ BookAt W CB bk ss bs ∧ ∀ (A : Ad) H', A.x = x → Same (hide H x) (hid H' A) → HouseAt H' CH CB A W ss ⟨[], 1, [], [(1, (ss, bs))]⟩ → Q .non H'
theorem scHInit : FnScope ["self", "book"] ["self", "book"] (defScope sHInit) := ⟨rfl, rfl, rfl, by decide +kernel, rfl, by decide +kernel, by decide +kernel⟩
theorem ok_hinit {f : Addr} {fd : FuncData} {CH CB  : Addr} (F : Fun K "__init__" "House.__init__" sHInit f fd)
    (T : Txt mg) (hX : Hx K mg CH) (cB : Cls K CB)  :
    FnOk P w K mg base CX0 1 f fd ["self", "book"] (spHInit CH CB) := by
  refine F.ok scHInit (fun vs H Q E h => ?_) (fun cdv A outer s H vs Q E hr h => ?_)
  · obtain ⟨_, _, _, _, _, _, rfl, _⟩ := h
    rfl
  · obtain ⟨x, dx, bk, W, ss, bs, rfl, hx, hW, hbk, q⟩ := h
    obtain ⟨_, hfd⟩ := hX.fd
    refine ⟨_, (pss_cut (ps_fld (pv 0) pe_dnewK rfl)
      (pss_cut (ps_fld (pv 0) (pe_glob (v := .int 1) rfl hfd ⟨_, rfl⟩) rfl)
      (pss_cut (ps_fld (pv 0) (pe_lst pa_nil) rfl)
      (pss_one (ps_fld (pv 0) (pe_disp (pps_cons (pe_glob (v := .int 1) rfl hfd ⟨_, rfl⟩) (pv 1) pps_nil) rfl rfl (by simp) (by decide)) rfl))))), ?_⟩
    have hs := sz1000
    have hx0 : hide H x x = none := by unfold hide; rw [if_pos rfl]
    refine cutQ (fun σ' H' => ∃ d1, σ' = [some (.ref x), some (.ref bk)] ∧ H d1 = none ∧ H' = upd (upd H d1 (.dK [])) x (.ins CH dx [("first_shades", .ref d1)])) (fun R hR => ?_) ?_
    · walk_at "dm"
      intro d hd
      have hxd : x ≠ d := fun e => by rw [← e, hx] at hd; cases hd
      exact ⟨CH, dx, _, by rw [upd_ne hxd]; exact hx, hX.c, hX.n1, by decide, hR _ _ ⟨d, rfl, hd, by rw [pF1]⟩⟩
    rintro σ1 H1 ⟨d1, rfl, hd1, rfl⟩
    have hxd1 : x ≠ d1 := fun e => by rw [← e, hx] at hd1; cases hd1
    refine cutQ (fun σ' H' => σ' = [some (.ref x), some (.ref bk)] ∧ H' = upd (upd H d1 (.dK [])) x (.ins CH dx [("first_shades", .ref d1), ("day_now", .int 1)])) (fun R hR => ?_) ?_
    · walk_at "dm"
      exact ⟨CH, dx, _, upd_same, hX.c, hX.n2, by simp, hR _ _ ⟨rfl, by rw [pF2, upd_upd]⟩⟩
    rintro σ2 H2 ⟨rfl, rfl⟩
    refine cutQ (fun σ' H' => ∃ ls, σ' = [some (.ref x), some (.ref bk)] ∧ upd (upd H d1 (.dK [])) x (.ins CH dx [("first_shades", .ref d1), ("day_now", .int 1)]) ls = none ∧ H' = upd (upd (upd (upd H d1 (.dK [])) x (.ins CH dx [("first_shades", .ref d1), ("day_now", .int 1)])) ls (.lst [])) x (.ins CH dx [("first_shades", .ref d1), ("day_now", .int 1), ("standing", .ref ls)])) (fun R hR => ?_) ?_
    · walk_at "dm"
      refine ⟨by omega, fun ls hls => ?_⟩
      have hxl : x ≠ ls := fun e => by rw [← e, upd_same] at hls; cases hls
      exact ⟨CH, dx, _, by rw [upd_ne hxl]; exact upd_same, hX.c, hX.n3, by simp, hR _ _ ⟨ls, rfl, hls, by rw [pF3]⟩⟩
    rintro σ3 H3 ⟨ls, rfl, hls, rfl⟩
    have hxl : x ≠ ls := fun e => by rw [← e, upd_same] at hls; cases hls
    have hlsH : ls ≠ d1 := fun e => by rw [e, upd_ne (Ne.symm hxd1), upd_same] at hls; cases hls
    have hlsN : H ls = none := by rw [upd_ne (Ne.symm hxl), upd_ne hlsH] at hls; exact hls
    walk_at "dm"
    intro p hp
    have hxp : x ≠ p := fun e => by rw [← e, upd_same] at hp; cases hp
    have hlp : ls ≠ p := fun e => by rw [← e, upd_ne (Ne.symm hxl), upd_same] at hp; cases hp
    have hdp : d1 ≠ p := fun e => by rw [← e, upd_ne (Ne.symm hxd1), upd_ne (Ne.symm hlsH), upd_ne (Ne.symm hxd1), upd_same] at hp; cases hp
    have hpN : H p = none := by rw [upd_ne (Ne.symm hxp), upd_ne (Ne.symm hlp), upd_ne (Ne.symm hxp), upd_ne (Ne.symm hdp)] at hp; exact hp
    refine ⟨upd_same, [(Sum.inl 1, V.ref bk)], rfl, by simp, CH, dx, _, by rw [upd_ne hxp, upd_ne hxp, upd_same], hX.c, hX.n4, by simp, ?_⟩
    rw [pF4]
    have e1 : mergeK [] [((Sum.inl 1 : Key), V.ref bk)] = [(Sum.inl 1, V.ref bk)] := rfl
    rw [e1]
    have S : Same (hide H x) (hid (upd (upd (upd (upd (upd (upd (upd H d1 (.dK [])) x (.ins CH dx [("first_shades", .ref d1), ("day_now", .int 1)])) ls (.lst [])) x (.ins CH dx [("first_shades", .ref d1), ("day_now", .int 1), ("standing", .ref ls)])) p (.dK [])) p (.dK [(Sum.inl 1, V.ref bk)])) x (.ins CH dx [("first_shades", .ref d1), ("day_now", .int 1), ("standing", .ref ls), ("books_from", .ref p)])) ⟨x, dx, d1, ls, p⟩) := fun b o e => by
      have hbx : b ≠ x := fun z => by rw [z, hx0] at e; cases e
      rw [hide_at hbx] at e
      have h1 : b ≠ d1 := ne_of_none e hd1
      have h2 : b ≠ ls := ne_of_none e hlsN
      have h3 : b ≠ p := ne_of_none e hpN
      unfold hid
      rw [if_neg (fun z => by rcases z with z | z | z | z; exact hbx z; exact h1 z; exact h2 z; exact h3 z)]
      rw [upd_ne hbx, upd_ne h3, upd_ne h3, upd_ne hbx, upd_ne h2, upd_ne hbx, upd_ne h1]
      exact e
    refine q ⟨x, dx, d1, ls, p⟩ _ rfl S ⟨upd_same, ?_, ⟨[], ?_, rfl, by intro i p e h; simp at h⟩, ⟨[bk], ?_, rfl, ?_⟩, hdp, hW.trans S⟩
    · show upd _ x _ d1 = _
      rw [upd_ne (Ne.symm hxd1), upd_ne hdp, upd_ne hdp, upd_ne (Ne.symm hxd1), upd_ne (Ne.symm hlsH), upd_ne (Ne.symm hxd1), upd_same]
      rfl
    · show upd _ x _ ls = _
      rw [upd_ne (Ne.symm hxl), upd_ne hlp, upd_ne hlp, upd_ne (Ne.symm hxl), upd_same]
      rfl
    · show upd _ x _ p = _
      rw [upd_ne (Ne.symm hxp), upd_same]
      rfl
    · intro i r e hr he
      rcases i with _ | i
      · cases hr
        cases he
        exact hbk
      · simp at hr
end

section
variable {P : Program} {w : World} {K : PySem.W.Frag} {mg : Str → Option Value} {base : Heap}
theorem bkOn_mem : ∀ {bk : List (Int × Bk)} {d : Int}, bk ≠ [] → ∃ e ∈ bk, bkOn bk d = e.2
  | [], _, h => absurd rfl h
  | [e], d, _ => ⟨e, List.mem_cons_self, rfl⟩
  | e :: e2 :: r, d, _ => by
    unfold bkOn
    by_cases h2 : e2.1 ≤ d
    · rw [if_pos h2]
      obtain ⟨x, hx, hxe⟩ := bkOn_mem (bk := e2 :: r) (d := d) (by simp)
      exact ⟨x, List.mem_cons_of_mem _ hx, hxe⟩
    · rw [if_neg h2]
      exact ⟨e, List.mem_cons_self, rfl⟩
theorem HsOk.on {ss names : List Str} {h : Hs} (ho : HsOk ss names h) (d : Int) : BookIn (bkOn h.bk d).1 (bkOn h.bk d).2 ∧ (∀ n, n ∈ (bkOn h.bk d).2.map (·.1) ↔ n ∈ names) ∧ ∀ z, z ∈ (bkOn h.bk d).1 ↔ z ∈ ss := by
  obtain ⟨b, r, hb⟩ := ho.k1
  obtain ⟨e, he, hbk⟩ := bkOn_mem (bk := h.bk) (d := d) (by rw [hb]; simp)
  rw [hbk]
  exact ho.kb e he
theorem clV_snoc {cl : List (Str × Str)} {c z : Str} (h : c ∉ cl.map (·.1)) : putK (clV cl) (Sum.inr c) (V.str z) = clV (cl ++ [(c, z)]) := by
  rw [putK_new _ (valV_cl_none h)]
  unfold clV
  rw [List.map_append]
  rfl
theorem clV_len {cl : List (Str × Str)} : (clV cl).length = cl.length := List.length_map ..
theorem hid_put {H : Hp} {A : Ad} {b : Addr} {o : HO} (h : b = A.x ∨ b = A.d1 ∨ b = A.ls ∨ b = A.db) : hid (upd H b o) A = hid H A := by
  funext y
  unfold hid
  by_cases hy : y = A.x ∨ y = A.d1 ∨ y = A.ls ∨ y = A.db
  · rw [if_pos hy, if_pos hy]
  · rw [if_neg hy, if_neg hy]
    exact upd_ne fun e => hy (by rw [e]; exact h)
theorem HouseAt.xd {H : Hp} {C CB : Addr} {A : Ad} {W : Hp} {ss : List Str} {h : Hs} (hh : HouseAt H C CB A W ss h) : A.x ≠ A.d1 ∧ A.x ≠ A.ls ∧ A.x ≠ A.db ∧ A.d1 ≠ A.ls ∧ A.ls ≠ A.db := by
  obtain ⟨h1, h2, ⟨ps, h3, _⟩, ⟨rs, h6, _⟩, _, _⟩ := hh
  refine ⟨fun e => ?_, fun e => ?_, fun e => ?_, fun e => ?_, fun e => ?_⟩
  · rw [e, h2] at h1; cases h1
  · rw [e, h3] at h1; cases h1
  · rw [e, h6] at h1; cases h1
  · rw [e, h3] at h2; cases h2
  · rw [e, h6] at h3; cases h3
def spHBring (CH CB cBN cKn cNS cFu : Addr) : Sp := fun vs H Q E => ∃ (A : Ad) (W : Hp) (ss names : List Str) (h : Hs) (c z : Str), vs = [.ref A.x, .str c, .str z] ∧ HouseAt H CH CB A W ss h ∧ HsOk ss names h ∧ h.cl.length ≤ 1000 ∧ Shw c ∧ Shw z ∧ (goodB c = false → ∀ H', Same H H' → E (.ref cBN) none H') ∧ (goodB c = true → c ∈ h.cl.map (·.1) → ∀ H', Same H H' → E (.ref cKn) none H') ∧ (goodB c = true → c ∉ h.cl.map (·.1) → z ∉ ss → ∀ H', Same H H' → E (.ref cNS) none H') ∧ (goodB c = true → c ∉ h.cl.map (·.1) → z ∈ ss → 50 ≤ h.cl.length → ∀ H', Same H H' → E (.ref cFu) none H') ∧ (goodB c = true → c ∉ h.cl.map (·.1) → z ∈ ss → h.cl.length < 50 → ∀ H', Same (hid H A) (hid H' A) → HouseAt H' CH CB A W ss { h with cl := h.cl ++ [(c, z)] } → Q .non H')
theorem scHBring : FnScope ["self", "cloth", "shade"] ["self", "cloth", "shade"] (defScope sHBring) := ⟨rfl, rfl, rfl, by decide +kernel, rfl, by decide +kernel, by decide +kernel⟩
theorem ok_hbring {f fGd fHN fMH : Addr} {fd fdGd fdHN fdMH : FuncData} {CH CB cBN cFu cKn cNS : Addr} (F : Fun K "bring" "House.bring" sHBring f fd)
    (T : Txt mg) (hX : Hx K mg CH) (cB : Cls K CB) (XBN : ExcC K cBN) (mBN : mg "BadName" = some (.ref cBN)) (XKn : ExcC K cKn) (mKn : mg "Known" = some (.ref cKn)) (XFu : ExcC K cFu) (mFu : mg "Full" = some (.ref cFu))
    (GGd : FnOk P w K mg base CX0 1 fGd fdGd ["text"] spGood) (kGd : PySem.W.keepIn K (.ref fGd) = true) (bGd : Binds K fdGd ["text"] []) (mGd : mg "good_name" = some (.ref fGd))
    (GHN : FnOk P w K mg base (CX1 P w) 3 fHN fdHN ["self"] (spHNew CH CB)) (hmHN : Meth K CH "newest_book" fHN) (bHN : Binds K fdHN ["self"] [])
    (GMH : FnOk P w K mg base (CX1 P w) 1 fMH fdMH ["self", "shade"] (spBCShadeX CB cNS)) (hmMH : Meth K CB "check_shade" fMH) (bMH : Binds K fdMH ["self", "shade"] []) :
    FnOk P w K mg base (CX1 P w) 5 f fd ["self", "cloth", "shade"] (spHBring CH CB cBN cKn cNS cFu) := by
  refine F.okX scHBring (fun vs H Q E h => ?_) (fun cdv A outer s H vs Q E hr h => ?_)
  · obtain ⟨_, _, _, _, _, _, _, rfl, _⟩ := h
    rfl
  · obtain ⟨A0, W, ss, names, h, c, z, rfl, hh, ho, hcl, hc, hz, qb, qk, qs, qf, q⟩ := h
    have hu : (cxOf (CX1 P w) P w K mg base ["self", "cloth", "shade"] "House.bring" (defScope sHBring) f cdv A outer s H E).A.units + 1 < cLine := by
      have := hr.units
      exact Nat.lt_of_le_of_lt (Nat.add_le_add_left (by decide) _) this
    obtain ⟨_, hmc⟩ := hX.mc
    have cH := hX.c
    have hr1 := hr.mono (j := 1) (by omega)
    have hr3 := hr.mono (j := 3) (by omega)
    refine ⟨_, (pss_cut (ps_if (pt_not (pt_val (pe_call GGd hr1 rfl mGd kGd bGd .nil pass0 (pa_cons (pv 1) pa_nil)))) (pss_one (ps_raise rfl rfl mBN XBN.exc PySem.F.excBase_ValueError (pa_cons (pe_fstr (pv 1)) pa_nil) goes1)) pss_nil)
      (pss_cut (ps_if (pt_cmp (pc_din hu (pv 1) (pe_fld (pv 0) rfl))) (pss_one (ps_raise rfl rfl mKn XKn.exc PySem.F.excBase_ValueError (pa_cons (pe_fstr (pv 1)) pa_nil) goes1)) pss_nil)
      (pss_cut (ps_expr (pe_meth (pe_meth0 (pv 0) cH hmHN GHN hr3 bHN .nil pass1) cB hmMH GMH hr1 bMH .nil pass1 (pa_cons (pv 2) pa_nil)))
      (pss_cut (ps_if (pt_cmpR op_ge (pe_callB call_lenD (by rfl) T.len PySem.boot_len (pa_cons (pe_fld (pv 0) rfl) pa_nil)) (pe_glob (v := .int 50) rfl hmc ⟨_, rfl⟩) (nomark _)) (pss_one (ps_raise rfl rfl mFu XFu.exc PySem.F.excBase_ValueError (pa_cons pe_str pa_nil) goes1)) pss_nil)
      (pss_one (ps_dput hu (pe_fld (pv 0) rfl) (pv 1) (pv 2) rfl)))))), ?_⟩
    have hs := sz1000
    refine cutQ (fun σ' H' => goodB c = true ∧ σ' = [some (.ref A0.x), some (.str c), some (.str z)] ∧ Same H H') (fun R hR => ?_) ?_
    · walk_at "dm"
      refine ⟨c, rfl, hc.1, fun H2 S2 => ?_⟩
      by_cases hg : goodB c = true
      · rw [hg]
        exact ⟨_, rfl, ite2 (fun h => by cases h) (fun _ => hR _ _ ⟨hg, rfl, S2⟩)⟩
      · have hg' : goodB c = false := by simpa using hg
        rw [hg']
        exact ⟨_, rfl, ite2 (fun _ => ⟨hc.1, hc.2, fun y => ⟨by decide, qb hg' _ S2⟩⟩) (fun h => absurd rfl h)⟩
    rintro σ1 H1 ⟨hg, rfl, S1⟩
    have hh1 := Same.house S1 hh
    refine cutQ (fun σ' H' => c ∉ h.cl.map (·.1) ∧ σ' = [some (.ref A0.x), some (.str c), some (.str z)] ∧ H' = H1) (fun R hR => ?_) ?_
    · by_cases hm : c ∈ h.cl.map (·.1)
      · obtain ⟨c0, hc0, rfl⟩ := List.mem_map.mp hm
        walk_at "dm"
        exact ⟨CH, A0.dx, _, hh1.ins, hX.c, hX.n1, _, lk_first, A0.d1, rfl, _, .inl ⟨_, Sum.inr c0.1, .inl hh1.cl, rfl, (valV_cl ho.cnd hc0).symm⟩, hc.1, hc.2, fun y => ⟨by decide, qk hg hm _ S1⟩⟩
      · walk_at "dm"
        exact ⟨CH, A0.dx, _, hh1.ins, hX.c, hX.n1, _, lk_first, A0.d1, rfl, none, .inl ⟨_, Sum.inr c, .inl hh1.cl, rfl, (valV_cl_none hm).symm⟩, hR _ _ ⟨hm, rfl, rfl⟩⟩
    rintro σ2 H2 ⟨hm, rfl, rfl⟩
    refine cutQ (fun σ' H' => z ∈ ss ∧ σ' = [some (.ref A0.x), some (.str c), some (.str z)] ∧ Same H H') (fun R hR => ?_) ?_
    · walk_at "dm"
      refine ⟨A0.dx, _, hh1.ins, lk_oth (by decide +kernel) (by decide +kernel) (by decide +kernel) (by decide +kernel), A0, W, ss, names, h, rfl, hh1, ho, fun r H3 S3 hbk => ?_⟩
      have hbk2 := Same.book (Same.house S3 hh1).up hbk
      have hbk3 := hbk2
      obtain ⟨dxb, tb, db, so, b1, b2, b3, b4, b5⟩ := hbk2
      exact ⟨r, rfl, dxb, _, b1, lk_other (by decide +kernel) (by decide +kernel), r, _, _, z, rfl, hbk3, hz, fun hzs => hR _ _ ⟨((ho.on 400).2.2 z).mp hzs, rfl, S1.trans S3⟩, fun hzs => qs hg hm (fun y => hzs (((ho.on 400).2.2 z).mpr y)) _ (S1.trans S3)⟩
    rintro σ3 H3 ⟨hzs, rfl, S3⟩
    have hh3 := Same.house S3 hh
    refine cutQ (fun σ' H' => h.cl.length < 50 ∧ σ' = [some (.ref A0.x), some (.str c), some (.str z)] ∧ H' = H3) (fun R hR => ?_) ?_
    · walk_at "dm"
      refine ⟨CH, A0.dx, _, hh3.ins, hX.c, hX.n1, _, lk_first, A0.d1, rfl, _, hh3.cl, ?_⟩
      rw [clV_len]
      exact ite2 (fun h5 => ⟨by decide, qf hg hm hzs (by omega) _ S3⟩) (fun h5 => hR _ _ ⟨by omega, rfl, rfl⟩)
    rintro σ4 H4 ⟨h50, rfl, rfl⟩
    obtain ⟨n1, n2, n3, n4, n5⟩ := hh3.xd
    walk_at "dm"
    refine ⟨CH, A0.dx, _, hh3.ins, hX.c, hX.n1, _, lk_first, A0.d1, rfl, _, .inl ⟨_, Sum.inr c, hh3.cl, rfl, by rw [clV_len]; omega, rfl⟩, ?_⟩
    rw [clV_snoc hm]
    have eh : hid (upd H4 A0.d1 (.dK (clV (h.cl ++ [(c, z)])))) A0 = hid H4 A0 := hid_put (.inr (.inl rfl))
    refine q hg hm hzs h50 _ (by rw [eh]; exact hid_same S3) ?_
    obtain ⟨h1, h2, ⟨ps, h3, h4, h5⟩, ⟨rs, h6, h7, h8⟩, h9, h10⟩ := hh3
    exact ⟨by rw [upd_ne n1]; exact h1, upd_same, ⟨ps, by rw [upd_ne (Ne.symm n4)]; exact h3, h4, h5⟩, ⟨rs, by rw [upd_ne (Ne.symm h9)]; exact h6, h7, h8⟩, h9, by rw [eh]; exact h10⟩
end

section
variable {P : Program} {w : World} {K : PySem.W.Frag} {mg : Str → Option Value} {base : Heap}
theorem shadeL_mem {ss names : List Str} {h : Hs} (ho : HsOk ss names h) {c : Str} (hc : c ∈ h.cl.map (·.1)) (d : Int) : shadeL h c d ∈ ss := by
  unfold shadeL
  split
  · rename_i e he
    have hm := List.mem_of_getLast? he
    unfold trailL at hm
    obtain ⟨x, hx, rfl⟩ := List.mem_map.mp hm
    exact ho.ds x (List.mem_filter.mp hx).1
  · obtain ⟨c0, hc0, rfl⟩ := List.mem_map.mp hc
    rw [lookup_mem ho.cnd hc0]
    exact ho.csh c0 hc0
def spHDip (CH CB cNC cNB cND cLa cFu : Addr) : Sp := fun vs H Q E => ∃ (A : Ad) (W : Hp) (ss names : List Str) (h : Hs) (c b : Str) (d : Int), vs = [.ref A.x, .str c, .str b, .int d] ∧ HouseAt H CH CB A W ss h ∧ HsOk ss names h ∧ Shw c ∧ Shw b ∧ (c ∉ h.cl.map (·.1) → ∀ H', Same H H' → E (.ref cNC) none H') ∧ (c ∈ h.cl.map (·.1) → b ∉ names → ∀ H', Same H H' → E (.ref cNB) none H') ∧ (c ∈ h.cl.map (·.1) → b ∈ names → ¬ (1 ≤ d ∧ d ≤ 400) → ∀ H', Same H H' → E (.ref cND) none H') ∧ (c ∈ h.cl.map (·.1) → b ∈ names → (1 ≤ d ∧ d ≤ 400) → d < h.day → ∀ H', Same H H' → E (.ref cLa) none H') ∧ (c ∈ h.cl.map (·.1) → b ∈ names → (1 ≤ d ∧ d ≤ 400) → h.day ≤ d → 1000 ≤ h.dp.length → ∀ H', Same H H' → E (.ref cFu) none H') ∧ (c ∈ h.cl.map (·.1) → b ∈ names → (1 ≤ d ∧ d ≤ 400) → h.day ≤ d → h.dp.length < 1000 → ∀ H' W', Same (hid H A) (hid H' A) → Grows H W W' → HouseAt H' CH CB A W' ss { h with day := d, dp := h.dp ++ [(d, c, b, lkB (bkOn h.bk d).1 (bkOn h.bk d).2 b (shadeL h c d))] } → Q (.str (lkB (bkOn h.bk d).1 (bkOn h.bk d).2 b (shadeL h c d))) H')
theorem scHDip : FnScope ["self", "cloth", "bath", "day", "out"] ["self", "cloth", "bath", "day"] (defScope sHDip) := ⟨rfl, rfl, rfl, by decide +kernel, rfl, by decide +kernel, by decide +kernel⟩
theorem ok_hdip {f fHC fHN fMC fHD fHB fHS fMO : Addr} {fd fdHC fdHN fdMC fdHD fdHB fdHS fdMO : FuncData} {CH CB cFu cLa cNB cNC cND : Addr} (F : Fun K "dip" "House.dip" sHDip f fd)
    (T : Txt mg) (hX : Hx K mg CH) (cB : Cls K CB) (XFu : ExcC K cFu) (mFu : mg "Full" = some (.ref cFu))
    (GHC : FnOk P w K mg base (CX1 P w) 1 fHC fdHC ["self", "cloth"] (spHCC CH CB cNC)) (hmHC : Meth K CH "check_cloth" fHC) (bHC : Binds K fdHC ["self", "cloth"] [])
    (GHN : FnOk P w K mg base (CX1 P w) 3 fHN fdHN ["self"] (spHNew CH CB)) (hmHN : Meth K CH "newest_book" fHN) (bHN : Binds K fdHN ["self"] [])
    (GMC : FnOk P w K mg base (CX1 P w) 1 fMC fdMC ["self", "bath"] (spBCheckX CB cNB)) (hmMC : Meth K CB "check_bath" fMC) (bMC : Binds K fdMC ["self", "bath"] [])
    (GHD : FnOk P w K mg base (CX1 P w) 2 fHD fdHD ["self", "day"] (spHCD CH CB cND cLa)) (hmHD : Meth K CH "check_day_to_do" fHD) (bHD : Binds K fdHD ["self", "day"] [])
    (GHB : FnOk P w K mg base (CX1 P w) 2 fHB fdHB ["self", "day"] (spHBook CH CB cND)) (hmHB : Meth K CH "book" fHB) (bHB : Binds K fdHB ["self", "day"] [])
    (GHS : FnOk P w K mg base (CX1 P w) 3 fHS fdHS ["self", "cloth", "day"] (spHShade CH CB cNC cND)) (hmHS : Meth K CH "shade" fHS) (bHS : Binds K fdHS ["self", "cloth", "day"] [])
    (GMO : FnOk P w K mg base CX0 2 fMO fdMO ["self", "bath", "shade"] (spBOut CB)) (hmMO : Meth K CB "out" fMO) (bMO : Binds K fdMO ["self", "bath", "shade"] []) :
    FnOk P w K mg base (CX1 P w) 5 f fd ["self", "cloth", "bath", "day"] (spHDip CH CB cNC cNB cND cLa cFu) := by
  refine F.okX scHDip (fun vs H Q E h => ?_) (fun cdv A outer s H vs Q E hr h => ?_)
  · obtain ⟨_, _, _, _, _, _, _, _, rfl, _⟩ := h
    rfl
  · obtain ⟨A0, W, ss, names, h, c, b, d, rfl, hh, ho, hc, hb, qc, qb, qd, ql, qf, q⟩ := h
    obtain ⟨_, hmd⟩ := hX.md
    have cH := hX.c
    have hr1 := hr.mono (j := 1) (by omega)
    have hr2 := hr.mono (j := 2) (by omega)
    have hr3 := hr.mono (j := 3) (by omega)
    refine ⟨_, (pss_cut (ps_expr (pe_meth (pv 0) cH hmHC GHC hr1 bHC .nil pass1 (pa_cons (pv 1) pa_nil)))
      (pss_cut (ps_expr (pe_meth (pe_meth0 (pv 0) cH hmHN GHN hr3 bHN .nil pass1) cB hmMC GMC hr1 bMC .nil pass1 (pa_cons (pv 2) pa_nil)))
      (pss_cut (ps_expr (pe_meth (pv 0) cH hmHD GHD hr2 bHD .nil pass1 (pa_cons (pv 3) pa_nil)))
      (pss_cut (ps_if (pt_cmpR op_ge (pe_callB call_len_seq (by rfl) T.len PySem.boot_len (pa_cons (pe_fld (pv 0) rfl) pa_nil)) (pe_glob (v := .int 1000) rfl hmd ⟨_, rfl⟩) (nomark _)) (pss_one (ps_raise rfl rfl mFu XFu.exc PySem.F.excBase_ValueError (pa_cons pe_str pa_nil) goes1)) pss_nil)
      (pss_cut (ps_set (i := 4) scHDip.nd rfl (Or.inl rfl) (pe_meth (pe_meth (pv 0) cH hmHB GHB hr2 bHB .nil pass1 (pa_cons (pv 3) pa_nil)) cB hmMO GMO hr2 bMO .nil pass0 (pa_cons (pv 2) (pa_cons (pe_meth (pv 0) cH hmHS GHS hr3 bHS .nil pass1 (pa_cons (pv 1) (pa_cons (pv 3) pa_nil))) pa_nil))))
      (pss_cut (ps_expr (pe_bm PySem.F.plainAttrs_list PySem.F.slot_list_append PySem.F.type_list_append mt_append (pe_fld (pv 0) rfl) (pa_cons (pe_tup (pa_cons (pv 3) (pa_cons (pv 1) (pa_cons (pv 2) (pa_cons (pv 4) pa_nil))))) pa_nil)))
      (pss_cut (ps_fld (pv 0) (pv 3) rfl)
      (pss_one (ps_ret (pv 4)))))))))), ?_⟩
    have hs := sz1000
    have lo : ∀ {m : Str} {dd : Int}, (m == Str.ofString "first_shades") = false → (m == Str.ofString "day_now") = false → (m == Str.ofString "standing") = false → (m == Str.ofString "books_from") = false → List.lookup m (hfs A0 dd) = none := fun h1 h2 h3 h4 => lk_oth h1 h2 h3 h4
    refine cutQ (fun σ' H' => c ∈ h.cl.map (·.1) ∧ σ' = [some (.ref A0.x), some (.str c), some (.str b), some (.int d), none] ∧ H' = H) (fun R hR => ?_) ?_
    · walk_at "dm"
      exact ⟨A0.dx, _, hh.ins, lo (by decide +kernel) (by decide +kernel) (by decide +kernel) (by decide +kernel), A0, W, ss, h, c, rfl, hh, hc, ho.cnd, fun hm => hR _ _ ⟨hm, rfl, rfl⟩, fun hm => qc hm _ (Same.refl H)⟩
    rintro σ1 H1 ⟨hm, rfl, rfl⟩
    refine cutQ (fun σ' H' => b ∈ names ∧ σ' = [some (.ref A0.x), some (.str c), some (.str b), some (.int d), none] ∧ Same H1 H') (fun R hR => ?_) ?_
    · walk_at "dm"
      refine ⟨A0.dx, _, hh.ins, lo (by decide +kernel) (by decide +kernel) (by decide +kernel) (by decide +kernel), A0, W, ss, names, h, rfl, hh, ho, fun r H3 S3 hbk => ?_⟩
      have hbk2 := Same.book (Same.house S3 hh).up hbk
      have hbk3 := hbk2
      obtain ⟨dxb, tb, db, so, b1, b2, b3, b4, b5⟩ := hbk2
      obtain ⟨B, hN, _⟩ := ho.on 400
      exact ⟨r, rfl, dxb, _, b1, lk_other (by decide +kernel) (by decide +kernel), r, _, _, b, rfl, hbk3, B, hb, fun hzs => hR _ _ ⟨(hN b).mp hzs, rfl, S3⟩, fun hzs => qb hm (fun z => hzs ((hN b).mpr z)) _ S3⟩
    rintro σ2 H2 ⟨hbn, rfl, S2⟩
    have hh2 := Same.house S2 hh
    refine cutQ (fun σ' H' => (1 ≤ d ∧ d ≤ 400) ∧ h.day ≤ d ∧ σ' = [some (.ref A0.x), some (.str c), some (.str b), some (.int d), none] ∧ H' = H2) (fun R hR => ?_) ?_
    · walk_at "dm"
      exact ⟨A0.dx, _, hh2.ins, lo (by decide +kernel) (by decide +kernel) (by decide +kernel) (by decide +kernel), A0, W, ss, h, d, rfl, hh2, fun hd hl => hR _ _ ⟨hd, hl, rfl, rfl⟩, fun hd => qd hm hbn hd _ S2, fun hd hl => ql hm hbn hd hl _ S2⟩
    rintro σ3 H3 ⟨hd, hl, rfl, rfl⟩
    obtain ⟨ps, hls, hpl, hpT⟩ := hh2.dp
    refine cutQ (fun σ' H' => h.dp.length < 1000 ∧ σ' = [some (.ref A0.x), some (.str c), some (.str b), some (.int d), none] ∧ H' = H3) (fun R hR => ?_) ?_
    · walk_at "dm"
      refine ⟨CH, A0.dx, _, hh2.ins, hX.c, hX.n3, _, lk_stand, A0.ls, rfl, _, .inl (SqL.of hls), ?_⟩
      rw [List.length_map, hpl]
      exact ite2 (fun h5 => ⟨by decide, qf hm hbn hd hl (by omega) _ S2⟩) (fun h5 => hR _ _ ⟨by omega, rfl, rfl⟩)
    rintro σ4 H4 ⟨h1000, rfl, rfl⟩
    obtain ⟨B, hN, hZ⟩ := ho.on d
    refine cutQ (fun σ' H' => σ' = [some (.ref A0.x), some (.str c), some (.str b), some (.int d), some (.str (lkB (bkOn h.bk d).1 (bkOn h.bk d).2 b (shadeL h c d)))] ∧ Same H4 H') (fun R hR => ?_) ?_
    · walk_at "dm"
      refine ⟨A0.dx, _, hh2.ins, lo (by decide +kernel) (by decide +kernel) (by decide +kernel) (by decide +kernel), A0, W, ss, names, h, d, rfl, hh2, ho, fun _ r H5 S5 hbk => ?_, fun hn => absurd hd hn⟩
      have hbk2 := Same.book (Same.house S5 hh2).up hbk
      have hbk3 := hbk2
      obtain ⟨dxb, tb, db, so, b1, b2, b3, b4, b5⟩ := hbk2
      refine ⟨r, rfl, dxb, _, b1, lk_other (by decide +kernel) (by decide +kernel), A0.dx, _, S5 _ _ hh2.ins, lo (by decide +kernel) (by decide +kernel) (by decide +kernel) (by decide +kernel), A0, W, ss, names, h, c, d, rfl, Same.house S5 hh2, ho, hc, fun _ _ H6 S6 => ?_, fun hn => absurd hm hn, fun _ hn => absurd hd hn⟩
      obtain ⟨bb, hbb, rfl⟩ := List.mem_map.mp ((hN b).mpr hbn)
      refine ⟨r, _, _, bb, _, rfl, Same.book S6 hbk3, B, hbb, (hZ _).mpr (shadeL_mem ho hm d), ?_⟩
      rw [← lkB_eq _ B.bnd hbb]
      exact hR _ _ ⟨rfl, S5.trans S6⟩
    rintro σ5 H5 ⟨rfl, S5⟩
    generalize hout : lkB (bkOn h.bk d).1 (bkOn h.bk d).2 b (shadeL h c d) = out at q
    have hh5 := Same.house S5 hh2
    obtain ⟨n1, n2, n3, n4, n5⟩ := hh5.xd
    have hls5 := S5 _ _ hls
    refine cutQ (fun σ' H' => ∃ t, σ' = [some (.ref A0.x), some (.str c), some (.str b), some (.int d), some (.str out)] ∧ H5 t = none ∧ H' = upd (upd H5 t (.tup [.int d, .str c, .str b, .str out])) A0.ls (.lst (ps.map V.ref ++ [V.ref t]))) (fun R hR => ?_) ?_
    · walk_at "dm"
      refine ⟨CH, A0.dx, _, hh5.ins, hX.c, hX.n3, _, lk_stand, ?_⟩
      refine ⟨.inl ⟨rfl, _, SqL.of hls5⟩, by omega, fun t ht => ⟨A0.ls, rfl, _, ?_, by rw [List.length_map]; omega, hR _ _ ⟨t, rfl, ht, rfl⟩⟩⟩
      rw [upd_ne (ne_of_none hls5 ht)]
      exact hls5
    rintro σ6 H6 ⟨t, rfl, ht, rfl⟩
    have htx : A0.x ≠ t := ne_of_none hh5.ins ht
    have htl : A0.ls ≠ t := ne_of_none hls5 ht
    refine cutQ (fun σ' H' => σ' = [some (.ref A0.x), some (.str c), some (.str b), some (.int d), some (.str out)] ∧ H' = upd (upd (upd H5 t (.tup [.int d, .str c, .str b, .str out])) A0.ls (.lst (ps.map V.ref ++ [V.ref t]))) A0.x (.ins CH A0.dx (hfs A0 d))) (fun R hR => ?_) ?_
    · walk_at "dm"
      refine ⟨CH, A0.dx, _, by rw [upd_ne n2, upd_ne htx]; exact hh5.ins, hX.c, hX.n2, by show 4 < 1000; decide, hR _ _ ⟨rfl, ?_⟩⟩
      rw [pFd]
    rintro σ7 H7 ⟨rfl, rfl⟩
    walk_at "dm"
    have e1 : hid (upd (upd (upd H5 t (.tup [.int d, .str c, .str b, .str out])) A0.ls (.lst (ps.map V.ref ++ [V.ref t]))) A0.x (.ins CH A0.dx (hfs A0 d))) A0 = hid (upd H5 t (.tup [.int d, .str c, .str b, .str out])) A0 := by
      rw [hid_put (.inl rfl), hid_put (.inr (.inr (.inl rfl)))]
    have St : Same H5 (upd H5 t (.tup [.int d, .str c, .str b, .str out])) := Same.updN ht
    obtain ⟨h1, h2, ⟨ps', h3, h4, h5⟩, ⟨rs, h6, h7, h8⟩, h9, h10⟩ := hh5
    have hWt : W t = none := by
      have hx : hid H5 A0 t = none := by unfold hid; rw [ht]; split <;> rfl
      exact h10.free hx
    have htd : A0.d1 ≠ t := ne_of_none h2 ht
    have htb : A0.db ≠ t := ne_of_none h6 ht
    have SW : Same W (upd W t (.tup [.int d, .str c, .str b, .str out])) := Same.updN hWt
    refine q hm hbn hd hl h1000 _ (upd W t (.tup [.int d, .str c, .str b, .str out])) (by rw [e1]; exact hid_same ((S2.trans S5).trans St)) ⟨SW, fun y o hy hHy => ?_⟩ ?_
    · have hyt : y ≠ t := fun z => by rw [z] at hHy; have := (S2.trans S5) _ _ hHy; rw [ht] at this; cases this
      rw [upd_ne hyt]; exact hy
    have eps : ps' = ps := by
      rw [hls5] at h3
      have h3' : ps.map V.ref = ps'.map V.ref := by simpa using h3
      exact (List.map_inj_right (fun a b e => by simpa using e)).mp h3'.symm
    subst eps
    refine ⟨upd_same, by rw [upd_ne (Ne.symm n1), upd_ne n4, upd_ne htd]; exact h2, ⟨ps' ++ [t], by rw [upd_ne (Ne.symm n2), upd_same, List.map_append]; rfl, by rw [List.length_append, List.length_append, h4]; rfl, ?_⟩, ⟨rs, by rw [upd_ne (Ne.symm n3), upd_ne (Ne.symm n5), upd_ne htb]; exact h6, h7, fun i r e hr he => Same.book SW (h8 i r e hr he)⟩, h9, ?_⟩
    · intro i p e hp he
      by_cases hi : i < ps'.length
      · rw [List.getElem?_append_left hi] at hp
        rw [List.getElem?_append_left (by omega)] at he
        exact SW _ _ (h5 i p e hp he)
      · have hj : i = ps'.length := by
          have := (List.getElem?_eq_some_iff.mp hp).1
          rw [List.length_append, List.length_singleton] at this
          omega
        subst hj
        rw [List.getElem?_append_right (Nat.le_refl _), Nat.sub_self] at hp
        rw [List.getElem?_append_right (by omega), h4, Nat.sub_self] at he
        cases hp
        cases he
        exact upd_same
    · rw [e1, hid_upd (Ne.symm htx) (Ne.symm htd) (Ne.symm htl) (Ne.symm htb)]
      intro y o hy
      by_cases hyt : y = t
      · rw [hyt, upd_same] at hy; rw [hyt, upd_same]; exact hy
      · rw [upd_ne hyt] at hy; rw [upd_ne hyt]; exact h10 _ _ hy
end

section
variable {P : Program} {w : World} {K : PySem.W.Frag} {mg : Str → Option Value} {base : Heap}
theorem trailL_snoc (dp : List (Int × Str × Str × Str)) (d : Int) (c b o z : Str) (e : Int) : trailL (dp ++ [(d, c, b, o)]) z e = trailL dp z e ++ (if c = z ∧ d ≤ e then [(d, b, o)] else []) := by
  unfold trailL
  rw [List.filter_append, List.map_append]
  congr 1
  by_cases h : c = z ∧ d ≤ e
  · rw [if_pos h]
    simp [h.1, h.2]
  · rw [if_neg h]
    have : (decide (c = z) && decide (d ≤ e)) = false := by
      rw [Bool.and_eq_false_iff]
      by_cases hc : c = z
      · exact .inr (decide_eq_false fun z => h ⟨hc, z⟩)
      · exact .inl (decide_eq_false hc)
    simp [this]
theorem shadeL_snoc (h : Hs) (d : Int) (c b o z : Str) (e dy : Int) : shadeL { h with day := dy, dp := h.dp ++ [(d, c, b, o)] } z e = if c = z ∧ d ≤ e then o else shadeL h z e := by
  unfold shadeL
  show (match (trailL (h.dp ++ [(d, c, b, o)]) z e).getLast? with | some e => e.2.2 | none => _) = _
  rw [trailL_snoc]
  by_cases hc : c = z ∧ d ≤ e
  · rw [if_pos hc, if_pos hc, List.getLast?_append]
    rfl
  · rw [if_neg hc, if_neg hc, List.append_nil]
    all_goals rfl
theorem HsOk.dip {ss names : List Str} {h : Hs} {d : Int} {c b o : Str} (ho : HsOk ss names h) (hd : 1 ≤ d ∧ d ≤ 400) (hl : h.day ≤ d) (hn : h.dp.length < 1000) (hos : o ∈ ss) : HsOk ss names { h with day := d, dp := h.dp ++ [(d, c, b, o)] } :=
  ⟨ho.cnd, ho.csh, ho.cnm, hd.1, hd.2, by show (h.dp ++ _).length ≤ 1000; rw [List.length_append, List.length_singleton]; omega, fun e he => by
      rcases List.mem_append.mp he with he | he
      · have := ho.dd e he; exact ⟨this.1, by show e.1 ≤ d; omega⟩
      · rw [List.mem_singleton.mp he]; exact ⟨hd.1, Int.le_refl _⟩, fun e he => by
      rcases List.mem_append.mp he with he | he
      · exact ho.ds e he
      · rw [List.mem_singleton.mp he]; exact hos, ho.k1, ho.ks, fun e he => by have := ho.kd e he; exact ⟨this.1, by show e.1 ≤ d; omega⟩, ho.kl, ho.kb⟩
theorem HsOk.bring {ss names : List Str} {h : Hs} {c z : Str} (ho : HsOk ss names h) (hc : c ∉ h.cl.map (·.1)) (hz : z ∈ ss) (hg : goodB c = true) : HsOk ss names { h with cl := h.cl ++ [(c, z)] } :=
  ⟨by show ((h.cl ++ _).map _).Nodup; rw [List.map_append]; exact nd_snoc ho.cnd hc, fun e he => by
      rcases List.mem_append.mp he with he | he
      · exact ho.csh e he
      · rw [List.mem_singleton.mp he]; exact hz, fun e he => by
      rcases List.mem_append.mp he with he | he
      · exact ho.cnm e he
      · rw [List.mem_singleton.mp he]; exact hg, ho.d1, ho.d4, ho.dl, ho.dd, ho.ds, ho.k1, ho.ks, ho.kd, ho.kl, ho.kb⟩
theorem HsOk.new {ss : List Str} {bs : List (Str × List Str)} (B : BookIn ss bs) : HsOk ss (bs.map (·.1)) ⟨[], 1, [], [(1, (ss, bs))]⟩ :=
  ⟨List.nodup_nil, (fun e he => by cases he), (fun e he => by cases he), by show (1 : Int) ≤ 1; decide, by show (1 : Int) ≤ 400; decide, by show 0 ≤ 1000; decide, (fun e he => by cases he), (fun e he => by cases he), ⟨(ss, bs), [], rfl⟩, List.pairwise_singleton _ _, fun e he => by rw [List.mem_singleton.mp he]; exact ⟨by show (1 : Int) ≤ 1; decide, by show (1 : Int) ≤ 1; decide⟩, by show 1 ≤ 400; decide, fun e he => by rw [List.mem_singleton.mp he]; exact ⟨B, fun n => Iff.rfl, fun z => Iff.rfl⟩⟩
end

section
variable {P : Program} {w : World} {K : PySem.W.Frag} {mg : Str → Option Value} {base : Heap}
theorem hid_of {H : Hp} {A : Ad} {b : Addr} {o : HO} (h : H b = some o) (b1 : b ≠ A.x) (b2 : b ≠ A.d1) (b3 : b ≠ A.ls) (b4 : b ≠ A.db) : hid H A b = some o := by
  unfold hid; rw [if_neg (fun z => by rcases z with z | z | z | z; exact b1 z; exact b2 z; exact b3 z; exact b4 z)]; exact h
theorem hid_new {H H' : Hp} {C CB : Addr} {A : Ad} {W : Hp} {ss : List Str} {h : Hs} {b : Addr} {o : HO} (hh : HouseAt H C CB A W ss h) (hb : H b = none) (h' : H' b = some o) : hid H' A b = some o := by
  obtain ⟨_, hls, _⟩ := hh.dp
  obtain ⟨_, hdb, _⟩ := hh.bk
  exact hid_of h' (fun z => by rw [z, hh.ins] at hb; cases hb) (fun z => by rw [z, hh.cl] at hb; cases hb) (fun z => by rw [z, hls] at hb; cases hb) (fun z => by rw [z, hdb] at hb; cases hb)
theorem cutTn {xs : List V} {k : Nat} : cutV xs none (some (k : Int)) = xs.take k := by
  unfold cutV
  have e1 : HT.sIx xs.length 0 none = 0 := rfl
  have e2 : HT.sIx xs.length xs.length (some (k : Int)) = min k xs.length := by rw [HT.sIx_nat]
  rw [e1, e2, List.drop_zero, Nat.sub_zero]
  rcases Nat.le_total k xs.length with h | h
  · rw [Nat.min_eq_left h]
  · rw [Nat.min_eq_right h, List.take_length, List.take_of_length_le h]
theorem ordP_comm (x y : Str) : ordP x y = ordP y x := by
  unfold ordP
  by_cases h1 : y.cps.toList < x.cps.toList
  · by_cases h2 : x.cps.toList < y.cps.toList
    · exact absurd (List.lt_trans h1 h2) (List.lt_irrefl _)
    · rw [if_pos h1, if_neg h2]
  · by_cases h2 : x.cps.toList < y.cps.toList
    · rw [if_neg h1, if_pos h2]
    · rw [if_neg h1, if_neg h2]
      have e : x = y := leS_anti (leS_iff.mpr h1) (leS_iff.mpr h2)
      rw [e]
theorem zip_snoc {cs so : List Str} {i : Nat} {c z : Str} (hc : cs[i]? = some c) (hz : so[i]? = some z) : (cs.take (i + 1)).zip (so.take (i + 1)) = (cs.take i).zip (so.take i) ++ [(c, z)] := by
  have h1 := (List.getElem?_eq_some_iff.mp hc).1
  have h2 := (List.getElem?_eq_some_iff.mp hz).1
  rw [take_snoc hc, take_snoc hz, List.zip_append (by rw [List.length_take, List.length_take]; omega)]
  rfl
def TR (lk : Str → Str → Str) (row : List Str) (dy st : Int) (z : Str) (j : Nat) : List (Int × Str × Str) := (List.range j).map fun k : Nat => (dy + (k : Int) * st, row.getD k ⟨#[]⟩, endL lk (row.take (k + 1)) z)
theorem TR_snoc {lk : Str → Str → Str} {row : List Str} {dy st : Int} {z n : Str} {j : Nat} (h : row[j]? = some n) : TR lk row dy st z (j + 1) = TR lk row dy st z j ++ [(dy + (j : Int) * st, n, lk n (endL lk (row.take j) z))] := by
  unfold TR
  rw [List.range_succ, List.map_append]
  show _ ++ [(dy + (j : Int) * st, row.getD j ⟨#[]⟩, endL lk (row.take (j + 1)) z)] = _
  rw [endL_snoc h, List.getD_eq_getElem?_getD, h]
  rfl
theorem shade_TR {lk : Str → Str → Str} {row : List Str} {dy st : Int} {h : Hs} {c z : Str} {j : Nat} (hj : j ≤ row.length) (ht : trailL h.dp c 400 = TR lk row dy st z j) (hl : h.cl.lookup c = some z) : shadeL h c 400 = endL lk (row.take j) z := by
  unfold shadeL
  rw [ht]
  cases j with
  | zero =>
    show (h.cl.lookup c).getD ⟨#[]⟩ = z
    rw [hl]; rfl
  | succ j =>
    obtain ⟨n, hn⟩ : ∃ n, row[j]? = some n := ⟨_, List.getElem?_eq_getElem (by omega)⟩
    rw [TR_snoc hn, List.getLast?_append]
    show lk n (endL lk (row.take j) z) = _
    rw [endL_snoc hn]
theorem shadeL_late2 {h : Hs} {d e : Int} (hd : ∀ x ∈ h.dp, x.1 ≤ d) (he : d ≤ e) (c : Str) : shadeL h c e = shadeL h c d := by
  have : trailL h.dp c e = trailL h.dp c d := by
    unfold trailL
    congr 1
    refine List.filter_congr fun x hx => ?_
    have := hd x hx
    rw [decide_eq_true (show x.1 ≤ e by omega), decide_eq_true this]
  unfold shadeL
  rw [this]
def abc : List Str := ["a", "b", "c", "d", "e", "f", "g", "h", "i", "j", "k", "l"].map Str.ofString
theorem abc_nd : abc.Nodup := by decide +kernel
theorem abc_ok : ∀ c ∈ abc, Shw c ∧ goodB c = true := by
  unfold Shw
  decide +kernel
def spAllDip (K : PySem.W.Frag) (CH CB : Addr) : Sp := fun vs H Q _ => ∃ (x lo t r : Addr) (so sb : List Str) (bb : List (Str × List Str)) (row : List Str) (zz : Str) (d : Int), vs = [.ref x, .ref lo, .ref t, .int d] ∧ BookAt H CB x sb bb ∧ BookIn sb bb ∧ H lo = some (.lst (so.map V.str)) ∧ (∀ z ∈ so, z ∈ sb) ∧ 1 ≤ so.length ∧ so.length ≤ 12 ∧ H t = some (.tup [.ref r, .str zz]) ∧ H r = some (.lst (row.map V.str)) ∧ (∀ n ∈ row, n ∈ bb.map (·.1)) ∧ row.length ≤ 1000 ∧ (∀ y ∈ sb, endL (lkB sb bb) row y = zz) ∧ 1 ≤ d ∧ d ≤ 400 ∧ ∀ H', Q (.bl true) H'
theorem scAllDip : FnScope ["_law_book", "_law_order", "_law_found", "_law_day", "_law_house", "_law_many", "_law_cloths", "_law_k", "_law_bath", "_law_cloth"] ["_law_book", "_law_order", "_law_found", "_law_day"] (defScope sAllDip) := ⟨rfl, rfl, rfl, by decide +kernel, rfl, by decide +kernel, by decide +kernel⟩
theorem ok_alldip {f fHR fHQ fHS fTI fHI : Addr} {fd fdHR fdHQ fdHS fdTI fdHI : FuncData} {CH CB cBN cKn cNS cFu cNC cNB cND cLa : Addr} (F : Fun K "_law_all_dipped" "_law_all_dipped" sAllDip f fd)
    (T : Txt mg) (hX : Hx K mg CH) (TM : mg "max" = none)
    (GHR : FnOk P w K mg base (CX1 P w) 5 fHR fdHR ["self", "cloth", "shade"] (spHBring CH CB cBN cKn cNS cFu)) (hmHR : Meth K CH "bring" fHR) (bHR : Binds K fdHR ["self", "cloth", "shade"] [])
    (GHQ : FnOk P w K mg base (CX1 P w) 5 fHQ fdHQ ["self", "cloth", "bath", "day"] (spHDip CH CB cNC cNB cND cLa cFu)) (hmHQ : Meth K CH "dip" fHQ) (bHQ : Binds K fdHQ ["self", "cloth", "bath", "day"] [])
    (GHS : FnOk P w K mg base (CX1 P w) 3 fHS fdHS ["self", "cloth", "day"] (spHShade CH CB cNC cND)) (hmHS : Meth K CH "shade" fHS) (bHS : Binds K fdHS ["self", "cloth", "day"] [])
    (GTI : FnOk P w K mg base CX0 1 fTI fdTI ["_law_found", "_law_due"] spTextIs) (kTI : PySem.W.keepIn K (.ref fTI) = true) (bTI : Binds K fdTI ["_law_found", "_law_due"] []) (mTI : mg "_law_text_is" = some (.ref fTI))
    (MH : Mk K CH fHI) (GHI : FnOk P w K mg base CX0 1 fHI fdHI ["self", "book"] (spHInit CH CB)) (bHI : Binds K fdHI ["self", "book"] []) (mCH : mg "House" = some (.ref CH)) :
    FnOk P w K mg base CX0 6 f fd ["_law_book", "_law_order", "_law_found", "_law_day"] (spAllDip K CH CB) := by
  refine F.ok scAllDip (fun vs H Q E h => ?_) (fun cdv A outer s H vs Q E hr h => ?_)
  · obtain ⟨_, _, _, _, _, _, _, _, _, _, rfl, _⟩ := h
    rfl
  · obtain ⟨x, lo, t, r, so, sb, bb, row, zz, d, rfl, hbk, Bb, hlo, hsob, hs1, hs12, ht, hr0, hrow, hrl, hend, hd1, hd4, q⟩ := h
    have cH := hX.c
    have hr1 := hr.mono (j := 1) (by omega)
    have hr2 := hr.mono (j := 2) (by omega)
    have hr3 := hr.mono (j := 3) (by omega)
    have hr5 := hr.mono (j := 5) (by omega)
    refine ⟨_, (pss_cut (ps_set (i := 4) scAllDip.nd rfl (Or.inl rfl) (pe_make MH GHI hr2 rfl mCH bHI .nil pass0 (pa_cons (pv 0) pa_nil)))
      (pss_cut (ps_set (i := 5) scAllDip.nd rfl (Or.inl rfl) (pe_callB (call_min2 rfl) (by rfl) T.min (by decide +kernel) (pa_cons (pe_callB call_len_seq (by rfl) T.len PySem.boot_len (pa_cons (pv 1) pa_nil)) (pa_cons (pe_op op_fdivB pe_int (pe_callB (call_max2 rfl) (by rfl) TM (by decide +kernel) (pa_cons pe_int (pa_cons (pe_callB call_len_seq (by rfl) T.len PySem.boot_len (pa_cons (pe_ix ix_tup (pv 2) pe_int (fun _ _ => rfl)) pa_nil)) pa_nil)))) pa_nil))))
      (pss_cut (ps_set (i := 6) scAllDip.nd rfl (Or.inl rfl) (pe_slice sl_list (pe_lst (pa_ss ["a", "b", "c", "d", "e", "f", "g", "h", "i", "j", "k", "l"] (by decide +kernel))) po_none (po_some (pv 5))))
      (pss_cut (ps_for PassesOwn.never rfl (pi_range1 rfl T.range (pa_cons (pv 5) pa_nil)) (pg_name (i := 7) scAllDip.nd rfl (Or.inl rfl)) (pss_one (ps_expr (pe_meth (pv 4) cH hmHR GHR hr5 bHR .nil passF (pa_cons (pe_ix ix_list (pv 6) (pv 7) (fun _ _ => rfl)) (pa_cons (pe_ix ix_list (pv 1) (pv 7) (fun _ _ => rfl)) pa_nil))))))
      (pss_cut (ps_for PassesOwn.never rfl (pi_list (pe_ix ix_tup (pv 2) pe_int (fun _ _ => rfl))) (pg_name (i := 8) scAllDip.nd rfl (Or.inl rfl)) (pss_one (ps_for PassesOwn.never rfl (pi_list (pv 6)) (pg_name (i := 9) scAllDip.nd rfl (Or.inl rfl)) (pss_one (ps_expr (pe_meth (pv 4) cH hmHQ GHQ hr5 bHQ .nil passF (pa_cons (pv 9) (pa_cons (pv 8) (pa_cons (pv 3) pa_nil)))))))))
      (pss_cut (ps_for PassesOwn.never rfl (pi_list (pv 6)) (pg_name (i := 9) scAllDip.nd rfl (Or.inl rfl)) (pss_one (ps_if (pt_not (pt_val (pe_call GTI hr1 rfl mTI kTI bTI .nil pass0 (pa_cons (pe_meth (pv 4) cH hmHS GHS hr3 bHS .nil passF (pa_cons (pv 9) (pa_cons (pv 3) pa_nil))) (pa_cons (pe_ix ix_tup (pv 2) pe_int (fun _ _ => rfl)) pa_nil))))) (pss_one (ps_ret pe_bl)) pss_nil)))
      (pss_one (ps_ret pe_bl)))))))), ?_⟩
    have hs := sz1000
    have lk0 : ∀ {A0 : Ad} {m : Str} {dd : Int}, (m == Str.ofString "first_shades") = false → (m == Str.ofString "day_now") = false → (m == Str.ofString "standing") = false → (m == Str.ofString "books_from") = false → List.lookup m (hfs A0 dd) = none := fun h1 h2 h3 h4 => lk_oth h1 h2 h3 h4
    refine cutQ (fun σ' H' => ∃ (A0 : Ad) (W : Hp), σ' = [some (.ref x), some (.ref lo), some (.ref t), some (.int d), some (.ref A0.x), none, none, none, none, none] ∧ Same H (hid H' A0) ∧ HouseAt H' CH CB A0 W sb ⟨[], 1, [], [(1, (sb, bb))]⟩) (fun R hR => ?_) ?_
    · walk_at "dm"
      intro xh dx hx hdx hne
      have S6' : Same H (hide (upd (upd H dx (.own xh)) xh (.ins CH dx [])) xh) := fun y o e => by
        rw [hide_at (ne_of_none e hx), upd_ne (ne_of_none e hx), upd_ne (ne_of_none e hdx)]; exact e
      exact ⟨xh, dx, x, _, sb, bb, rfl, upd_same, Same.refl _, Same.book S6' hbk, fun A0 H2 hA S7 hh => ⟨rfl, by rw [← hA]; exact hR _ _ ⟨A0, _, rfl, S6'.trans S7, hh⟩⟩⟩
    rintro σ1 H1 ⟨A0, W, rfl, S1, hh1⟩
    have ho1 := HsOk.new Bb
    have S1u := S1.trans (hid_sub (A := A0))
    refine cutQ (fun σ' H' => ∃ m : Nat, m ≤ so.length ∧ m * row.length ≤ 1000 ∧ σ' = [some (.ref x), some (.ref lo), some (.ref t), some (.int d), some (.ref A0.x), some (.int m), none, none, none, none] ∧ H' = H1) (fun R hR => ?_) ?_
    · walk_at "dm"
      refine ⟨_, .inl (SqL.of (S1u _ _ hlo)), _, SqT.of (S1u _ _ ht), _, rfl, r, rfl, _, .inl (SqL.of (S1u _ _ hr0)), ?_, ?_, ?_⟩
      · rw [List.length_map]; split <;> omega
      · rw [List.length_map]; split <;> omega
      · have eg : (if ((row.length : Nat) : Int) > 1 then ((row.length : Nat) : Int) else 1) = ((max 1 row.length : Nat) : Int) := by split <;> omega
        rw [List.length_map, List.length_map, eg]
        have ed : (1000 : Int) / ((max 1 row.length : Nat) : Int) = ((1000 / max 1 row.length : Nat) : Int) := (Int.natCast_ediv 1000 _).symm
        rw [ed]
        have em : (if ((1000 / max 1 row.length : Nat) : Int) < ((so.length : Nat) : Int) then ((1000 / max 1 row.length : Nat) : Int) else ((so.length : Nat) : Int)) = ((min so.length (1000 / max 1 row.length) : Nat) : Int) := by split <;> omega
        rw [em]
        exact hR _ _ ⟨_, Nat.min_le_left _ _, Nat.le_trans (Nat.mul_le_mul (Nat.min_le_right _ _) (Nat.le_max_right 1 _)) (Nat.div_mul_le_self _ _), rfl, rfl⟩
    rintro σ2 H2 ⟨m, hm1, hm2, rfl, rfl⟩
    refine cutQ (fun σ' H' => ∃ (lc : Addr) (cs : List Str), σ' = [some (.ref x), some (.ref lo), some (.ref t), some (.int d), some (.ref A0.x), some (.int m), some (.ref lc), none, none, none] ∧ Same H2 H' ∧ hid H' A0 lc = some (.lst (cs.map V.str)) ∧ cs.length = m ∧ cs.Nodup ∧ ∀ c ∈ cs, Shw c ∧ goodB c = true) (fun R hR => ?_) ?_
    · walk_at "dm"
      refine ⟨by omega, fun p hp => ⟨_, SqL.of upd_same, fun lc hlc => ?_⟩⟩
      have Sp := Same.updN (o := .lst (abc.map V.str)) hp
      refine hR _ _ ⟨lc, abc.take m, rfl, Sp.trans (Same.updN hlc), hid_new hh1 (Sp.free hlc) ?_, by rw [List.length_take]; show min m 12 = m; omega, abc_nd.sublist (List.take_sublist _ _), fun c hc => abc_ok c (List.mem_of_mem_take hc)⟩
      rw [upd_same, cutTn]
      show some (HO.lst ((abc.map V.str).take m)) = _
      rw [List.map_take]
    rintro σ3 H3 ⟨lc, cs, rfl, S3, hlc, hcl, hcnd, hcnm⟩
    have hh3 := Same.house S3 hh1
    have S3h : Same H (hid H3 A0) := S1.trans (hid_same S3)
    refine cutQ (fun σ' H' => ∃ o7, σ' = [some (.ref x), some (.ref lo), some (.ref t), some (.int d), some (.ref A0.x), some (.int m), some (.ref lc), o7, none, none] ∧ Same (hid H3 A0) (hid H' A0) ∧ HouseAt H' CH CB A0 W sb ⟨cs.zip (so.take m), 1, [], [(1, (sb, bb))]⟩ ∧ HsOk sb (bb.map (·.1)) ⟨cs.zip (so.take m), 1, [], [(1, (sb, bb))]⟩) (fun R hR => ?_) ?_
    · walk_at "dm"
      refine ⟨by omega, by omega, ?_⟩
      rw [Int.toNat_natCast]
      refine for_steadyQ (H0 := fun _ => none) steady_range (fun i σ' H' => ∃ o7, σ' = [some (.ref x), some (.ref lo), some (.ref t), some (.int d), some (.ref A0.x), some (.int m), some (.ref lc), o7, none, none] ∧ Same (hid H3 A0) (hid H' A0) ∧ HouseAt H' CH CB A0 W sb ⟨(cs.take i).zip (so.take i), 1, [], [(1, (sb, bb))]⟩ ∧ HsOk sb (bb.map (·.1)) ⟨(cs.take i).zip (so.take i), 1, [], [(1, (sb, bb))]⟩) ⟨none, rfl, Same.refl _, hh3, ho1⟩ (fun _ _ _ _ _ b o e => by cases e) ?_ ?_
      · rintro i y σ' H' hi rfl ⟨o7, rfl, hS, hh, ho⟩ R2 hR2
        have hz : (0 : Int) + (i : Int) = i := by omega
        rw [hz]
        obtain ⟨c, hc⟩ : ∃ c, cs[i]? = some c := ⟨_, List.getElem?_eq_getElem (by omega)⟩
        obtain ⟨z, hzi⟩ : ∃ z, so[i]? = some z := ⟨_, List.getElem?_eq_getElem (by omega)⟩
        have hzs : z ∈ sb := hsob z (List.mem_of_getElem? hzi)
        have hcm := hcnm c (List.mem_of_getElem? hc)
        have hcn : c ∉ ((cs.take i).zip (so.take i)).map (·.1) := fun h => by
          rw [List.map_fst_zip (by rw [List.length_take, List.length_take]; omega)] at h
          exact not_take hcnd hc h
        have hln : ((cs.take i).zip (so.take i)).length ≤ 12 := by rw [List.length_zip, List.length_take, List.length_take]; omega
        walk_at "dm"
        refine ⟨A0.dx, _, hh.ins, lk0 (by decide +kernel) (by decide +kernel) (by decide +kernel) (by decide +kernel), _, SqL.of (hid_sub _ _ (hS _ _ hlc)), _, atI_str hc, _, SqL.of (hid_sub _ _ (hS _ _ (S3h _ _ hlo))), _, atI_str hzi, A0, W, sb, _, _, _, _, rfl, hh, ho, by show ((cs.take i).zip (so.take i)).length ≤ 1000; omega, hcm.1, Bb.snw z hzs, fun hn => absurd (hcm.2.symm.trans hn) (by decide), fun _ hn => absurd hn hcn, fun _ _ hn => absurd hzs hn, fun _ _ _ hn => absurd hn (by show ¬ (50 ≤ ((cs.take i).zip (so.take i)).length); omega), fun _ _ _ _ H2 S2 hh2 => hR2 _ _ ⟨_, rfl, hS.trans S2, ?_, ?_⟩⟩
        · rw [zip_snoc hc hzi]; exact hh2
        · rw [zip_snoc hc hzi]; exact ho.bring hcn hzs hcm.2
      · rintro σ' H' ⟨o7, rfl, hS, hh, ho⟩
        rw [List.take_of_length_le (l := cs) (by omega)] at hh ho
        exact hR _ _ ⟨o7, rfl, hS, hh, ho⟩
    rintro σ4 H4 ⟨o7, rfl, S4, hh4, ho4⟩
    have S4h : Same H (hid H4 A0) := S3h.trans S4
    have hlr4 := S4h _ _ hr0
    have ht4 := S4h _ _ ht
    have hlc4 := S4 _ _ hlc
    have hday : 1 ≤ d ∧ d ≤ 400 := ⟨hd1, hd4⟩
    have hlkp : ∀ {k : Nat} {c z : Str}, cs[k]? = some c → so[k]? = some z → (cs.zip (so.take m)).lookup c = some z := fun {k c z} h1 h2 => by
      have hk : k < m := by rw [← hcl]; exact (List.getElem?_eq_some_iff.mp h1).1
      have hn : ((cs.zip (so.take m)).map (·.1)).Nodup := by rw [List.map_fst_zip (by rw [List.length_take]; omega)]; exact hcnd
      have hm : (c, z) ∈ cs.zip (so.take m) := List.mem_of_getElem? (i := k) (by rw [List.getElem?_zip_eq_some]; exact ⟨h1, by rw [List.getElem?_take_of_lt hk]; exact h2⟩)
      exact lookup_mem (c := (c, z)) hn hm
    have hcmem : ∀ c ∈ cs, c ∈ (cs.zip (so.take m)).map (·.1) := fun c h1 => by
      rw [List.map_fst_zip (by rw [List.length_take]; omega)]; exact h1
    refine cutQ (fun σ' H' => ∃ (W' : Hp) (h' : Hs) (o8 o9 : Option V), σ' = [some (.ref x), some (.ref lo), some (.ref t), some (.int d), some (.ref A0.x), some (.int m), some (.ref lc), o7, o8, o9] ∧ Same (hid H4 A0) (hid H' A0) ∧ HouseAt H' CH CB A0 W' sb h' ∧ HsOk sb (bb.map (·.1)) h' ∧ h'.cl = cs.zip (so.take m) ∧ h'.day ≤ d ∧ ∀ (k : Nat) (c z : Str), cs[k]? = some c → so[k]? = some z → trailL h'.dp c 400 = TR (lkB sb bb) row d 0 z row.length) (fun R hR => ?_) ?_
    · walk_at "dm"
      refine ⟨_, SqT.of (hid_sub _ _ ht4), _, rfl, r, rfl, ⟨_, SqL.of (hid_sub _ _ hlr4)⟩, ?_⟩
      refine for_steadyQ (H0 := hid H4 A0) (steady_list (SqL.of hlr4)) (fun j σ' H' => ∃ (W' : Hp) (h' : Hs) (o8 o9 : Option V), σ' = [some (.ref x), some (.ref lo), some (.ref t), some (.int d), some (.ref A0.x), some (.int m), some (.ref lc), o7, o8, o9] ∧ Same (hid H4 A0) (hid H' A0) ∧ HouseAt H' CH CB A0 W' sb h' ∧ HsOk sb (bb.map (·.1)) h' ∧ h'.cl = cs.zip (so.take m) ∧ h'.bk = [(1, (sb, bb))] ∧ h'.day ≤ d ∧ h'.dp.length = j * cs.length ∧ ∀ (k : Nat) (c z : Str), cs[k]? = some c → so[k]? = some z → trailL h'.dp c 400 = TR (lkB sb bb) row d 0 z j) ⟨W, _, none, none, rfl, Same.refl _, hh4, ho4, rfl, rfl, hd1, by rw [Nat.zero_mul]; rfl, fun k c z h1 h2 => rfl⟩ (fun _ _ _ _ ⟨_, _, _, _, _, h, _⟩ => h.trans hid_sub) ?_ ?_
      · rintro j y σ' H' hj hy ⟨W', h', o8, o9, rfl, hS, hh, ho, ecl, ebk, hdy, hdl, htr⟩ R2 hR2
        rw [List.getElem?_map] at hy
        obtain ⟨n, hn, rfl⟩ := Option.map_eq_some_iff.mp hy
        rw [List.length_map] at hj
        have hnm := hrow n (List.mem_of_getElem? hn)
        have hnS : Shw n := by
          obtain ⟨b', hb', rfl⟩ := List.mem_map.mp hnm
          exact Bb.bnw b' hb'
        walk_at "dm"
        refine ⟨⟨_, SqL.of (hid_sub _ _ (hS _ _ hlc4))⟩, ?_⟩
        refine for_steadyQ (H0 := hid H4 A0) (steady_list (SqL.of hlc4)) (fun i σ' H'' => ∃ (W' : Hp) (h' : Hs) (o9 : Option V), σ' = [some (.ref x), some (.ref lo), some (.ref t), some (.int d), some (.ref A0.x), some (.int m), some (.ref lc), o7, some (.str n), o9] ∧ Same (hid H4 A0) (hid H'' A0) ∧ HouseAt H'' CH CB A0 W' sb h' ∧ HsOk sb (bb.map (·.1)) h' ∧ h'.cl = cs.zip (so.take m) ∧ h'.bk = [(1, (sb, bb))] ∧ h'.day ≤ d ∧ h'.dp.length = j * cs.length + i ∧ ∀ (k : Nat) (c z : Str), cs[k]? = some c → so[k]? = some z → trailL h'.dp c 400 = TR (lkB sb bb) row d 0 z (if k < i then j + 1 else j)) ⟨W', h', o9, rfl, hS, hh, ho, ecl, ebk, hdy, by rw [hdl]; rfl, fun k c z h1 h2 => by rw [if_neg (by omega)]; exact htr k c z h1 h2⟩ (fun _ _ _ _ ⟨_, _, _, _, h, _⟩ => h.trans hid_sub) ?_ ?_
        · rintro i y σ' H'' hi hy ⟨W', h', o9, rfl, hS, hh, ho, ecl, ebk, hdy, hdl, htr⟩ R3 hR3
          rw [List.getElem?_map] at hy
          obtain ⟨c, hc, rfl⟩ := Option.map_eq_some_iff.mp hy
          rw [List.length_map] at hi
          obtain ⟨z, hzi⟩ : ∃ z, so[i]? = some z := ⟨_, List.getElem?_eq_getElem (by omega)⟩
          have hcm := hcnm c (List.mem_of_getElem? hc)
          have hcl' : c ∈ h'.cl.map (·.1) := by rw [ecl]; exact hcmem c (List.mem_of_getElem? hc)
          have hzs : z ∈ sb := hsob z (List.mem_of_getElem? hzi)
          have hall : ∀ x ∈ h'.dp, x.1 ≤ h'.day := fun x hx => (ho.dd x hx).2
          have hsh : shadeL h' c d = endL (lkB sb bb) (row.take j) z := by
            have h1 := htr i c z hc hzi
            rw [if_neg (by omega)] at h1
            rw [shadeL_late2 hall hdy c, ← shadeL_late2 hall (e := 400) ho.d4 c]
            exact shade_TR (by omega) h1 (by rw [ecl]; exact hlkp hc hzi)
          have hem : endL (lkB sb bb) (row.take j) z ∈ sb := endL_mem (lkB_mem Bb) _ z (fun m hm => hrow m (List.mem_of_mem_take hm)) hzs
          have eo : lkB (bkOn h'.bk d).1 (bkOn h'.bk d).2 n (shadeL h' c d) = lkB sb bb n (endL (lkB sb bb) (row.take j) z) := by
            rw [hsh, ebk]; rfl
          have hdl9 : h'.dp.length < 1000 := by
            rw [hdl]
            have h1 : (j + 1) * cs.length ≤ row.length * cs.length := Nat.mul_le_mul_right _ (by omega)
            rw [Nat.add_mul, hcl, Nat.mul_comm row.length m] at h1
            rw [hcl] at hi ⊢
            omega
          walk_at "dm"
          refine ⟨A0.dx, _, hh.ins, lk0 (by decide +kernel) (by decide +kernel) (by decide +kernel) (by decide +kernel), A0, W', sb, _, h', c, n, _, rfl, hh, ho, hcm.1, hnS, fun hn => absurd hcl' hn, fun _ hn' => absurd hnm hn', fun _ _ hn => absurd hday hn, fun _ _ _ hl => absurd hl (by omega), fun _ _ _ _ hn => absurd hn (by omega), fun _ _ _ hge hlen H9 W2 S9 G9 hh9 => ?_⟩
          rw [eo] at hh9
          refine hR3 _ _ ⟨W2, _, _, rfl, hS.trans S9, hh9, ho.dip hday hge hlen (lkB_mem Bb n hnm _ hem), ecl, ebk, Int.le_refl _, ?_, fun k c2 z2 h1 h2 => ?_⟩
          · show (h'.dp ++ [_]).length = _
            rw [List.length_append, hdl]; rfl
          · show trailL (h'.dp ++ [_]) c2 400 = _
            rw [trailL_snoc]
            by_cases hk : k = i
            · subst hk
              have e1 := Option.some.inj (h1.symm.trans hc)
              have e2 := Option.some.inj (h2.symm.trans hzi)
              subst e1 e2
              rw [if_pos ⟨rfl, hday.2⟩, htr k c2 z2 h1 h2, if_neg (Nat.lt_irrefl _), if_pos (Nat.lt_succ_self _), TR_snoc hn, Int.mul_zero, Int.add_zero]
            · have hcc : c ≠ c2 := fun e => hk ((List.getElem?_inj (List.getElem?_eq_some_iff.mp h1).1 hcnd).mp (h1.trans (by rw [← e]; exact hc.symm)))
              rw [if_neg (fun e => hcc e.1), List.append_nil, htr k c2 z2 h1 h2]
              by_cases hki : k < i
              · rw [if_pos hki, if_pos (by omega)]
              · rw [if_neg hki, if_neg (by omega)]
        · rintro σ' H'' ⟨W', h', o9, rfl, hS, hh, ho, ecl, ebk, hdy, hdl, htr⟩
          rw [List.length_map] at hdl htr
          refine hR2 _ _ ⟨W', h', _, o9, rfl, hS, hh, ho, ecl, ebk, hdy, by rw [hdl, Nat.add_mul]; omega, fun k c z h1 h2 => ?_⟩
          have := htr k c z h1 h2
          rw [if_pos (List.getElem?_eq_some_iff.mp h1).1] at this
          exact this
      · rintro σ' H' ⟨W', h', o8, o9, rfl, hS, hh, ho, ecl, ebk, hdy, hdl, htr⟩
        rw [List.length_map] at htr
        exact hR _ _ ⟨W', h', o8, o9, rfl, hS, hh, ho, ecl, hdy, htr⟩
    rintro σ5 H5 ⟨W', h', o8, o9, rfl, S5, hh5, ho5, ecl, hdy, htr⟩
    have hlc5 := hid_sub _ _ (S5 _ _ hlc4)
    have ht5 := hid_sub _ _ (S5 _ _ ht4)
    refine cutQ (fun σ' H' => ∃ σ1, σ' = σ1) (fun R hR => ?_) ?_
    · walk_at "dm"
      refine ⟨⟨_, SqL.of hlc5⟩, ?_⟩
      refine for_steadyQ (H0 := H5) (steady_list (SqL.of hlc5)) (fun k σ' H' => ∃ (o9 : Option V), σ' = [some (.ref x), some (.ref lo), some (.ref t), some (.int d), some (.ref A0.x), some (.int m), some (.ref lc), o7, o8, o9] ∧ Same H5 H') ⟨_, rfl, Same.refl _⟩ (fun _ _ _ _ ⟨_, _, h⟩ => h) ?_ (fun σ H' _ => hR _ _ ⟨_, rfl⟩)
      rintro k y σ' H' hk hy ⟨o9, rfl, S⟩ R2 hR2
      rw [List.getElem?_map] at hy
      obtain ⟨c, hck, rfl⟩ := Option.map_eq_some_iff.mp hy
      rw [List.length_map] at hk
      obtain ⟨z, hzk⟩ : ∃ z, so[k]? = some z := ⟨_, List.getElem?_eq_getElem (by omega)⟩
      have hcm := hcnm c (List.mem_of_getElem? hck)
      have hcl5 : c ∈ h'.cl.map (·.1) := by rw [ecl]; exact hcmem c (List.mem_of_getElem? hck)
      have hh6 := Same.house S hh5
      have hall : ∀ x ∈ h'.dp, x.1 ≤ h'.day := fun x hx => (ho5.dd x hx).2
      have e1 : shadeL h' c d = zz := by
        rw [shadeL_late2 hall hdy c, ← shadeL_late2 hall (e := 400) ho5.d4 c, shade_TR (Nat.le_refl _) (htr k c z hck hzk) (by rw [ecl]; exact hlkp hck hzk), List.take_of_length_le (Nat.le_refl _)]
        exact hend z (hsob z (List.mem_of_getElem? hzk))
      walk_at "dm"
      refine ⟨A0.dx, _, hh6.ins, lk0 (by decide +kernel) (by decide +kernel) (by decide +kernel) (by decide +kernel), A0, W', sb, _, h', c, d, rfl, hh6, ho5, hcm.1, fun _ _ H7 S7 => ?_, fun hn => absurd hcl5 hn, fun _ hn => absurd hday hn⟩
      exact ⟨_, SqT.of (S7 _ _ (S _ _ ht5)), _, rfl, _, _, rfl, true, by rw [e1, decide_eq_true rfl], ite2 (fun h => by cases h) (fun _ => hR2 _ _ ⟨_, rfl, S.trans S7⟩)⟩
    rintro σ6 H6 ⟨σ1, rfl⟩
    walk_at "dm"
    exact q _
end

section
variable {P : Program} {w : World} {K : PySem.W.Frag} {mg : Str → Option Value} {base : Heap}
theorem any_tupP {a b : Str} : ∀ {L : List (Str × Str)}, ((L.map tupP).any fun e => eqTs e [V.str a, V.str b]) = decide ((a, b) ∈ L)
  | [] => rfl
  | e :: L => by
    rw [List.map_cons, List.any_cons, any_tupP (L := L)]
    have h : eqTs (tupP e) [V.str a, V.str b] = decide (e = (a, b)) := by
      obtain ⟨x, y⟩ := e
      show (eqV (.str x) (.str a) && (eqV (.str y) (.str b) && true)) = _
      rw [Bool.and_true]
      show (decide (x = a) && decide (y = b)) = _
      rw [← Bool.decide_and]
      exact decide_eq_decide.mpr (by rw [Prod.mk.injEq])
    rw [h, ← Bool.decide_or]
    exact decide_eq_decide.mpr (by rw [List.mem_cons]; exact ⟨fun h => h.imp Eq.symm id, fun h => h.imp Eq.symm id⟩)
def spApart (K : PySem.W.Frag) (CH CB : Addr) : Sp := fun vs H Q _ => ∃ (x l o lr : Addr) (sb : List Str) (bb : List (Str × List Str)) (rs : List Addr) (L : List (Str × Str)) (z1 z2 : Str) (row : List Str) (dy st : Int), vs = [.ref x, .ref l, .ref o, .ref lr, .int dy, .int st] ∧ BookAt H CB x sb bb ∧ BookIn sb bb ∧ H l = some (.lst (rs.map V.ref)) ∧ Tups H rs (L.map tupP) ∧ H o = some (.tup [.str z1, .str z2]) ∧ (z1, z2) ∈ L ∧ StuckL (lkB sb bb) (bb.map (·.1)) sb L ∧ H lr = some (.lst (row.map V.str)) ∧ row.length ≤ 40 ∧ (∀ n ∈ row, n ∈ bb.map (·.1)) ∧ 1 ≤ dy ∧ dy ≤ 49 ∧ 0 ≤ st ∧ st ≤ 9 ∧ ∀ H', Q (.bl true) H'
theorem scApart : FnScope ["_law_book", "_law_pairs", "_law_one", "_law_row_here", "_law_day", "_law_step", "_law_house", "_law_k", "_law_came"] ["_law_book", "_law_pairs", "_law_one", "_law_row_here", "_law_day", "_law_step"] (defScope sApart) := ⟨rfl, rfl, rfl, by decide +kernel, rfl, by decide +kernel, by decide +kernel⟩
theorem ok_apart {f fHR fHQ fHI : Addr} {fd fdHR fdHQ fdHI : FuncData} {CH CB cBN cKn cNS cFu cNC cNB cND cLa : Addr} (F : Fun K "_law_stay_apart" "_law_stay_apart" sApart f fd)
    (T : Txt mg) (hX : Hx K mg CH)
    (GHR : FnOk P w K mg base (CX1 P w) 5 fHR fdHR ["self", "cloth", "shade"] (spHBring CH CB cBN cKn cNS cFu)) (hmHR : Meth K CH "bring" fHR) (bHR : Binds K fdHR ["self", "cloth", "shade"] [])
    (GHQ : FnOk P w K mg base (CX1 P w) 5 fHQ fdHQ ["self", "cloth", "bath", "day"] (spHDip CH CB cNC cNB cND cLa cFu)) (hmHQ : Meth K CH "dip" fHQ) (bHQ : Binds K fdHQ ["self", "cloth", "bath", "day"] [])
    (MH : Mk K CH fHI) (GHI : FnOk P w K mg base CX0 1 fHI fdHI ["self", "book"] (spHInit CH CB)) (bHI : Binds K fdHI ["self", "book"] []) (mCH : mg "House" = some (.ref CH)) :
    FnOk P w K mg base CX0 6 f fd ["_law_book", "_law_pairs", "_law_one", "_law_row_here", "_law_day", "_law_step"] (spApart K CH CB) := by
  refine F.ok scApart (fun vs H Q E h => ?_) (fun cdv A outer s H vs Q E hr h => ?_)
  · obtain ⟨_, _, _, _, _, _, _, _, _, _, _, _, _, rfl, _⟩ := h
    rfl
  · obtain ⟨x, l, o, lr, sb, bb, rs, L, z1, z2, row, dy, st, rfl, hbk, Bb, hl, hT, hoo, hzL, SL, hlr, hr40, hrow, hdy1, hdy2, hst1, hst2, q⟩ := h
    have hu : (cxOf CX0 P w K mg base ["_law_book", "_law_pairs", "_law_one", "_law_row_here", "_law_day", "_law_step", "_law_house", "_law_k", "_law_came"] "_law_stay_apart" (defScope sApart) f cdv A outer s H E).A.units + 1 < cLine := by
      have := hr.units
      exact Nat.lt_of_le_of_lt (Nat.add_le_add_left (by decide) _) this
    have cH := hX.c
    have hr2 := hr.mono (j := 2) (by omega)
    have hr5 := hr.mono (j := 5) (by omega)
    refine ⟨_, (pss_cut (ps_set (i := 6) scApart.nd rfl (Or.inl rfl) (pe_make MH GHI hr2 rfl mCH bHI .nil pass0 (pa_cons (pv 0) pa_nil)))
      (pss_cut (ps_expr (pe_meth (pv 6) cH hmHR GHR hr5 bHR .nil passF (pa_cons pe_str (pa_cons (pe_ix ix_tup (pv 2) pe_int (fun _ _ => rfl)) pa_nil))))
      (pss_cut (ps_expr (pe_meth (pv 6) cH hmHR GHR hr5 bHR .nil passF (pa_cons pe_str (pa_cons (pe_ix ix_tup (pv 2) pe_int (fun _ _ => rfl)) pa_nil))))
      (pss_cut (ps_for PassesOwn.never rfl (pi_range1 rfl T.range (pa_cons (pe_callB call_len_seq (by rfl) T.len PySem.boot_len (pa_cons (pv 3) pa_nil)) pa_nil)) (pg_name (i := 7) scApart.nd rfl (Or.inl rfl)) (pss_cut (ps_set (i := 8) scApart.nd rfl (Or.inl rfl) (pe_lst (pa_cons (pe_meth (pv 6) cH hmHQ GHQ hr5 bHQ .nil passF (pa_cons pe_str (pa_cons (pe_ix ix_list (pv 3) (pv 7) (fun _ _ => rfl)) (pa_cons (pe_op op_add (pv 4) (pe_op op_mul (pv 7) (pv 5))) pa_nil)))) (pa_cons (pe_meth (pv 6) cH hmHQ GHQ hr5 bHQ .nil passF (pa_cons pe_str (pa_cons (pe_ix ix_list (pv 3) (pv 7) (fun _ _ => rfl)) (pa_cons (pe_op op_add (pv 4) (pe_op op_mul (pv 7) (pv 5))) pa_nil)))) pa_nil))))
      (pss_cut (ps_if (PW.pt (pw_or (pt_not (pt_val (pe_callB call_isi (by rfl) T.isi (by decide +kernel) (pa_cons (pe_ix ix_list (pv 8) pe_int (fun _ _ => rfl)) (pa_cons (pe_bltn (v := .ty "str") rfl T.str (by decide +kernel) rfl) pa_nil))))) (pw_or (pt_not (pt_val (pe_callB call_isi (by rfl) T.isi (by decide +kernel) (pa_cons (pe_ix ix_list (pv 8) pe_int (fun _ _ => rfl)) (pa_cons (pe_bltn (v := .ty "str") rfl T.str (by decide +kernel) rfl) pa_nil))))) (pw_or1 (pt_cmpR op_eq (pe_ix ix_list (pv 8) pe_int (fun _ _ => rfl)) (pe_ix ix_list (pv 8) pe_int (fun _ _ => rfl)) (nomark _)))))) (pss_one (ps_ret pe_bl)) pss_nil)
      (pss_one (ps_if (PW.pt (pw_and (pt_cmpR (op_notInT hu) (pe_tup (pa_cons (pe_ix ix_list (pv 8) pe_int (fun _ _ => rfl)) (pa_cons (pe_ix ix_list (pv 8) pe_int (fun _ _ => rfl)) pa_nil))) (pv 1) (by with_unfolding_all rfl)) (pw_and1 (pt_cmpR (op_notInT hu) (pe_tup (pa_cons (pe_ix ix_list (pv 8) pe_int (fun _ _ => rfl)) (pa_cons (pe_ix ix_list (pv 8) pe_int (fun _ _ => rfl)) pa_nil))) (pv 1) (by with_unfolding_all rfl))))) (pss_one (ps_ret pe_bl)) pss_nil)))))
      (pss_one (ps_ret pe_bl)))))), ?_⟩
    have hs := sz1000
    have lk0 : ∀ {A0 : Ad} {m : Str} {dd : Int}, (m == Str.ofString "first_shades") = false → (m == Str.ofString "day_now") = false → (m == Str.ofString "standing") = false → (m == Str.ofString "books_from") = false → List.lookup m (hfs A0 dd) = none := fun h1 h2 h3 h4 => lk_oth h1 h2 h3 h4
    have hz1 := (SL.mem _ hzL).1
    have hz2 := (SL.mem _ hzL).2.1
    refine cutQ (fun σ' H' => ∃ (A0 : Ad) (W : Hp), σ' = [some (.ref x), some (.ref l), some (.ref o), some (.ref lr), some (.int dy), some (.int st), some (.ref A0.x), none, none] ∧ Same H (hid H' A0) ∧ HouseAt H' CH CB A0 W sb ⟨[], 1, [], [(1, (sb, bb))]⟩) (fun R hR => ?_) ?_
    · walk_at "dm"
      intro xh dx hx hdx hne
      have S6' : Same H (hide (upd (upd H dx (.own xh)) xh (.ins CH dx [])) xh) := fun y o e => by
        rw [hide_at (ne_of_none e hx), upd_ne (ne_of_none e hx), upd_ne (ne_of_none e hdx)]; exact e
      exact ⟨xh, dx, x, _, sb, bb, rfl, upd_same, Same.refl _, Same.book S6' hbk, fun A0 H2 hA S7 hh => ⟨rfl, by rw [← hA]; exact hR _ _ ⟨A0, _, rfl, S6'.trans S7, hh⟩⟩⟩
    rintro σ14 H14 ⟨A0, W, rfl, S14, hh14⟩
    have ho14 := HsOk.new Bb
    have shl : Shw (Str.ofString "left") := ⟨by decide +kernel, by decide +kernel⟩
    have shr : Shw (Str.ofString "right") := ⟨by decide +kernel, by decide +kernel⟩
    have gl : goodB (Str.ofString "left") = true := by decide +kernel
    have gr : goodB (Str.ofString "right") = true := by decide +kernel
    have hlr' : Str.ofString "left" ≠ Str.ofString "right" := by decide +kernel
    have hrn : Str.ofString "right" ∉ [(Str.ofString "left", z1)].map (·.1) := fun h => hlr' (List.mem_singleton.mp h).symm
    have ho15 : HsOk sb (bb.map (·.1)) ⟨[(Str.ofString "left", z1)], 1, [], [(1, (sb, bb))]⟩ := ho14.bring List.not_mem_nil hz1 gl
    have ho16 : HsOk sb (bb.map (·.1)) ⟨[(Str.ofString "left", z1), (Str.ofString "right", z2)], 1, [], [(1, (sb, bb))]⟩ := ho15.bring hrn hz2 gr
    refine cutQ (fun σ' H' => σ' = [some (.ref x), some (.ref l), some (.ref o), some (.ref lr), some (.int dy), some (.int st), some (.ref A0.x), none, none] ∧ Same (hid H14 A0) (hid H' A0) ∧ HouseAt H' CH CB A0 W sb ⟨[(Str.ofString "left", z1)], 1, [], [(1, (sb, bb))]⟩) (fun R hR => ?_) ?_
    · walk_at "dm"
      exact ⟨A0.dx, _, hh14.ins, lk0 (by decide +kernel) (by decide +kernel) (by decide +kernel) (by decide +kernel), _, SqT.of (hid_sub _ _ (S14 _ _ hoo)), _, rfl, A0, W, sb, _, _, _, _, rfl, hh14, ho14, Nat.zero_le _, shl, Bb.snw z1 hz1, fun hn => absurd (gl.symm.trans hn) (by decide), fun _ hn => absurd hn List.not_mem_nil, fun _ _ hn => absurd hz1 hn, fun _ _ _ hn => absurd hn (by show ¬ (50 ≤ 0); omega), fun _ _ _ _ H2 S2 hh2 => hR _ _ ⟨rfl, S2, hh2⟩⟩
    rintro σ15 H15 ⟨rfl, S15, hh15⟩
    refine cutQ (fun σ' H' => σ' = [some (.ref x), some (.ref l), some (.ref o), some (.ref lr), some (.int dy), some (.int st), some (.ref A0.x), none, none] ∧ Same (hid H15 A0) (hid H' A0) ∧ HouseAt H' CH CB A0 W sb ⟨[(Str.ofString "left", z1), (Str.ofString "right", z2)], 1, [], [(1, (sb, bb))]⟩) (fun R hR => ?_) ?_
    · walk_at "dm"
      exact ⟨A0.dx, _, hh15.ins, lk0 (by decide +kernel) (by decide +kernel) (by decide +kernel) (by decide +kernel), _, SqT.of (hid_sub _ _ (S15 _ _ (S14 _ _ hoo))), _, rfl, A0, W, sb, _, _, _, _, rfl, hh15, ho15, by show 1 ≤ 1000; omega, shr, Bb.snw z2 hz2, fun hn => absurd (gr.symm.trans hn) (by decide), fun _ hn => absurd hn hrn, fun _ _ hn => absurd hz2 hn, fun _ _ _ hn => absurd hn (by show ¬ (50 ≤ 1); omega), fun _ _ _ _ H2 S2 hh2 => hR _ _ ⟨rfl, S2, hh2⟩⟩
    rintro σ16 H16 ⟨rfl, S16, hh16⟩
    have hmul : ∀ j : Nat, j ≤ 39 → 0 ≤ (j : Int) * st ∧ (j : Int) * st ≤ 351 := fun j hj => by
      refine ⟨Int.mul_nonneg (by omega) hst1, ?_⟩
      have h1 : (j : Int) * st ≤ 39 * st := Int.mul_le_mul_of_nonneg_right (by omega) hst1
      omega
    have S6h : Same H (hid H16 A0) := S14.trans (S15.trans S16)
    have hcnd : ([(Str.ofString "left", z1), (Str.ofString "right", z2)].map (·.1)).Nodup := ho16.cnd
    refine cutQ (fun σ' H' => ∃ σ1, σ' = σ1) (fun R hR => ?_) ?_
    · walk_at "dm"
      refine ⟨_, .inl (SqL.of (hid_sub _ _ (S6h _ _ hlr))), by omega, by rw [List.length_map]; omega, ?_⟩
      rw [List.length_map, Int.toNat_natCast]
      refine for_steadyQ (H0 := fun _ => none) steady_range (fun j σ' H' => ∃ (W' : Hp) (h' : Hs) (o7 o8 : Option V) (u v : Str), σ' = [some (.ref x), some (.ref l), some (.ref o), some (.ref lr), some (.int dy), some (.int st), some (.ref A0.x), o7, o8] ∧ Same (hid H16 A0) (hid H' A0) ∧ HouseAt H' CH CB A0 W' sb h' ∧ HsOk sb (bb.map (·.1)) h' ∧ h'.cl = [(Str.ofString "left", z1), (Str.ofString "right", z2)] ∧ h'.bk = [(1, (sb, bb))] ∧ h'.day ≤ dy + (j : Int) * st ∧ h'.dp.length = j * 2 ∧ shadeL h' (Str.ofString "left") 400 = u ∧ shadeL h' (Str.ofString "right") 400 = v ∧ ((u, v) ∈ L ∨ (v, u) ∈ L)) ⟨W, _, none, none, z1, z2, rfl, Same.refl _, hh16, ho16, rfl, rfl, by show 1 ≤ _; omega, rfl, ?_, ?_, .inl hzL⟩ (fun _ _ _ _ _ b o e => by cases e) ?_ (fun σ H' _ => hR _ _ ⟨_, rfl⟩)
      · unfold shadeL
        show (([(Str.ofString "left", z1), (Str.ofString "right", z2)].lookup (Str.ofString "left")).getD ⟨#[]⟩) = z1
        rw [lookup_mem (c := (Str.ofString "left", z1)) hcnd (by simp)]
        rfl
      · unfold shadeL
        show (([(Str.ofString "left", z1), (Str.ofString "right", z2)].lookup (Str.ofString "right")).getD ⟨#[]⟩) = z2
        rw [lookup_mem (c := (Str.ofString "right", z2)) hcnd (by simp)]
        rfl
      rintro j y σ' H' hj rfl ⟨W', h', o7, o8, u, v, rfl, hS, hh, ho, ecl, ebk, hdy, hdl, hu1, hv1, huv⟩ R2 hR2
      have hz : (0 : Int) + (j : Int) = j := by omega
      rw [hz]
      obtain ⟨n, hn⟩ : ∃ n, row[j]? = some n := ⟨_, List.getElem?_eq_getElem hj⟩
      have hnm := hrow n (List.mem_of_getElem? hn)
      have hmj := hmul j (by omega)
      have hday : 1 ≤ dy + (j : Int) * st ∧ dy + (j : Int) * st ≤ 400 := ⟨by omega, by omega⟩
      have hnS : Shw n := by
        obtain ⟨b', hb', rfl⟩ := List.mem_map.mp hnm
        exact Bb.bnw b' hb'
      have hdn : dy + (j : Int) * st ≤ dy + ((j + 1 : Nat) : Int) * st := by
        have : ((j + 1 : Nat) : Int) * st = (j : Int) * st + st := by rw [Int.natCast_add, Int.add_mul]; simp
        omega
      have hstk : lkB sb bb n u ≠ lkB sb bb n v ∧ ordP (lkB sb bb n u) (lkB sb bb n v) ∈ L := by
        rcases huv with h1 | h1
        · exact SL.out _ h1 n hnm
        · have := SL.out _ h1 n hnm
          exact ⟨fun e => this.1 e.symm, by rw [ordP_comm]; exact this.2⟩
      have huvm : u ∈ sb ∧ v ∈ sb := by
        rcases huv with h1 | h1
        · exact ⟨(SL.mem _ h1).1, (SL.mem _ h1).2.1⟩
        · exact ⟨(SL.mem _ h1).2.1, (SL.mem _ h1).1⟩
      have hall : ∀ x ∈ h'.dp, x.1 ≤ h'.day := fun x hx => (ho.dd x hx).2
      have hshl : shadeL h' (Str.ofString "left") (dy + (j : Int) * st) = u := by
        rw [shadeL_late2 hall hdy, ← shadeL_late2 hall (e := 400) ho.d4]
        exact hu1
      have hcll : Str.ofString "left" ∈ h'.cl.map (·.1) := by rw [ecl]; exact List.mem_cons_self
      have hclr : Str.ofString "right" ∈ h'.cl.map (·.1) := by rw [ecl]; exact List.mem_cons_of_mem _ List.mem_cons_self
      have hum := lkB_mem Bb n hnm _ huvm.1
      have hvm := lkB_mem Bb n hnm _ huvm.2
      refine cutQ (fun σ2 H2 => ∃ (lc : Addr) (W2 : Hp) (h2 : Hs), σ2 = [some (.ref x), some (.ref l), some (.ref o), some (.ref lr), some (.int dy), some (.int st), some (.ref A0.x), some (.int j), some (.ref lc)] ∧ Same (hid H16 A0) (hid H2 A0) ∧ HouseAt H2 CH CB A0 W2 sb h2 ∧ HsOk sb (bb.map (·.1)) h2 ∧ h2.cl = [(Str.ofString "left", z1), (Str.ofString "right", z2)] ∧ h2.bk = [(1, (sb, bb))] ∧ h2.day = dy + (j : Int) * st ∧ h2.dp.length = (j + 1) * 2 ∧ shadeL h2 (Str.ofString "left") 400 = lkB sb bb n u ∧ shadeL h2 (Str.ofString "right") 400 = lkB sb bb n v ∧ H2 lc = some (.lst [.str (lkB sb bb n u), .str (lkB sb bb n v)])) (fun R3 hR3 => ?_) ?_
      · walk_at "dm"
        refine ⟨A0.dx, _, hh.ins, lk0 (by decide +kernel) (by decide +kernel) (by decide +kernel) (by decide +kernel), _, SqL.of (hid_sub _ _ (hS _ _ (S6h _ _ hlr))), _, atI_str hn, .inl ⟨by omega, by omega⟩, A0, W', sb, _, h', _, n, _, rfl, hh, ho, shl, hnS, fun hn => absurd hcll hn, fun _ hn' => absurd hnm hn', fun _ _ hn => absurd hday hn, fun _ _ _ hl => absurd hl (by omega), fun _ _ _ _ hn => absurd hn (by omega), fun _ _ _ hge hlen H9 W9 S9 G9 hh9 => ?_⟩
        have eo : lkB (bkOn h'.bk (dy + (j : Int) * st)).1 (bkOn h'.bk (dy + (j : Int) * st)).2 n (shadeL h' (Str.ofString "left") (dy + (j : Int) * st)) = lkB sb bb n u := by
          rw [hshl, ebk]; rfl
        rw [eo] at hh9 ⊢
        have ho9 := ho.dip (c := Str.ofString "left") (b := n) hday hge hlen hum
        generalize eh9 : ({ h' with day := dy + (j : Int) * st, dp := h'.dp ++ [(dy + (j : Int) * st, Str.ofString "left", n, lkB sb bb n u)] } : Hs) = h9 at hh9 ho9
        have e9 : h9.cl = h'.cl ∧ h9.bk = h'.bk ∧ h9.day = dy + (j : Int) * st ∧ h9.dp.length = j * 2 + 1 := by
          subst eh9
          exact ⟨rfl, rfl, rfl, by show (h'.dp ++ [_]).length = _; rw [List.length_append, hdl]; rfl⟩
        have hl9 : shadeL h9 (Str.ofString "left") 400 = lkB sb bb n u := by
          subst eh9
          rw [shadeL_snoc, if_pos ⟨rfl, hday.2⟩]
        have hr9 : shadeL h9 (Str.ofString "right") 400 = v := by
          subst eh9
          rw [shadeL_snoc, if_neg (fun h => hlr' h.1)]
          exact hv1
        have hr9d : shadeL h9 (Str.ofString "right") (dy + (j : Int) * st) = v := by
          rw [← shadeL_late2 (e := 400) (fun x hx => by have := (ho9.dd x hx).2; rw [e9.2.2.1] at this; exact this) hday.2]
          exact hr9
        have hclr9 : Str.ofString "right" ∈ h9.cl.map (·.1) := by rw [e9.1]; exact hclr
        have S69 := hS.trans S9
        refine ⟨A0.dx, _, hh9.ins, lk0 (by decide +kernel) (by decide +kernel) (by decide +kernel) (by decide +kernel), _, SqL.of (hid_sub _ _ (S69 _ _ (S6h _ _ hlr))), _, atI_str hn, .inl ⟨by omega, by omega⟩, A0, W9, sb, _, h9, _, n, _, rfl, hh9, ho9, shr, hnS, fun hn => absurd hclr9 hn, fun _ hn' => absurd hnm hn', fun _ _ hn => absurd hday hn, fun _ _ _ hl => absurd hl (by rw [e9.2.2.1]; omega), fun _ _ _ _ hn => absurd hn (by rw [e9.2.2.2]; omega), fun _ _ _ hge hlen H10 W10 S10 G10 hh10 => ?_⟩
        have eo2 : lkB (bkOn h9.bk (dy + (j : Int) * st)).1 (bkOn h9.bk (dy + (j : Int) * st)).2 n (shadeL h9 (Str.ofString "right") (dy + (j : Int) * st)) = lkB sb bb n v := by
          rw [hr9d, e9.2.1, ebk]; rfl
        rw [eo2] at hh10 ⊢
        have ho10 := ho9.dip (c := Str.ofString "right") (b := n) hday hge hlen hvm
        have hl10 : shadeL { h9 with day := dy + (j : Int) * st, dp := h9.dp ++ [(dy + (j : Int) * st, Str.ofString "right", n, lkB sb bb n v)] } (Str.ofString "left") 400 = lkB sb bb n u := by
          rw [shadeL_snoc, if_neg (fun h => hlr' h.1.symm)]
          exact hl9
        have hr10 : shadeL { h9 with day := dy + (j : Int) * st, dp := h9.dp ++ [(dy + (j : Int) * st, Str.ofString "right", n, lkB sb bb n v)] } (Str.ofString "right") 400 = lkB sb bb n v := by
          rw [shadeL_snoc, if_pos ⟨rfl, hday.2⟩]
        refine ⟨by omega, fun p hp => hR3 _ _ ⟨p, _, _, rfl, S69.trans (S10.trans (hid_same (Same.updN hp))), Same.house (Same.updN hp) hh10, ho10, e9.1.trans ecl, e9.2.1.trans ebk, rfl, ?_, hl10, hr10, upd_same⟩⟩
        show (h9.dp ++ [_]).length = _
        rw [List.length_append, e9.2.2.2, Nat.add_mul]; rfl
      rintro σ2 H2 ⟨lc, W2, h2, rfl, S2, hh2, ho2, ecl2, ebk2, hdy2, hdl2, hu2, hv2, hlc⟩
      refine cutQ (fun σ3 H3 => σ3 = [some (.ref x), some (.ref l), some (.ref o), some (.ref lr), some (.int dy), some (.int st), some (.ref A0.x), some (.int j), some (.ref lc)] ∧ H3 = H2) (fun R3 hR3 => ?_) ?_
      · walk_at "dm"
        exact ⟨_, SqL.of hlc, _, rfl, _, .str _, true, rfl, ite2 (fun h => by cases h) (fun _ => ⟨_, SqL.of hlc, _, rfl, _, .str _, true, rfl, ite2 (fun h => by cases h) (fun _ => ⟨_, SqL.of hlc, _, rfl, _, SqL.of hlc, _, rfl, rfl, ite2 (fun e => absurd (V.str.inj e) hstk.1) (fun _ => hR3 _ _ ⟨rfl, rfl⟩)⟩)⟩)⟩
      rintro σ3 H3 ⟨rfl, rfl⟩
      have S63 : Same H H3 := (S6h.trans S2).trans hid_sub
      have hT3 := hT.same S63
      have hl3 := S63 _ _ hl
      have hnin : ∀ {G : Hp} {p : Addr}, Same H3 G → G p = none → p ∉ rs := fun {G p} SG hp hm => by
        obtain ⟨i, hi⟩ := List.getElem?_of_mem hm
        have hil := (List.getElem?_eq_some_iff.mp hi).1
        obtain ⟨e, he⟩ : ∃ e, (L.map tupP)[i]? = some e := ⟨_, List.getElem?_eq_getElem (by rw [← hT3.1]; exact hil)⟩
        have := SG _ _ (hT3.2 i p e hi he)
        rw [hp] at this
        cases this
      have hflat : ∀ e ∈ L.map tupP, e.length = 2 ∧ e.all flatV = true := fun e he => by
        obtain ⟨x, _, rfl⟩ := List.mem_map.mp he
        exact ⟨rfl, rfl⟩
      have hgo : ∀ {G : Hp} {o9 : Option V}, Same H3 G → R2 [some (.ref x), some (.ref l), some (.ref o), some (.ref lr), some (.int dy), some (.int st), some (.ref A0.x), some (.int j), some (.ref lc)] G := fun {G o9} SG =>
        hR2 _ _ ⟨W2, h2, _, _, lkB sb bb n u, lkB sb bb n v, rfl, S2.trans (hid_same SG), Same.house SG hh2, ho2, ecl2, ebk2, by omega, hdl2, hu2, hv2, by
          have := hstk.2
          unfold ordP at this
          split at this
          · exact .inr this
          · exact .inl this⟩
      walk_at "dm"
      refine ⟨_, SqL.of hlc, _, rfl, _, SqL.of hlc, _, rfl, by omega, fun p hp => ?_⟩
      have Sp := Same.updN (o := .tup [V.str (lkB sb bb n u), V.str (lkB sb bb n v)]) hp
      refine ⟨p, l, _, rs, L.map tupP, rfl, rfl, upd_same, SqL.of (Sp _ _ hl3), hT3.1, (hT3.same Sp).2, hnin (Same.refl _) hp, hflat, rfl, ?_⟩
      rw [any_tupP]
      refine ⟨_, rfl, ite2 (fun h1 => ?_) (fun _ => hgo (o9 := none) Sp)⟩
      refine ⟨_, SqL.of (Sp _ _ hlc), _, rfl, _, SqL.of (Sp _ _ hlc), _, rfl, by omega, fun p2 hp2 => ?_⟩
      have Sp2 := Same.updN (o := .tup [V.str (lkB sb bb n v), V.str (lkB sb bb n u)]) hp2
      refine ⟨p2, l, _, rs, L.map tupP, rfl, rfl, upd_same, SqL.of (Sp2 _ _ (Sp _ _ hl3)), hT3.1, (hT3.same (Sp.trans Sp2)).2, hnin Sp hp2, hflat, rfl, ?_⟩
      rw [any_tupP]
      refine ⟨_, rfl, ite2 (fun h2 => ?_) (fun _ => hgo (o9 := none) (Sp.trans Sp2))⟩
      exfalso
      rw [Bool.true_xor, Bool.not_eq_true', decide_eq_false_iff_not] at h1 h2
      have := hstk.2
      unfold ordP at this
      split at this
      · exact h2 this
      · exact h1 this
    rintro σ17 H17 ⟨σ1, rfl⟩
    walk_at "dm"
    exact q _
end

section
variable {P : Program} {w : World} {K : PySem.W.Frag} {mg : Str → Option Value} {base : Heap}
def spLaw (K : PySem.W.Frag) : Sp := fun vs H Q _ => ∃ (a : Addr) (ns : List Int), vs = [.ref a] ∧ SqL K H a (ns.map V.int) ∧ ns.length ≤ 63 ∧ ∀ H', Q (.bl true) H'
theorem scLaw : FnScope ["_law_script", "_law_shades", "_law_baths", "_law_spare", "_law_other", "_law_tables_here", "_law_order", "_law_book", "_law_found", "_law_day", "_law_row_here", "_law_one"] ["_law_script"] (defScope sLaw) := ⟨rfl, rfl, rfl, by decide +kernel, rfl, by decide +kernel, by decide +kernel⟩
theorem ok_law {f fA fDr fTa fHd fRw fTx fRB fA1 fPr fSk fTo fLD fLP : Addr} {fd fdA fdDr fdTa fdHd fdRw fdTx fdRB fdA1 fdPr fdSk fdTo fdLD fdLP : FuncData} {CH CB : Addr} (F : Fun K "law" "law" sLaw f fd)
    (T : Txt mg) (hX : Hx K mg CH)
    (GA : FnOk P w K mg base CX0 1 fA fdA ["_law_script", "_law_k"] (spAt K)) (kA : PySem.W.keepIn K (.ref fA) = true) (bA : Binds K fdA ["_law_script", "_law_k"] []) (mA : mg "_law_at" = some (.ref fA))
    (GDr : FnOk P w K mg base CX0 5 fDr fdDr ["_law_script"] (spDrawn K)) (kDr : PySem.W.keepIn K (.ref fDr) = true) (bDr : Binds K fdDr ["_law_script"] []) (mDr : mg "_law_drawn" = some (.ref fDr))
    (GTa : FnOk P w K mg base CX0 1 fTa fdTa ["_law_shades", "_law_baths"] (spTables K)) (kTa : PySem.W.keepIn K (.ref fTa) = true) (bTa : Binds K fdTa ["_law_shades", "_law_baths"] []) (mTa : mg "_law_tables" = some (.ref fTa))
    (GHd : FnOk P w K mg base CX0 6 fHd fdHd ["_law_shades", "_law_baths"] (spHanded K CB)) (kHd : PySem.W.keepIn K (.ref fHd) = true) (bHd : Binds K fdHd ["_law_shades", "_law_baths"] []) (mHd : mg "_law_handed" = some (.ref fHd))
    (GRw : FnOk P w K mg base CX0 2 fRw fdRw ["_law_cell", "_law_size", "_law_titles", "_law_mixed"] (spRow K)) (kRw : PySem.W.keepIn K (.ref fRw) = true) (bRw : Binds K fdRw ["_law_cell", "_law_size", "_law_titles", "_law_mixed"] []) (mRw : mg "_law_row" = some (.ref fRw))
    (GTx : FnOk P w K mg base CX0 1 fTx fdTx ["_law_order", "_law_tables_here"] (spText K)) (kTx : PySem.W.keepIn K (.ref fTx) = true) (bTx : Binds K fdTx ["_law_order", "_law_tables_here"] []) (mTx : mg "_law_text" = some (.ref fTx))
    (GRB : FnOk P w K mg base CX0 7 fRB fdRB ["text"] (spRead CB)) (kRB : PySem.W.keepIn K (.ref fRB) = true) (bRB : Binds K fdRB ["text"] []) (mRB : mg "read_book" = some (.ref fRB))
    (GA1 : FnOk P w K mg base CX0 5 fA1 fdA1 ["book"] (spAllToOne CB)) (kA1 : PySem.W.keepIn K (.ref fA1) = true) (bA1 : Binds K fdA1 ["book"] []) (mA1 : mg "all_to_one" = some (.ref fA1))
    (GPr : FnOk P w K mg base CX0 1 fPr fdPr ["_law_found"] spPair) (kPr : PySem.W.keepIn K (.ref fPr) = true) (bPr : Binds K fdPr ["_law_found"] []) (mPr : mg "_law_pair" = some (.ref fPr))
    (GSk : FnOk P w K mg base CX0 2 fSk fdSk ["_law_pairs", "_law_order", "_law_tables_here"] (spStuckR K)) (kSk : PySem.W.keepIn K (.ref fSk) = true) (bSk : Binds K fdSk ["_law_pairs", "_law_order", "_law_tables_here"] []) (mSk : mg "_law_stuck" = some (.ref fSk))
    (GTo : FnOk P w K mg base CX0 2 fTo fdTo ["_law_found", "_law_order", "_law_tables_here"] (spToOneR K)) (kTo : PySem.W.keepIn K (.ref fTo) = true) (bTo : Binds K fdTo ["_law_found", "_law_order", "_law_tables_here"] []) (mTo : mg "_law_to_one" = some (.ref fTo))
    (GLD : FnOk P w K mg base CX0 6 fLD fdLD ["_law_book", "_law_order", "_law_found", "_law_day"] (spAllDip K CH CB)) (kLD : PySem.W.keepIn K (.ref fLD) = true) (bLD : Binds K fdLD ["_law_book", "_law_order", "_law_found", "_law_day"] []) (mLD : mg "_law_all_dipped" = some (.ref fLD))
    (GLP : FnOk P w K mg base CX0 6 fLP fdLP ["_law_book", "_law_pairs", "_law_one", "_law_row_here", "_law_day", "_law_step"] (spApart K CH CB)) (kLP : PySem.W.keepIn K (.ref fLP) = true) (bLP : Binds K fdLP ["_law_book", "_law_pairs", "_law_one", "_law_row_here", "_law_day", "_law_step"] []) (mLP : mg "_law_stay_apart" = some (.ref fLP)) :
    FnOk P w K mg base CX0 8 f fd ["_law_script"] (spLaw K) := by
  refine F.ok scLaw (fun vs H Q E h => ?_) (fun cdv A outer s H vs Q E hr h => ?_)
  · obtain ⟨_, _, rfl, _⟩ := h
    rfl
  · obtain ⟨a, ns, rfl, ha, hn, q⟩ := h
    have hr1 := hr.mono (j := 1) (by omega)
    have hr2 := hr.mono (j := 2) (by omega)
    have hr5 := hr.mono (j := 5) (by omega)
    have hr6 := hr.mono (j := 6) (by omega)
    have hr7 := hr.mono (j := 7) (by omega)
    refine ⟨_, (pss_cut (ps_asg (pe_call GDr hr5 rfl mDr kDr bDr .nil pass0 (pa_cons (pv 0) pa_nil)) (pg_tup (n := 4) rfl (pgs_cons (pg_name (i := 1) scLaw.nd rfl (Or.inl rfl)) (pgs_cons (pg_name (i := 2) scLaw.nd rfl (Or.inl rfl)) (pgs_cons (pg_name (i := 3) scLaw.nd rfl (Or.inl rfl)) (pgs_cons (pg_name (i := 4) scLaw.nd rfl (Or.inl rfl)) pgs_nil))))))
      (pss_cut (ps_set (i := 5) scLaw.nd rfl (Or.inl rfl) (pe_call GTa hr1 rfl mTa kTa bTa .nil pass0 (pa_cons (pv 1) (pa_cons (pv 2) pa_nil))))
      (pss_cut (ps_set (i := 6) scLaw.nd rfl (Or.inl rfl) (pe_callB call_sortedL (by rfl) T.sorted (by decide +kernel) (pa_cons (pv 1) pa_nil)))
      (pss_cut (ps_set (i := 7) scLaw.nd rfl (Or.inl rfl) (pe_call GHd hr6 rfl mHd kHd bHd .nil pass0 (pa_cons (pv 1) (pa_cons (pv 2) pa_nil))))
      (pss_cut (ps_if (pt_cmpR op_eq (pe_op op_mod (pe_call GA hr1 rfl mA kA bA .nil pass0 (pa_cons (pv 0) (pa_cons pe_int pa_nil))) pe_int) pe_int (nomark _)) (pss_one (ps_set (i := 7) scLaw.nd rfl (Or.inl rfl) (pe_call GRB hr7 rfl mRB kRB bRB .nil pass0 (pa_cons (pe_call GTx hr1 rfl mTx kTx bTx .nil pass0 (pa_cons (pv 6) (pa_cons (pv 5) pa_nil))) pa_nil)))) pss_nil)
      (pss_cut (ps_set (i := 8) scLaw.nd rfl (Or.inl rfl) (pe_call GA1 hr5 rfl mA1 kA1 bA1 .nil pass0 (pa_cons (pv 7) pa_nil)))
      (pss_cut (ps_set (i := 9) scLaw.nd rfl (Or.inl rfl) (pe_op op_add pe_int (pe_op op_mod (pe_call GA hr1 rfl mA kA bA .nil pass0 (pa_cons (pv 0) (pa_cons pe_int pa_nil))) pe_int)))
      (pss_cut (ps_if (pt_not (pt_val (pe_call GPr hr1 rfl mPr kPr bPr .nil pass0 (pa_cons (pv 8) pa_nil)))) (pss_one (ps_ret pe_bl)) pss_nil)
      (pss_cut (ps_if (pt_cmpR op_notN (pe_ix ix_tup (pv 8) pe_int (fun _ _ => rfl)) pe_non (nomark _)) (pss_one (ps_ret (pe_and (pe_call GTo hr2 rfl mTo kTo bTo .nil pass0 (pa_cons (pv 8) (pa_cons (pv 6) (pa_cons (pv 5) pa_nil)))) (pe_one (pe_call GLD hr6 rfl mLD kLD bLD .nil pass0 (pa_cons (pv 7) (pa_cons (pv 6) (pa_cons (pv 8) (pa_cons (pv 9) pa_nil))))))))) pss_nil)
      (pss_cut (ps_if (pt_not (pt_val (pe_call GSk hr2 rfl mSk kSk bSk .nil pass0 (pa_cons (pe_ix ix_tup (pv 8) pe_int (fun _ _ => rfl)) (pa_cons (pv 6) (pa_cons (pv 5) pa_nil)))))) (pss_one (ps_ret pe_bl)) pss_nil)
      (pss_cut (ps_set (i := 10) scLaw.nd rfl (Or.inl rfl) (pe_call GRw hr2 rfl mRw kRw bRw .nil pass0 (pa_cons (pe_call GA hr1 rfl mA kA bA .nil pass0 (pa_cons (pv 0) (pa_cons pe_int pa_nil))) (pa_cons (pe_op op_mod (pe_call GA hr1 rfl mA kA bA .nil pass0 (pa_cons (pv 0) (pa_cons pe_int pa_nil))) pe_int) (pa_cons (pe_callB (call_sortedD rfl) (by rfl) T.sorted (by decide +kernel) (pa_cons (pv 5) pa_nil)) (pa_cons pe_int pa_nil))))))
      (pss_cut (ps_set (i := 11) scLaw.nd rfl (Or.inl rfl) (pe_ix ix_list (pe_ix ix_tup (pv 8) pe_int (fun _ _ => rfl)) (pe_op op_mod (pe_call GA hr1 rfl mA kA bA .nil pass0 (pa_cons (pv 0) (pa_cons pe_int pa_nil))) (pe_callB call_len_seq (by rfl) T.len PySem.boot_len (pa_cons (pe_ix ix_tup (pv 8) pe_int (fun _ _ => rfl)) pa_nil))) (fun _ _ => rfl)))
      (pss_one (ps_ret (pe_call GLP hr6 rfl mLP kLP bLP .nil pass0 (pa_cons (pv 7) (pa_cons (pe_ix ix_tup (pv 8) pe_int (fun _ _ => rfl)) (pa_cons (pv 11) (pa_cons (pv 10) (pa_cons (pv 9) (pa_cons (pe_op op_mod (pe_call GA hr1 rfl mA kA bA .nil pass0 (pa_cons (pv 0) (pa_cons pe_int pa_nil))) pe_int) pa_nil))))))))))))))))))))), ?_⟩
    have hs := sz1000
    refine cutQ (fun σ' H' => ∃ l lb ss bs v3 v4, σ' = [some (.ref a), some (.ref l), some (.ref lb), v3, v4, none, none, none, none, none, none, none] ∧ Same H H' ∧ H' l = some (.lst (ss.map V.str)) ∧ Bths H' lb bs ∧ BookIn ss bs) (fun R hR => ?_) ?_
    · walk_at "dm"
      exact ⟨a, ns, rfl, ha, fun p l lb ss bs spare other H' S h1 h2 h3 h4 h5 B _ _ _ _ => ⟨p, _, rfl, SqT.of h1, rfl, _, _, rfl, _, _, rfl, _, _, rfl, _, _, rfl, rfl, hR _ _ ⟨l, lb, ss, bs, _, _, rfl, S, h3, h5, B⟩⟩⟩
    rintro σ1 H1 ⟨l, lb, ss, bs, v3, v4, rfl, S1, hl, hb, B⟩
    have hs12 := B.s12
    have hs1 := B.s1
    have hb8 := B.b8
    refine cutQ (fun σ' H' => ∃ tb, σ' = [some (.ref a), some (.ref l), some (.ref lb), v3, v4, some (.ref tb), none, none, none, none, none, none] ∧ Same H1 H' ∧ Tabs H' tb ss bs) (fun R hR => ?_) ?_
    · walk_at "dm"
      exact ⟨l, lb, ss, bs, rfl, SqL.of hl, hb, B, fun d H' hd S hT => hR _ _ ⟨d, rfl, S, hT⟩⟩
    rintro σ2 H2 ⟨tb, rfl, S2, hT⟩
    have hG := Tabs.toG B hT
    refine cutQ (fun σ' H' => ∃ (lo : Addr) (so : List Str), σ' = [some (.ref a), some (.ref l), some (.ref lb), v3, v4, some (.ref tb), some (.ref lo), none, none, none, none, none] ∧ Same H2 H' ∧ H' lo = some (.lst (so.map V.str)) ∧ so.Perm ss ∧ PyProof.Rows.sortedS so = true) (fun R hR => ?_) ?_
    · walk_at "dm"
      exact ⟨ss, SqL.of (S2 _ _ hl), by omega, fun ls so hls hpm hso => hR _ _ ⟨ls, so, rfl, Same.updN hls, upd_same, hpm, hso⟩⟩
    rintro σ3 H3 ⟨lo, so, rfl, S3, hlo, hpm, hso⟩
    have hsl : so.length = ss.length := hpm.length_eq
    have S03 := S1.trans (S2.trans S3)
    refine cutQ (fun σ' H' => ∃ x0, σ' = [some (.ref a), some (.ref l), some (.ref lb), v3, v4, some (.ref tb), some (.ref lo), some (.ref x0), none, none, none, none] ∧ Same H3 H' ∧ BookAt H' CB x0 ss bs) (fun R hR => ?_) ?_
    · walk_at "dm"
      exact ⟨l, lb, ss, bs, rfl, SqL.of ((S2.trans S3) _ _ hl), Same.bths (S2.trans S3) hb, B, fun x H' hx S hbk => hR _ _ ⟨x, rfl, S, hbk⟩⟩
    rintro σ7 H7 ⟨x0, rfl, S7, hbk⟩
    have hG7 := Fz.tabG (Same.fz (S3.trans S7)) hG
    have hlo7 := S7 _ _ hlo
    have hkR : ∀ {nt : List Str}, (bsR so nt (lkB ss bs)).map (·.1) = nt := fun {nt} => bsR_keys so nt (lkB ss bs)
    refine cutQ (fun σ' H' => ∃ (x0 : Addr) (sb : List Str) (bb : List (Str × List Str)), σ' = [some (.ref a), some (.ref l), some (.ref lb), v3, v4, some (.ref tb), some (.ref lo), some (.ref x0), none, none, none, none] ∧ Same H7 H' ∧ BookAt H' CB x0 sb bb ∧ BookIn sb bb ∧ (∀ z, z ∈ sb ↔ z ∈ ss) ∧ (∀ n, n ∈ bb.map (·.1) ↔ n ∈ bs.map (·.1)) ∧ ∀ n z, n ∈ bs.map (·.1) → z ∈ ss → lkB sb bb n z = lkB ss bs n z) (fun R hR => ?_) ?_
    · walk_at "dm"
      refine at_use ((S03.trans S7).seq ha) (by decide) ⟨_, rfl, by decide, rfl, ite2 (fun _ => ?_) (fun _ => hR _ _ ⟨x0, ss, bs, rfl, Same.refl _, hbk, B, fun _ => Iff.rfl, fun _ => Iff.rfl, fun _ _ _ _ => rfl⟩)⟩
      refine ⟨lo, tb, ss, so, bs.map (·.1), bs, lkB ss bs, rfl, B, hlo7, hpm, hG7, List.Perm.refl _, fun b hb z hz => lkB_eq z B.bnd hb, fun H' nt S hnp hns => ?_⟩
      have BR := bsR_in B hpm hnp
      exact ⟨so, nt, lkB ss bs, rfl, BR, hso, hns, fun x2 H2 _ S2 hbk2 => hR _ _ ⟨x2, so, _, rfl, S.trans S2, hbk2, BR, fun z => hpm.mem_iff, fun n => by rw [hkR]; exact hnp.mem_iff, fun n z hn hz => lkB_R BR (hnp.mem_iff.mpr hn) (hpm.mem_iff.mpr hz)⟩⟩
    rintro σ8 H8 ⟨x, sb, bb, rfl, S8, hbk8, Bb, hzb, hnb, hlk⟩
    have eR : ∀ (r : List Str) (z : Str), (∀ n ∈ r, n ∈ bb.map (·.1)) → z ∈ ss → endL (lkB sb bb) r z = endL (lkB ss bs) r z := by
      intro r
      induction r with
      | nil => intro z _ _; rfl
      | cons n r ih =>
        intro z hr hz
        have hn := (hnb n).mp (hr n List.mem_cons_self)
        show endL _ r (lkB sb bb n z) = endL _ r (lkB ss bs n z)
        rw [hlk n z hn hz]
        exact ih _ (fun m hm => hr m (List.mem_cons_of_mem _ hm)) (lkB_mem B n hn z hz)
    refine cutQ (fun σ' H' => ∃ fo, σ' = [some (.ref a), some (.ref l), some (.ref lb), v3, v4, some (.ref tb), some (.ref lo), some (.ref x), some (.ref fo), none, none, none] ∧ Same H8 H' ∧ BookAt H' CB x sb bb ∧ ((∃ (R : List Str) (z : Str) (r : Addr), OkR (bb.map (·.1)) R ∧ R.length ≤ 1000 ∧ (∀ y ∈ sb, endL (lkB sb bb) R y = z) ∧ H' fo = some (.tup [.ref r, .str z]) ∧ H' r = some (.lst (R.map V.str))) ∨ ∃ (L : List (Str × Str)) (rs : List Addr) (lp : Addr), StuckL (lkB sb bb) (bb.map (·.1)) sb L ∧ H' fo = some (.tup [.non, .ref lp]) ∧ H' lp = some (.lst (rs.map V.ref)) ∧ Tups H' rs (L.map tupP))) (fun R hR => ?_) ?_
    · walk_at "dm"
      exact ⟨x, sb, bb, rfl, hbk8, Bb, fun R z t r H'' hRo hRl hRe hz S' hr0 ht hr => hR _ _ ⟨t, rfl, S', Same.book S' hbk8, .inl ⟨R, z, r, hRo, hRl, hRe, ht, hr⟩⟩, fun L rs t lp H'' St S' hl0 ht hlp hT => hR _ _ ⟨t, rfl, S', Same.book S' hbk8, .inr ⟨L, rs, lp, St, ht, hlp, hT⟩⟩⟩
    rintro σ4 H4 ⟨fo, rfl, S4, hbk4, hfo⟩
    have S84 := S8.trans S4
    have hG4 := Fz.tabG (Same.fz S84) hG7
    have hlo4 := S84 _ _ hlo7
    have ha4 := ((S03.trans S7).trans S84).seq ha
    refine cutQ (fun σ' H' => ∃ dy : Int, 1 ≤ dy ∧ dy ≤ 49 ∧ σ' = [some (.ref a), some (.ref l), some (.ref lb), v3, v4, some (.ref tb), some (.ref lo), some (.ref x), some (.ref fo), some (.int dy), none, none] ∧ H' = H4) (fun R hR => ?_) ?_
    · walk_at "dm"
      exact at_use ha4 (by decide) ⟨_, rfl, by decide, hR _ _ ⟨_, by omega, by omega, rfl, rfl⟩⟩
    rintro σ5 H5 ⟨dy, hdy1, hdy2, rfl, rfl⟩
    refine cutQ (fun σ' H' => σ' = [some (.ref a), some (.ref l), some (.ref lb), v3, v4, some (.ref tb), some (.ref lo), some (.ref x), some (.ref fo), some (.int dy), none, none] ∧ H' = H5) (fun R hR => ?_) ?_
    · obtain ⟨x, y, ht⟩ : ∃ x y, H5 fo = some (.tup [x, y]) := by
        rcases hfo with ⟨_, _, _, _, _, _, h1, _⟩ | ⟨_, _, _, _, h1, _⟩
        · exact ⟨_, _, h1⟩
        · exact ⟨_, _, h1⟩
      walk_at "dm"
      exact ⟨fo, _, _, rfl, ht, true, rfl, ite2 (fun h => by cases h) (fun _ => hR _ _ ⟨rfl, rfl⟩)⟩
    rintro σ6 H6 ⟨rfl, rfl⟩
    refine cutQ (fun σ' H' => σ' = [some (.ref a), some (.ref l), some (.ref lb), v3, v4, some (.ref tb), some (.ref lo), some (.ref x), some (.ref fo), some (.int dy), none, none] ∧ H' = H6 ∧ ∃ (L : List (Str × Str)) (rs : List Addr) (lp : Addr), StuckL (lkB sb bb) (bb.map (·.1)) sb L ∧ H6 fo = some (.tup [.non, .ref lp]) ∧ H6 lp = some (.lst (rs.map V.ref)) ∧ Tups H6 rs (L.map tupP)) (fun R hR => ?_) ?_
    · rcases hfo with ⟨R', z, r, hRo, hRl, hRe, h1, h2⟩ | h
      · walk_at "dm"
        refine ⟨_, SqT.of h1, _, rfl, ite2 (fun _ => ?_) (fun e => absurd (fun h => by cases h) e)⟩
        refine ⟨fo, lo, tb, r, so, ss, bs.map (·.1), R', lkB ss bs, z, rfl, h1, h2, SqL.of hlo4, hpm, by omega, hG4, lkB_mem B, fun n hn => (hnb n).mp (hRo n hn), hRl, fun y hy => by rw [← eR R' y hRo hy]; exact hRe y ((hzb y).mpr hy), fun H7 S7 => ⟨true, rfl, ite2 (fun _ => ?_) (fun h => absurd rfl h)⟩⟩
        exact ⟨x, lo, fo, r, so, sb, bb, R', z, dy, rfl, Same.book S7 hbk4, Bb, S7 _ _ hlo4, fun z hz => (hzb z).mpr (hpm.mem_iff.mp hz), by omega, by omega, S7 _ _ h1, S7 _ _ h2, hRo, hRl, hRe, hdy1, by omega, q⟩
      · obtain ⟨_, _, _, _, h1, _⟩ := id h
        walk_at "dm"
        exact ⟨_, SqT.of h1, _, rfl, ite2 (fun e => absurd rfl e) (fun _ => hR _ _ ⟨rfl, rfl, h⟩)⟩
    rintro σ9 H9 ⟨rfl, rfl, L, rs, lp, St, h1, h2, h3⟩
    refine cutQ (fun σ' H' => σ' = [some (.ref a), some (.ref l), some (.ref lb), v3, v4, some (.ref tb), some (.ref lo), some (.ref x), some (.ref fo), some (.int dy), none, none] ∧ Fz H9 H') (fun R hR => ?_) ?_
    · have St' : StuckL (lkB ss bs) (bs.map (·.1)) ss L := ⟨St.ne, St.nd, fun e he => ⟨(hzb _).mp (St.mem e he).1, (hzb _).mp (St.mem e he).2.1, (St.mem e he).2.2⟩, fun e he n hn => by rw [← hlk n e.1 hn ((hzb _).mp (St.mem e he).1), ← hlk n e.2 hn ((hzb _).mp (St.mem e he).2.1)]; exact St.out e he n ((hnb n).mpr hn), St.len⟩
      walk_at "dm"
      exact ⟨_, SqT.of h1, _, rfl, lp, lo, tb, rs, so, ss, bs.map (·.1), lkB ss bs, L, rfl, h2, h3, hlo4, hpm, by omega, hG4, lkB_mem B, St', fun H' F => ⟨true, rfl, ite2 (fun h => by cases h) (fun _ => hR _ _ ⟨rfl, F⟩)⟩⟩
    rintro σ10 H10 ⟨rfl, F10⟩
    refine cutQ (fun σ' H' => ∃ (lr : Addr) (row : List Str), σ' = [some (.ref a), some (.ref l), some (.ref lb), v3, v4, some (.ref tb), some (.ref lo), some (.ref x), some (.ref fo), some (.int dy), some (.ref lr), none] ∧ Fz H10 H' ∧ H' lr = some (.lst (row.map V.str)) ∧ row.length ≤ 40 ∧ ∀ n ∈ row, n ∈ bs.map (·.1)) (fun R9 hR9 => ?_) ?_
    · obtain ⟨kvs, hRd, hkeys, _⟩ := Fz.tabG F10 hG4
      have ha10 := F10.seq ha4
      obtain ⟨m, hm⟩ : ∃ m : Nat, atL ns 16 % 41 = (m : Int) := Int.eq_ofNat_of_zero_le (by omega)
      walk_at "dm"
      refine at_use ha10 (by decide) (at_use ha10 (by decide) ⟨_, rfl, by decide, bs.map (·.1), kvs, hRd, hkeys, by rw [List.length_map]; omega, fun p ts hp hpp _ => ?_⟩)
      rw [hm]
      exact ⟨_, _, m, p, ts, rfl, SqL.of upd_same, by omega, by rw [hpp.length_eq, List.length_map]; exact hb8, .inr rfl, fun p2 row H6 _ S6 hH hlen hrow => hR9 _ _ ⟨p2, row, rfl, Same.fz ((Same.updN hp).trans S6), hH, hlen, fun n hn => hpp.mem_iff.mp (hrow n hn)⟩⟩
    rintro σ11 H11 ⟨lr, row, rfl, F11, hlr, h40, hrow⟩
    have F911 := F10.trans F11
    have h1' := F911.1 _ _ h1 (fun kvs e => by cases e)
    have h2' := F911.1 _ _ h2 (fun kvs e => by cases e)
    have h3' : Tups H11 rs (L.map tupP) := ⟨h3.1, fun i p e hp he => F911.1 _ _ (h3.2 i p e hp he) (fun kvs e => by cases e)⟩
    have ha11 := F911.seq ha4
    have hLl : rs.length = L.length := by have := h3.1; rw [List.length_map] at this; exact this
    have hL1 : 0 < L.length := List.length_pos_iff.mpr St.ne
    refine cutQ (fun σ' H' => ∃ (on : Addr) (e : Str × Str), σ' = [some (.ref a), some (.ref l), some (.ref lb), v3, v4, some (.ref tb), some (.ref lo), some (.ref x), some (.ref fo), some (.int dy), some (.ref lr), some (.ref on)] ∧ H' = H11 ∧ e ∈ L ∧ H11 on = some (.tup [.str e.1, .str e.2])) (fun R hR => ?_) ?_
    · obtain ⟨j, hj⟩ : ∃ j : Nat, atL ns 17 % (rs.length : Int) = (j : Int) := Int.eq_ofNat_of_zero_le (Int.emod_nonneg _ (by omega))
      have hjl : j < rs.length := by have := Int.emod_lt_of_pos (atL ns 17) (show (0 : Int) < (rs.length : Int) by omega); omega
      obtain ⟨p, hp⟩ : ∃ p, rs[j]? = some p := ⟨_, List.getElem?_eq_getElem hjl⟩
      obtain ⟨e, he⟩ : ∃ e, L[j]? = some e := ⟨_, List.getElem?_eq_getElem (by omega)⟩
      walk_at "dm"
      refine ⟨_, SqT.of h1', _, rfl, at_use ha11 (by decide) ⟨_, SqT.of h1', _, rfl, lp, rfl, _, .inl (SqL.of h2'), _, rfl, by rw [List.length_map]; omega, lp, rfl, _, SqL.of h2', V.ref p, ?_, hR _ _ ⟨p, e, rfl, rfl, List.mem_of_getElem? he, h3'.2 j p _ hp (by rw [List.getElem?_map, he]; rfl)⟩⟩⟩
      rw [List.length_map, hj]
      exact atI_nat (by rw [List.getElem?_map, hp]; rfl)
    rintro σ12 H12 ⟨on, e, rfl, rfl, heL, hon⟩
    walk_at "dm"
    exact ⟨_, SqT.of h1', _, rfl, at_use ha11 (by decide) ⟨_, rfl, by decide, x, lp, on, lr, sb, bb, rs, L, e.1, e.2, row, dy, _, rfl, Fz.book F911 hbk4, Bb, h2', h3', hon, heL, St, hlr, h40, fun n hn => (hnb n).mpr (hrow n hn), hdy1, hdy2, by omega, by omega, q⟩⟩
end

end DM
set_option Elab.async false
set_option linter.all false
set_option maxRecDepth 100000
set_option maxHeartbeats 8000000
namespace DM
open PySem L2
theorem all_mk {l : PySem.W.OpenLaw} {w : World} {K : PySem.W.Frag} {h : Heap} {mg : Str → Option Value} {fa : Addr} (X : K.In h) (G : h.Ns mainGlobals mg) (hfa : mg "law" = some (.ref fa))
    {CB : Addr}
    {fI : Addr} {odI anI : Option Addr} {slI : Array (Option Value)} {ocI kVI dcI pmI cdI ctI : Value}
    {fMS : Addr} {odMS anMS : Option Addr} {slMS : Array (Option Value)} {ocMS kVMS dcMS pmMS cdMS ctMS : Value}
    {fMB : Addr} {odMB anMB : Option Addr} {slMB : Array (Option Value)} {ocMB kVMB dcMB pmMB cdMB ctMB : Value}
    {fMT : Addr} {odMT anMT : Option Addr} {slMT : Array (Option Value)} {ocMT kVMT dcMT pmMT cdMT ctMT : Value}
    {fMC : Addr} {odMC anMC : Option Addr} {slMC : Array (Option Value)} {ocMC kVMC dcMC pmMC cdMC ctMC : Value}
    {fMH : Addr} {odMH anMH : Option Addr} {slMH : Array (Option Value)} {ocMH kVMH dcMH pmMH cdMH ctMH : Value}
    {fMO : Addr} {odMO anMO : Option Addr} {slMO : Array (Option Value)} {ocMO kVMO dcMO pmMO cdMO ctMO : Value}
    {CH : Addr}
    {fHI : Addr} {odHI anHI : Option Addr} {slHI : Array (Option Value)} {ocHI kVHI dcHI pmHI cdHI ctHI : Value}
    {fHR : Addr} {odHR anHR : Option Addr} {slHR : Array (Option Value)} {ocHR kVHR dcHR pmHR cdHR ctHR : Value}
    {fHQ : Addr} {odHQ anHQ : Option Addr} {slHQ : Array (Option Value)} {ocHQ kVHQ dcHQ pmHQ cdHQ ctHQ : Value}
    {fHB : Addr} {odHB anHB : Option Addr} {slHB : Array (Option Value)} {ocHB kVHB dcHB pmHB cdHB ctHB : Value}
    {fHS : Addr} {odHS anHS : Option Addr} {slHS : Array (Option Value)} {ocHS kVHS dcHS pmHS cdHS ctHS : Value}
    {fHT : Addr} {odHT anHT : Option Addr} {slHT : Array (Option Value)} {ocHT kVHT dcHT pmHT cdHT ctHT : Value}
    {fHN : Addr} {odHN anHN : Option Addr} {slHN : Array (Option Value)} {ocHN kVHN dcHN pmHN cdHN ctHN : Value}
    {fHC : Addr} {odHC anHC : Option Addr} {slHC : Array (Option Value)} {ocHC kVHC dcHC pmHC cdHC ctHC : Value}
    {fHD : Addr} {odHD anHD : Option Addr} {slHD : Array (Option Value)} {ocHD kVHD dcHD pmHD cdHD ctHD : Value}
    {fGd : Addr} {odGd anGd : Option Addr} {slGd : Array (Option Value)} {ocGd kVGd dcGd pmGd cdGd ctGd : Value}
    {fCn : Addr} {odCn anCn : Option Addr} {slCn : Array (Option Value)} {ocCn kVCn dcCn pmCn cdCn ctCn : Value}
    {fCs : Addr} {odCs anCs : Option Addr} {slCs : Array (Option Value)} {ocCs kVCs dcCs pmCs cdCs ctCs : Value}
    {fCo : Addr} {odCo anCo : Option Addr} {slCo : Array (Option Value)} {ocCo kVCo dcCo pmCo cdCo ctCo : Value}
    {fCb : Addr} {odCb anCb : Option Addr} {slCb : Array (Option Value)} {ocCb kVCb dcCb pmCb cdCb ctCb : Value}
    {fCD : Addr} {odCD anCD : Option Addr} {slCD : Array (Option Value)} {ocCD kVCD dcCD pmCD cdCD ctCD : Value}
    {fA : Addr} {odA anA : Option Addr} {slA : Array (Option Value)} {ocA kVA dcA pmA cdA ctA : Value}
    {fD : Addr} {odD anD : Option Addr} {slD : Array (Option Value)} {ocD kVD dcD pmD cdD ctD : Value}
    {fN : Addr} {odN anN : Option Addr} {slN : Array (Option Value)} {ocN kVN dcN pmN cdN ctN : Value}
    {fNs : Addr} {odNs anNs : Option Addr} {slNs : Array (Option Value)} {ocNs kVNs dcNs pmNs cdNs ctNs : Value}
    {fTu : Addr} {odTu anTu : Option Addr} {slTu : Array (Option Value)} {ocTu kVTu dcTu pmTu cdTu ctTu : Value}
    {fOu : Addr} {odOu anOu : Option Addr} {slOu : Array (Option Value)} {ocOu kVOu dcOu pmOu cdOu ctOu : Value}
    {fSh : Addr} {odSh anSh : Option Addr} {slSh : Array (Option Value)} {ocSh kVSh dcSh pmSh cdSh ctSh : Value}
    {fNd : Addr} {odNd anNd : Option Addr} {slNd : Array (Option Value)} {ocNd kVNd dcNd pmNd cdNd ctNd : Value}
    {fSz : Addr} {odSz anSz : Option Addr} {slSz : Array (Option Value)} {ocSz kVSz dcSz pmSz cdSz ctSz : Value}
    {fDn : Addr} {odDn anDn : Option Addr} {slDn : Array (Option Value)} {ocDn kVDn dcDn pmDn cdDn ctDn : Value}
    {fTa : Addr} {odTa anTa : Option Addr} {slTa : Array (Option Value)} {ocTa kVTa dcTa pmTa cdTa ctTa : Value}
    {fHd : Addr} {odHd anHd : Option Addr} {slHd : Array (Option Value)} {ocHd kVHd dcHd pmHd cdHd ctHd : Value}
    {fTI : Addr} {odTI anTI : Option Addr} {slTI : Array (Option Value)} {ocTI kVTI dcTI pmTI cdTI ctTI : Value}
    {fRw : Addr} {odRw anRw : Option Addr} {slRw : Array (Option Value)} {ocRw kVRw dcRw pmRw cdRw ctRw : Value}
    {fAE : Addr} {odAE anAE : Option Addr} {slAE : Array (Option Value)} {ocAE kVAE dcAE pmAE cdAE ctAE : Value}
    {fWR : Addr} {odWR anWR : Option Addr} {slWR : Array (Option Value)} {ocWR kVWR dcWR pmWR cdWR ctWR : Value}
    {fWB : Addr} {odWB anWB : Option Addr} {slWB : Array (Option Value)} {ocWB kVWB dcWB pmWB cdWB ctWB : Value}
    {fBO : Addr} {odBO anBO : Option Addr} {slBO : Array (Option Value)} {ocBO kVBO dcBO pmBO cdBO ctBO : Value}
    {fLO : Addr} {odLO anLO : Option Addr} {slLO : Array (Option Value)} {ocLO kVLO dcLO pmLO cdLO ctLO : Value}
    {fRB : Addr} {odRB anRB : Option Addr} {slRB : Array (Option Value)} {ocRB kVRB dcRB pmRB cdRB ctRB : Value}
    {fTx : Addr} {odTx anTx : Option Addr} {slTx : Array (Option Value)} {ocTx kVTx dcTx pmTx cdTx ctTx : Value}
    {fWa : Addr} {odWa anWa : Option Addr} {slWa : Array (Option Value)} {ocWa kVWa dcWa pmWa cdWa ctWa : Value}
    {fAP : Addr} {odAP anAP : Option Addr} {slAP : Array (Option Value)} {ocAP kVAP dcAP pmAP cdAP ctAP : Value}
    {fJR : Addr} {odJR anJR : Option Addr} {slJR : Array (Option Value)} {ocJR kVJR dcJR pmJR cdJR ctJR : Value}
    {fJS : Addr} {odJS anJS : Option Addr} {slJS : Array (Option Value)} {ocJS kVJS dcJS pmJS cdJS ctJS : Value}
    {fJD : Addr} {odJD anJD : Option Addr} {slJD : Array (Option Value)} {ocJD kVJD dcJD pmJD cdJD ctJD : Value}
    {fA1 : Addr} {odA1 anA1 : Option Addr} {slA1 : Array (Option Value)} {ocA1 kVA1 dcA1 pmA1 cdA1 ctA1 : Value}
    {fPr : Addr} {odPr anPr : Option Addr} {slPr : Array (Option Value)} {ocPr kVPr dcPr pmPr cdPr ctPr : Value}
    {fLo : Addr} {odLo anLo : Option Addr} {slLo : Array (Option Value)} {ocLo kVLo dcLo pmLo cdLo ctLo : Value}
    {fT1 : Addr} {odT1 anT1 : Option Addr} {slT1 : Array (Option Value)} {ocT1 kVT1 dcT1 pmT1 cdT1 ctT1 : Value}
    {fSk : Addr} {odSk anSk : Option Addr} {slSk : Array (Option Value)} {ocSk kVSk dcSk pmSk cdSk ctSk : Value}
    {fLD : Addr} {odLD anLD : Option Addr} {slLD : Array (Option Value)} {ocLD kVLD dcLD pmLD cdLD ctLD : Value}
    {fLP : Addr} {odLP anLP : Option Addr} {slLP : Array (Option Value)} {ocLP kVLP dcLP pmLP cdLP ctLP : Value}
    {fL : Addr} {odL anL : Option Addr} {slL : Array (Option Value)} {ocL kVL dcL pmL cdL ctL : Value}
    {xNoDay : Addr}
    {cdNoDay : ClassData}
    {xLate : Addr}
    {cdLate : ClassData}
    {xNoCloth : Addr}
    {cdNoCloth : ClassData}
    {xKnown : Addr}
    {cdKnown : ClassData}
    {xBadName : Addr}
    {cdBadName : ClassData}
    {xFull : Addr}
    {cdFull : ClassData}
    {xNoBath : Addr}
    {cdNoBath : ClassData}
    {xNoShade : Addr}
    {cdNoShade : ClassData}
    {tlett : Tok}
    {tlong : Tok}
    {tmostS : Tok}
    {tmostB : Tok}
    {tfday : Tok}
    {tlday : Tok}
    {tmostC : Tok}
    {tmostD : Tok}
    (aCB : PySem.W.nsIn K mainGlobals "Book" = some (some (.ref CB)))
    (aI : PySem.W.findIn K (.ref CB) "__init__" = some (some (.ref fI)))
    (iI : PySem.W.isFn K (.ref fI) = true)
    (lI : K.lookup fI = some ⟨ocI, odI, .func (PySem.W.fnOf "__init__" "Book.__init__" (defArgs sInit) (defBody sInit) (defScope sInit) .none kVI dcI pmI anI cdI ctI), slI⟩)
    (cI : PySem.W.codeIn K cdI "Book.__init__" = true)
    (kI : PySem.W.keepIn K (.ref fI) = true)
    (aMS : PySem.W.findIn K (.ref CB) "shades" = some (some (.ref fMS)))
    (iMS : PySem.W.isFn K (.ref fMS) = true)
    (lMS : K.lookup fMS = some ⟨ocMS, odMS, .func (PySem.W.fnOf "shades" "Book.shades" (defArgs sBShades) (defBody sBShades) (defScope sBShades) .none kVMS dcMS pmMS anMS cdMS ctMS), slMS⟩)
    (cMS : PySem.W.codeIn K cdMS "Book.shades" = true)
    (kMS : PySem.W.keepIn K (.ref fMS) = true)
    (aMB : PySem.W.findIn K (.ref CB) "baths" = some (some (.ref fMB)))
    (iMB : PySem.W.isFn K (.ref fMB) = true)
    (lMB : K.lookup fMB = some ⟨ocMB, odMB, .func (PySem.W.fnOf "baths" "Book.baths" (defArgs sBBaths) (defBody sBBaths) (defScope sBBaths) .none kVMB dcMB pmMB anMB cdMB ctMB), slMB⟩)
    (cMB : PySem.W.codeIn K cdMB "Book.baths" = true)
    (kMB : PySem.W.keepIn K (.ref fMB) = true)
    (aMT : PySem.W.findIn K (.ref CB) "table" = some (some (.ref fMT)))
    (iMT : PySem.W.isFn K (.ref fMT) = true)
    (lMT : K.lookup fMT = some ⟨ocMT, odMT, .func (PySem.W.fnOf "table" "Book.table" (defArgs sBTable) (defBody sBTable) (defScope sBTable) .none kVMT dcMT pmMT anMT cdMT ctMT), slMT⟩)
    (cMT : PySem.W.codeIn K cdMT "Book.table" = true)
    (kMT : PySem.W.keepIn K (.ref fMT) = true)
    (aMC : PySem.W.findIn K (.ref CB) "check_bath" = some (some (.ref fMC)))
    (iMC : PySem.W.isFn K (.ref fMC) = true)
    (lMC : K.lookup fMC = some ⟨ocMC, odMC, .func (PySem.W.fnOf "check_bath" "Book.check_bath" (defArgs sBCheck) (defBody sBCheck) (defScope sBCheck) .none kVMC dcMC pmMC anMC cdMC ctMC), slMC⟩)
    (cMC : PySem.W.codeIn K cdMC "Book.check_bath" = true)
    (kMC : PySem.W.keepIn K (.ref fMC) = true)
    (aMH : PySem.W.findIn K (.ref CB) "check_shade" = some (some (.ref fMH)))
    (iMH : PySem.W.isFn K (.ref fMH) = true)
    (lMH : K.lookup fMH = some ⟨ocMH, odMH, .func (PySem.W.fnOf "check_shade" "Book.check_shade" (defArgs sBCShade) (defBody sBCShade) (defScope sBCShade) .none kVMH dcMH pmMH anMH cdMH ctMH), slMH⟩)
    (cMH : PySem.W.codeIn K cdMH "Book.check_shade" = true)
    (kMH : PySem.W.keepIn K (.ref fMH) = true)
    (aMO : PySem.W.findIn K (.ref CB) "out" = some (some (.ref fMO)))
    (iMO : PySem.W.isFn K (.ref fMO) = true)
    (lMO : K.lookup fMO = some ⟨ocMO, odMO, .func (PySem.W.fnOf "out" "Book.out" (defArgs sBOut) (defBody sBOut) (defScope sBOut) .none kVMO dcMO pmMO anMO cdMO ctMO), slMO⟩)
    (cMO : PySem.W.codeIn K cdMO "Book.out" = true)
    (kMO : PySem.W.keepIn K (.ref fMO) = true)
    (pgB : PySem.W.plainGet K CB Str.empty = true)
    (hdB : PySem.W.hasDictIn K CB = true)
    (poB : PySem.W.plainOver K CB = true)
    (saB : PySem.W.findIn K (.ref CB) "__setattr__" = some (some (.builtin "object.__setattr__")))
    (mkB : PySem.W.makesIn K CB = true)
    (kcB : PySem.W.keepIn K (.ref CB) = true)
    (naB_order : PySem.W.findIn K (.ref CB) "order" = some none)
    (naB_tables : PySem.W.findIn K (.ref CB) "tables" = some none)
    (aCH : PySem.W.nsIn K mainGlobals "House" = some (some (.ref CH)))
    (aHI : PySem.W.findIn K (.ref CH) "__init__" = some (some (.ref fHI)))
    (iHI : PySem.W.isFn K (.ref fHI) = true)
    (lHI : K.lookup fHI = some ⟨ocHI, odHI, .func (PySem.W.fnOf "__init__" "House.__init__" (defArgs sHInit) (defBody sHInit) (defScope sHInit) .none kVHI dcHI pmHI anHI cdHI ctHI), slHI⟩)
    (cHI : PySem.W.codeIn K cdHI "House.__init__" = true)
    (kHI : PySem.W.keepIn K (.ref fHI) = true)
    (aHR : PySem.W.findIn K (.ref CH) "bring" = some (some (.ref fHR)))
    (iHR : PySem.W.isFn K (.ref fHR) = true)
    (lHR : K.lookup fHR = some ⟨ocHR, odHR, .func (PySem.W.fnOf "bring" "House.bring" (defArgs sHBring) (defBody sHBring) (defScope sHBring) .none kVHR dcHR pmHR anHR cdHR ctHR), slHR⟩)
    (cHR : PySem.W.codeIn K cdHR "House.bring" = true)
    (kHR : PySem.W.keepIn K (.ref fHR) = true)
    (aHQ : PySem.W.findIn K (.ref CH) "dip" = some (some (.ref fHQ)))
    (iHQ : PySem.W.isFn K (.ref fHQ) = true)
    (lHQ : K.lookup fHQ = some ⟨ocHQ, odHQ, .func (PySem.W.fnOf "dip" "House.dip" (defArgs sHDip) (defBody sHDip) (defScope sHDip) .none kVHQ dcHQ pmHQ anHQ cdHQ ctHQ), slHQ⟩)
    (cHQ : PySem.W.codeIn K cdHQ "House.dip" = true)
    (kHQ : PySem.W.keepIn K (.ref fHQ) = true)
    (aHB : PySem.W.findIn K (.ref CH) "book" = some (some (.ref fHB)))
    (iHB : PySem.W.isFn K (.ref fHB) = true)
    (lHB : K.lookup fHB = some ⟨ocHB, odHB, .func (PySem.W.fnOf "book" "House.book" (defArgs sHBook) (defBody sHBook) (defScope sHBook) .none kVHB dcHB pmHB anHB cdHB ctHB), slHB⟩)
    (cHB : PySem.W.codeIn K cdHB "House.book" = true)
    (kHB : PySem.W.keepIn K (.ref fHB) = true)
    (aHS : PySem.W.findIn K (.ref CH) "shade" = some (some (.ref fHS)))
    (iHS : PySem.W.isFn K (.ref fHS) = true)
    (lHS : K.lookup fHS = some ⟨ocHS, odHS, .func (PySem.W.fnOf "shade" "House.shade" (defArgs sHShade) (defBody sHShade) (defScope sHShade) .none kVHS dcHS pmHS anHS cdHS ctHS), slHS⟩)
    (cHS : PySem.W.codeIn K cdHS "House.shade" = true)
    (kHS : PySem.W.keepIn K (.ref fHS) = true)
    (aHT : PySem.W.findIn K (.ref CH) "trail" = some (some (.ref fHT)))
    (iHT : PySem.W.isFn K (.ref fHT) = true)
    (lHT : K.lookup fHT = some ⟨ocHT, odHT, .func (PySem.W.fnOf "trail" "House.trail" (defArgs sHTrail) (defBody sHTrail) (defScope sHTrail) .none kVHT dcHT pmHT anHT cdHT ctHT), slHT⟩)
    (cHT : PySem.W.codeIn K cdHT "House.trail" = true)
    (kHT : PySem.W.keepIn K (.ref fHT) = true)
    (aHN : PySem.W.findIn K (.ref CH) "newest_book" = some (some (.ref fHN)))
    (iHN : PySem.W.isFn K (.ref fHN) = true)
    (lHN : K.lookup fHN = some ⟨ocHN, odHN, .func (PySem.W.fnOf "newest_book" "House.newest_book" (defArgs sHNewest) (defBody sHNewest) (defScope sHNewest) .none kVHN dcHN pmHN anHN cdHN ctHN), slHN⟩)
    (cHN : PySem.W.codeIn K cdHN "House.newest_book" = true)
    (kHN : PySem.W.keepIn K (.ref fHN) = true)
    (aHC : PySem.W.findIn K (.ref CH) "check_cloth" = some (some (.ref fHC)))
    (iHC : PySem.W.isFn K (.ref fHC) = true)
    (lHC : K.lookup fHC = some ⟨ocHC, odHC, .func (PySem.W.fnOf "check_cloth" "House.check_cloth" (defArgs sHCCloth) (defBody sHCCloth) (defScope sHCCloth) .none kVHC dcHC pmHC anHC cdHC ctHC), slHC⟩)
    (cHC : PySem.W.codeIn K cdHC "House.check_cloth" = true)
    (kHC : PySem.W.keepIn K (.ref fHC) = true)
    (aHD : PySem.W.findIn K (.ref CH) "check_day_to_do" = some (some (.ref fHD)))
    (iHD : PySem.W.isFn K (.ref fHD) = true)
    (lHD : K.lookup fHD = some ⟨ocHD, odHD, .func (PySem.W.fnOf "check_day_to_do" "House.check_day_to_do" (defArgs sHCDay) (defBody sHCDay) (defScope sHCDay) .none kVHD dcHD pmHD anHD cdHD ctHD), slHD⟩)
    (cHD : PySem.W.codeIn K cdHD "House.check_day_to_do" = true)
    (kHD : PySem.W.keepIn K (.ref fHD) = true)
    (pgH : PySem.W.plainGet K CH Str.empty = true)
    (hdH : PySem.W.hasDictIn K CH = true)
    (poH : PySem.W.plainOver K CH = true)
    (saH : PySem.W.findIn K (.ref CH) "__setattr__" = some (some (.builtin "object.__setattr__")))
    (mkH : PySem.W.makesIn K CH = true)
    (kcH : PySem.W.keepIn K (.ref CH) = true)
    (naH_first_shades : PySem.W.findIn K (.ref CH) "first_shades" = some none)
    (naH_day_now : PySem.W.findIn K (.ref CH) "day_now" = some none)
    (naH_standing : PySem.W.findIn K (.ref CH) "standing" = some none)
    (naH_books_from : PySem.W.findIn K (.ref CH) "books_from" = some none)
    (aGd : PySem.W.nsIn K mainGlobals "good_name" = some (some (.ref fGd)))
    (lGd : K.lookup fGd = some ⟨ocGd, odGd, .func (PySem.W.fnOf "good_name" "good_name" (defArgs sGood) (defBody sGood) (defScope sGood) .none kVGd dcGd pmGd anGd cdGd ctGd), slGd⟩)
    (cGd : PySem.W.codeIn K cdGd "good_name" = true)
    (kGd : PySem.W.keepIn K (.ref fGd) = true)
    (aCn : PySem.W.nsIn K mainGlobals "check_names" = some (some (.ref fCn)))
    (lCn : K.lookup fCn = some ⟨ocCn, odCn, .func (PySem.W.fnOf "check_names" "check_names" (defArgs sCNames) (defBody sCNames) (defScope sCNames) .none kVCn dcCn pmCn anCn cdCn ctCn), slCn⟩)
    (cCn : PySem.W.codeIn K cdCn "check_names" = true)
    (kCn : PySem.W.keepIn K (.ref fCn) = true)
    (aCs : PySem.W.nsIn K mainGlobals "check_shades" = some (some (.ref fCs)))
    (lCs : K.lookup fCs = some ⟨ocCs, odCs, .func (PySem.W.fnOf "check_shades" "check_shades" (defArgs sCShades) (defBody sCShades) (defScope sCShades) .none kVCs dcCs pmCs anCs cdCs ctCs), slCs⟩)
    (cCs : PySem.W.codeIn K cdCs "check_shades" = true)
    (kCs : PySem.W.keepIn K (.ref fCs) = true)
    (aCo : PySem.W.nsIn K mainGlobals "check_outs" = some (some (.ref fCo)))
    (lCo : K.lookup fCo = some ⟨ocCo, odCo, .func (PySem.W.fnOf "check_outs" "check_outs" (defArgs sCOuts) (defBody sCOuts) (defScope sCOuts) .none kVCo dcCo pmCo anCo cdCo ctCo), slCo⟩)
    (cCo : PySem.W.codeIn K cdCo "check_outs" = true)
    (kCo : PySem.W.keepIn K (.ref fCo) = true)
    (aCb : PySem.W.nsIn K mainGlobals "check_baths" = some (some (.ref fCb)))
    (lCb : K.lookup fCb = some ⟨ocCb, odCb, .func (PySem.W.fnOf "check_baths" "check_baths" (defArgs sCBaths) (defBody sCBaths) (defScope sCBaths) .none kVCb dcCb pmCb anCb cdCb ctCb), slCb⟩)
    (cCb : PySem.W.codeIn K cdCb "check_baths" = true)
    (kCb : PySem.W.keepIn K (.ref fCb) = true)
    (aCD : PySem.W.nsIn K mainGlobals "check_day" = some (some (.ref fCD)))
    (lCD : K.lookup fCD = some ⟨ocCD, odCD, .func (PySem.W.fnOf "check_day" "check_day" (defArgs sCDay) (defBody sCDay) (defScope sCDay) .none kVCD dcCD pmCD anCD cdCD ctCD), slCD⟩)
    (cCD : PySem.W.codeIn K cdCD "check_day" = true)
    (kCD : PySem.W.keepIn K (.ref fCD) = true)
    (aA : PySem.W.nsIn K mainGlobals "_law_at" = some (some (.ref fA)))
    (lA : K.lookup fA = some ⟨ocA, odA, .func (PySem.W.fnOf "_law_at" "_law_at" (defArgs sAt) (defBody sAt) (defScope sAt) .none kVA dcA pmA anA cdA ctA), slA⟩)
    (cA : PySem.W.codeIn K cdA "_law_at" = true)
    (kA : PySem.W.keepIn K (.ref fA) = true)
    (aD : PySem.W.nsIn K mainGlobals "_law_draws" = some (some (.ref fD)))
    (lD : K.lookup fD = some ⟨ocD, odD, .func (PySem.W.fnOf "_law_draws" "_law_draws" (defArgs sDraws) (defBody sDraws) (defScope sDraws) .none kVD dcD pmD anD cdD ctD), slD⟩)
    (cD : PySem.W.codeIn K cdD "_law_draws" = true)
    (kD : PySem.W.keepIn K (.ref fD) = true)
    (aN : PySem.W.nsIn K mainGlobals "_law_name" = some (some (.ref fN)))
    (lN : K.lookup fN = some ⟨ocN, odN, .func (PySem.W.fnOf "_law_name" "_law_name" (defArgs sName) (defBody sName) (defScope sName) .none kVN dcN pmN anN cdN ctN), slN⟩)
    (cN : PySem.W.codeIn K cdN "_law_name" = true)
    (kN : PySem.W.keepIn K (.ref fN) = true)
    (aNs : PySem.W.nsIn K mainGlobals "_law_names" = some (some (.ref fNs)))
    (lNs : K.lookup fNs = some ⟨ocNs, odNs, .func (PySem.W.fnOf "_law_names" "_law_names" (defArgs sNames) (defBody sNames) (defScope sNames) .none kVNs dcNs pmNs anNs cdNs ctNs), slNs⟩)
    (cNs : PySem.W.codeIn K cdNs "_law_names" = true)
    (kNs : PySem.W.keepIn K (.ref fNs) = true)
    (aTu : PySem.W.nsIn K mainGlobals "_law_turned" = some (some (.ref fTu)))
    (lTu : K.lookup fTu = some ⟨ocTu, odTu, .func (PySem.W.fnOf "_law_turned" "_law_turned" (defArgs sTurned) (defBody sTurned) (defScope sTurned) .none kVTu dcTu pmTu anTu cdTu ctTu), slTu⟩)
    (cTu : PySem.W.codeIn K cdTu "_law_turned" = true)
    (kTu : PySem.W.keepIn K (.ref fTu) = true)
    (aOu : PySem.W.nsIn K mainGlobals "_law_outs" = some (some (.ref fOu)))
    (lOu : K.lookup fOu = some ⟨ocOu, odOu, .func (PySem.W.fnOf "_law_outs" "_law_outs" (defArgs sOuts) (defBody sOuts) (defScope sOuts) .none kVOu dcOu pmOu anOu cdOu ctOu), slOu⟩)
    (cOu : PySem.W.codeIn K cdOu "_law_outs" = true)
    (kOu : PySem.W.keepIn K (.ref fOu) = true)
    (aSh : PySem.W.nsIn K mainGlobals "_law_shape" = some (some (.ref fSh)))
    (lSh : K.lookup fSh = some ⟨ocSh, odSh, .func (PySem.W.fnOf "_law_shape" "_law_shape" (defArgs sShape) (defBody sShape) (defScope sShape) .none kVSh dcSh pmSh anSh cdSh ctSh), slSh⟩)
    (cSh : PySem.W.codeIn K cdSh "_law_shape" = true)
    (kSh : PySem.W.keepIn K (.ref fSh) = true)
    (aNd : PySem.W.nsIn K mainGlobals "_law_named" = some (some (.ref fNd)))
    (lNd : K.lookup fNd = some ⟨ocNd, odNd, .func (PySem.W.fnOf "_law_named" "_law_named" (defArgs sNamed) (defBody sNamed) (defScope sNamed) .none kVNd dcNd pmNd anNd cdNd ctNd), slNd⟩)
    (cNd : PySem.W.codeIn K cdNd "_law_named" = true)
    (kNd : PySem.W.keepIn K (.ref fNd) = true)
    (aSz : PySem.W.nsIn K mainGlobals "_law_sized" = some (some (.ref fSz)))
    (lSz : K.lookup fSz = some ⟨ocSz, odSz, .func (PySem.W.fnOf "_law_sized" "_law_sized" (defArgs sSized) (defBody sSized) (defScope sSized) .none kVSz dcSz pmSz anSz cdSz ctSz), slSz⟩)
    (cSz : PySem.W.codeIn K cdSz "_law_sized" = true)
    (kSz : PySem.W.keepIn K (.ref fSz) = true)
    (aDn : PySem.W.nsIn K mainGlobals "_law_drawn" = some (some (.ref fDn)))
    (lDn : K.lookup fDn = some ⟨ocDn, odDn, .func (PySem.W.fnOf "_law_drawn" "_law_drawn" (defArgs sDrawn) (defBody sDrawn) (defScope sDrawn) .none kVDn dcDn pmDn anDn cdDn ctDn), slDn⟩)
    (cDn : PySem.W.codeIn K cdDn "_law_drawn" = true)
    (kDn : PySem.W.keepIn K (.ref fDn) = true)
    (aTa : PySem.W.nsIn K mainGlobals "_law_tables" = some (some (.ref fTa)))
    (lTa : K.lookup fTa = some ⟨ocTa, odTa, .func (PySem.W.fnOf "_law_tables" "_law_tables" (defArgs sTables) (defBody sTables) (defScope sTables) .none kVTa dcTa pmTa anTa cdTa ctTa), slTa⟩)
    (cTa : PySem.W.codeIn K cdTa "_law_tables" = true)
    (kTa : PySem.W.keepIn K (.ref fTa) = true)
    (aHd : PySem.W.nsIn K mainGlobals "_law_handed" = some (some (.ref fHd)))
    (lHd : K.lookup fHd = some ⟨ocHd, odHd, .func (PySem.W.fnOf "_law_handed" "_law_handed" (defArgs sHanded) (defBody sHanded) (defScope sHanded) .none kVHd dcHd pmHd anHd cdHd ctHd), slHd⟩)
    (cHd : PySem.W.codeIn K cdHd "_law_handed" = true)
    (kHd : PySem.W.keepIn K (.ref fHd) = true)
    (aTI : PySem.W.nsIn K mainGlobals "_law_text_is" = some (some (.ref fTI)))
    (lTI : K.lookup fTI = some ⟨ocTI, odTI, .func (PySem.W.fnOf "_law_text_is" "_law_text_is" (defArgs sTextIs) (defBody sTextIs) (defScope sTextIs) .none kVTI dcTI pmTI anTI cdTI ctTI), slTI⟩)
    (cTI : PySem.W.codeIn K cdTI "_law_text_is" = true)
    (kTI : PySem.W.keepIn K (.ref fTI) = true)
    (aRw : PySem.W.nsIn K mainGlobals "_law_row" = some (some (.ref fRw)))
    (lRw : K.lookup fRw = some ⟨ocRw, odRw, .func (PySem.W.fnOf "_law_row" "_law_row" (defArgs sRow) (defBody sRow) (defScope sRow) .none kVRw dcRw pmRw anRw cdRw ctRw), slRw⟩)
    (cRw : PySem.W.codeIn K cdRw "_law_row" = true)
    (kRw : PySem.W.keepIn K (.ref fRw) = true)
    (aAE : PySem.W.nsIn K mainGlobals "_law_at_end" = some (some (.ref fAE)))
    (lAE : K.lookup fAE = some ⟨ocAE, odAE, .func (PySem.W.fnOf "_law_at_end" "_law_at_end" (defArgs sAtEnd) (defBody sAtEnd) (defScope sAtEnd) .none kVAE dcAE pmAE anAE cdAE ctAE), slAE⟩)
    (cAE : PySem.W.codeIn K cdAE "_law_at_end" = true)
    (kAE : PySem.W.keepIn K (.ref fAE) = true)
    (aWR : PySem.W.nsIn K mainGlobals "write_row" = some (some (.ref fWR)))
    (lWR : K.lookup fWR = some ⟨ocWR, odWR, .func (PySem.W.fnOf "write_row" "write_row" (defArgs sWRow) (defBody sWRow) (defScope sWRow) .none kVWR dcWR pmWR anWR cdWR ctWR), slWR⟩)
    (cWR : PySem.W.codeIn K cdWR "write_row" = true)
    (kWR : PySem.W.keepIn K (.ref fWR) = true)
    (aWB : PySem.W.nsIn K mainGlobals "write_book" = some (some (.ref fWB)))
    (lWB : K.lookup fWB = some ⟨ocWB, odWB, .func (PySem.W.fnOf "write_book" "write_book" (defArgs sWBook) (defBody sWBook) (defScope sWBook) .none kVWB dcWB pmWB anWB cdWB ctWB), slWB⟩)
    (cWB : PySem.W.codeIn K cdWB "write_book" = true)
    (kWB : PySem.W.keepIn K (.ref fWB) = true)
    (aBO : PySem.W.nsIn K mainGlobals "bath_of" = some (some (.ref fBO)))
    (lBO : K.lookup fBO = some ⟨ocBO, odBO, .func (PySem.W.fnOf "bath_of" "bath_of" (defArgs sBathOf) (defBody sBathOf) (defScope sBathOf) .none kVBO dcBO pmBO anBO cdBO ctBO), slBO⟩)
    (cBO : PySem.W.codeIn K cdBO "bath_of" = true)
    (kBO : PySem.W.keepIn K (.ref fBO) = true)
    (aLO : PySem.W.nsIn K mainGlobals "loosely_read" = some (some (.ref fLO)))
    (lLO : K.lookup fLO = some ⟨ocLO, odLO, .func (PySem.W.fnOf "loosely_read" "loosely_read" (defArgs sLoose) (defBody sLoose) (defScope sLoose) .none kVLO dcLO pmLO anLO cdLO ctLO), slLO⟩)
    (cLO : PySem.W.codeIn K cdLO "loosely_read" = true)
    (kLO : PySem.W.keepIn K (.ref fLO) = true)
    (aRB : PySem.W.nsIn K mainGlobals "read_book" = some (some (.ref fRB)))
    (lRB : K.lookup fRB = some ⟨ocRB, odRB, .func (PySem.W.fnOf "read_book" "read_book" (defArgs sRead) (defBody sRead) (defScope sRead) .none kVRB dcRB pmRB anRB cdRB ctRB), slRB⟩)
    (cRB : PySem.W.codeIn K cdRB "read_book" = true)
    (kRB : PySem.W.keepIn K (.ref fRB) = true)
    (aTx : PySem.W.nsIn K mainGlobals "_law_text" = some (some (.ref fTx)))
    (lTx : K.lookup fTx = some ⟨ocTx, odTx, .func (PySem.W.fnOf "_law_text" "_law_text" (defArgs sText) (defBody sText) (defScope sText) .none kVTx dcTx pmTx anTx cdTx ctTx), slTx⟩)
    (cTx : PySem.W.codeIn K cdTx "_law_text" = true)
    (kTx : PySem.W.keepIn K (.ref fTx) = true)
    (aWa : PySem.W.nsIn K mainGlobals "walk" = some (some (.ref fWa)))
    (lWa : K.lookup fWa = some ⟨ocWa, odWa, .func (PySem.W.fnOf "walk" "walk" (defArgs sWalk) (defBody sWalk) (defScope sWalk) .none kVWa dcWa pmWa anWa cdWa ctWa), slWa⟩)
    (cWa : PySem.W.codeIn K cdWa "walk" = true)
    (kWa : PySem.W.keepIn K (.ref fWa) = true)
    (aAP : PySem.W.nsIn K mainGlobals "all_pairs" = some (some (.ref fAP)))
    (lAP : K.lookup fAP = some ⟨ocAP, odAP, .func (PySem.W.fnOf "all_pairs" "all_pairs" (defArgs sAllPairs) (defBody sAllPairs) (defScope sAllPairs) .none kVAP dcAP pmAP anAP cdAP ctAP), slAP⟩)
    (cAP : PySem.W.codeIn K cdAP "all_pairs" = true)
    (kAP : PySem.W.keepIn K (.ref fAP) = true)
    (aJR : PySem.W.nsIn K mainGlobals "joining_row" = some (some (.ref fJR)))
    (lJR : K.lookup fJR = some ⟨ocJR, odJR, .func (PySem.W.fnOf "joining_row" "joining_row" (defArgs sJRow) (defBody sJRow) (defScope sJRow) .none kVJR dcJR pmJR anJR cdJR ctJR), slJR⟩)
    (cJR : PySem.W.codeIn K cdJR "joining_row" = true)
    (kJR : PySem.W.keepIn K (.ref fJR) = true)
    (aJS : PySem.W.nsIn K mainGlobals "joining_rows" = some (some (.ref fJS)))
    (lJS : K.lookup fJS = some ⟨ocJS, odJS, .func (PySem.W.fnOf "joining_rows" "joining_rows" (defArgs sJRows) (defBody sJRows) (defScope sJRows) .none kVJS dcJS pmJS anJS cdJS ctJS), slJS⟩)
    (cJS : PySem.W.codeIn K cdJS "joining_rows" = true)
    (kJS : PySem.W.keepIn K (.ref fJS) = true)
    (aJD : PySem.W.nsIn K mainGlobals "joined" = some (some (.ref fJD)))
    (lJD : K.lookup fJD = some ⟨ocJD, odJD, .func (PySem.W.fnOf "joined" "joined" (defArgs sJoined) (defBody sJoined) (defScope sJoined) .none kVJD dcJD pmJD anJD cdJD ctJD), slJD⟩)
    (cJD : PySem.W.codeIn K cdJD "joined" = true)
    (kJD : PySem.W.keepIn K (.ref fJD) = true)
    (aA1 : PySem.W.nsIn K mainGlobals "all_to_one" = some (some (.ref fA1)))
    (lA1 : K.lookup fA1 = some ⟨ocA1, odA1, .func (PySem.W.fnOf "all_to_one" "all_to_one" (defArgs sAllToOne) (defBody sAllToOne) (defScope sAllToOne) .none kVA1 dcA1 pmA1 anA1 cdA1 ctA1), slA1⟩)
    (cA1 : PySem.W.codeIn K cdA1 "all_to_one" = true)
    (kA1 : PySem.W.keepIn K (.ref fA1) = true)
    (aPr : PySem.W.nsIn K mainGlobals "_law_pair" = some (some (.ref fPr)))
    (lPr : K.lookup fPr = some ⟨ocPr, odPr, .func (PySem.W.fnOf "_law_pair" "_law_pair" (defArgs sPair) (defBody sPair) (defScope sPair) .none kVPr dcPr pmPr anPr cdPr ctPr), slPr⟩)
    (cPr : PySem.W.codeIn K cdPr "_law_pair" = true)
    (kPr : PySem.W.keepIn K (.ref fPr) = true)
    (aLo : PySem.W.nsIn K mainGlobals "_law_list_of_names" = some (some (.ref fLo)))
    (lLo : K.lookup fLo = some ⟨ocLo, odLo, .func (PySem.W.fnOf "_law_list_of_names" "_law_list_of_names" (defArgs sListOf) (defBody sListOf) (defScope sListOf) .none kVLo dcLo pmLo anLo cdLo ctLo), slLo⟩)
    (cLo : PySem.W.codeIn K cdLo "_law_list_of_names" = true)
    (kLo : PySem.W.keepIn K (.ref fLo) = true)
    (aT1 : PySem.W.nsIn K mainGlobals "_law_to_one" = some (some (.ref fT1)))
    (lT1 : K.lookup fT1 = some ⟨ocT1, odT1, .func (PySem.W.fnOf "_law_to_one" "_law_to_one" (defArgs sToOne) (defBody sToOne) (defScope sToOne) .none kVT1 dcT1 pmT1 anT1 cdT1 ctT1), slT1⟩)
    (cT1 : PySem.W.codeIn K cdT1 "_law_to_one" = true)
    (kT1 : PySem.W.keepIn K (.ref fT1) = true)
    (aSk : PySem.W.nsIn K mainGlobals "_law_stuck" = some (some (.ref fSk)))
    (lSk : K.lookup fSk = some ⟨ocSk, odSk, .func (PySem.W.fnOf "_law_stuck" "_law_stuck" (defArgs sStuck) (defBody sStuck) (defScope sStuck) .none kVSk dcSk pmSk anSk cdSk ctSk), slSk⟩)
    (cSk : PySem.W.codeIn K cdSk "_law_stuck" = true)
    (kSk : PySem.W.keepIn K (.ref fSk) = true)
    (aLD : PySem.W.nsIn K mainGlobals "_law_all_dipped" = some (some (.ref fLD)))
    (lLD : K.lookup fLD = some ⟨ocLD, odLD, .func (PySem.W.fnOf "_law_all_dipped" "_law_all_dipped" (defArgs sAllDip) (defBody sAllDip) (defScope sAllDip) .none kVLD dcLD pmLD anLD cdLD ctLD), slLD⟩)
    (cLD : PySem.W.codeIn K cdLD "_law_all_dipped" = true)
    (kLD : PySem.W.keepIn K (.ref fLD) = true)
    (aLP : PySem.W.nsIn K mainGlobals "_law_stay_apart" = some (some (.ref fLP)))
    (lLP : K.lookup fLP = some ⟨ocLP, odLP, .func (PySem.W.fnOf "_law_stay_apart" "_law_stay_apart" (defArgs sApart) (defBody sApart) (defScope sApart) .none kVLP dcLP pmLP anLP cdLP ctLP), slLP⟩)
    (cLP : PySem.W.codeIn K cdLP "_law_stay_apart" = true)
    (kLP : PySem.W.keepIn K (.ref fLP) = true)
    (aL : PySem.W.nsIn K mainGlobals "law" = some (some (.ref fL)))
    (lL : K.lookup fL = some ⟨ocL, odL, .func (PySem.W.fnOf "law" "law" (defArgs sLaw) (defBody sLaw) (defScope sLaw) .none kVL dcL pmL anL cdL ctL), slL⟩)
    (cL : PySem.W.codeIn K cdL "law" = true)
    (kL : PySem.W.keepIn K (.ref fL) = true)
    (aNoDay : PySem.W.nsIn K mainGlobals "NoDay" = some (some (.ref xNoDay)))
    (exND : PySem.W.excIn K xNoDay [.type "ValueError", .type "Exception", .type "BaseException", .type "object"] "ValueError.__new__" = true)
    (elND : PySem.W.clsIn K xNoDay = some cdNoDay)
    (egND : PySem.W.findIn K (.ref xNoDay) "__getattribute__" = some (some (.builtin "BaseException.__getattribute__")))
    (etND : PySem.W.findIn K (.ref xNoDay) "__getattr__" = some none)
    (eaND : PySem.W.findIn K (.ref xNoDay) "__class__" = some (some (.builtin "object.__class__")))
    (emND : PySem.W.mroIn K xNoDay (.type "object") = some true)
    (ebND : PySem.W.mroIn K xNoDay (.type "BaseException") = some true)
    (aLate : PySem.W.nsIn K mainGlobals "Late" = some (some (.ref xLate)))
    (exLa : PySem.W.excIn K xLate [.type "ValueError", .type "Exception", .type "BaseException", .type "object"] "ValueError.__new__" = true)
    (elLa : PySem.W.clsIn K xLate = some cdLate)
    (egLa : PySem.W.findIn K (.ref xLate) "__getattribute__" = some (some (.builtin "BaseException.__getattribute__")))
    (etLa : PySem.W.findIn K (.ref xLate) "__getattr__" = some none)
    (eaLa : PySem.W.findIn K (.ref xLate) "__class__" = some (some (.builtin "object.__class__")))
    (emLa : PySem.W.mroIn K xLate (.type "object") = some true)
    (ebLa : PySem.W.mroIn K xLate (.type "BaseException") = some true)
    (aNoCloth : PySem.W.nsIn K mainGlobals "NoCloth" = some (some (.ref xNoCloth)))
    (exNC : PySem.W.excIn K xNoCloth [.type "ValueError", .type "Exception", .type "BaseException", .type "object"] "ValueError.__new__" = true)
    (elNC : PySem.W.clsIn K xNoCloth = some cdNoCloth)
    (egNC : PySem.W.findIn K (.ref xNoCloth) "__getattribute__" = some (some (.builtin "BaseException.__getattribute__")))
    (etNC : PySem.W.findIn K (.ref xNoCloth) "__getattr__" = some none)
    (eaNC : PySem.W.findIn K (.ref xNoCloth) "__class__" = some (some (.builtin "object.__class__")))
    (emNC : PySem.W.mroIn K xNoCloth (.type "object") = some true)
    (ebNC : PySem.W.mroIn K xNoCloth (.type "BaseException") = some true)
    (aKnown : PySem.W.nsIn K mainGlobals "Known" = some (some (.ref xKnown)))
    (exKn : PySem.W.excIn K xKnown [.type "ValueError", .type "Exception", .type "BaseException", .type "object"] "ValueError.__new__" = true)
    (elKn : PySem.W.clsIn K xKnown = some cdKnown)
    (egKn : PySem.W.findIn K (.ref xKnown) "__getattribute__" = some (some (.builtin "BaseException.__getattribute__")))
    (etKn : PySem.W.findIn K (.ref xKnown) "__getattr__" = some none)
    (eaKn : PySem.W.findIn K (.ref xKnown) "__class__" = some (some (.builtin "object.__class__")))
    (emKn : PySem.W.mroIn K xKnown (.type "object") = some true)
    (ebKn : PySem.W.mroIn K xKnown (.type "BaseException") = some true)
    (aBadName : PySem.W.nsIn K mainGlobals "BadName" = some (some (.ref xBadName)))
    (exBN : PySem.W.excIn K xBadName [.type "ValueError", .type "Exception", .type "BaseException", .type "object"] "ValueError.__new__" = true)
    (elBN : PySem.W.clsIn K xBadName = some cdBadName)
    (egBN : PySem.W.findIn K (.ref xBadName) "__getattribute__" = some (some (.builtin "BaseException.__getattribute__")))
    (etBN : PySem.W.findIn K (.ref xBadName) "__getattr__" = some none)
    (eaBN : PySem.W.findIn K (.ref xBadName) "__class__" = some (some (.builtin "object.__class__")))
    (emBN : PySem.W.mroIn K xBadName (.type "object") = some true)
    (ebBN : PySem.W.mroIn K xBadName (.type "BaseException") = some true)
    (aFull : PySem.W.nsIn K mainGlobals "Full" = some (some (.ref xFull)))
    (exFu : PySem.W.excIn K xFull [.type "ValueError", .type "Exception", .type "BaseException", .type "object"] "ValueError.__new__" = true)
    (elFu : PySem.W.clsIn K xFull = some cdFull)
    (egFu : PySem.W.findIn K (.ref xFull) "__getattribute__" = some (some (.builtin "BaseException.__getattribute__")))
    (etFu : PySem.W.findIn K (.ref xFull) "__getattr__" = some none)
    (eaFu : PySem.W.findIn K (.ref xFull) "__class__" = some (some (.builtin "object.__class__")))
    (emFu : PySem.W.mroIn K xFull (.type "object") = some true)
    (ebFu : PySem.W.mroIn K xFull (.type "BaseException") = some true)
    (aNoBath : PySem.W.nsIn K mainGlobals "NoBath" = some (some (.ref xNoBath)))
    (exNB : PySem.W.excIn K xNoBath [.type "ValueError", .type "Exception", .type "BaseException", .type "object"] "ValueError.__new__" = true)
    (elNB : PySem.W.clsIn K xNoBath = some cdNoBath)
    (egNB : PySem.W.findIn K (.ref xNoBath) "__getattribute__" = some (some (.builtin "BaseException.__getattribute__")))
    (etNB : PySem.W.findIn K (.ref xNoBath) "__getattr__" = some none)
    (eaNB : PySem.W.findIn K (.ref xNoBath) "__class__" = some (some (.builtin "object.__class__")))
    (emNB : PySem.W.mroIn K xNoBath (.type "object") = some true)
    (ebNB : PySem.W.mroIn K xNoBath (.type "BaseException") = some true)
    (aNoShade : PySem.W.nsIn K mainGlobals "NoShade" = some (some (.ref xNoShade)))
    (exNS : PySem.W.excIn K xNoShade [.type "ValueError", .type "Exception", .type "BaseException", .type "object"] "ValueError.__new__" = true)
    (elNS : PySem.W.clsIn K xNoShade = some cdNoShade)
    (egNS : PySem.W.findIn K (.ref xNoShade) "__getattribute__" = some (some (.builtin "BaseException.__getattribute__")))
    (etNS : PySem.W.findIn K (.ref xNoShade) "__getattr__" = some none)
    (eaNS : PySem.W.findIn K (.ref xNoShade) "__class__" = some (some (.builtin "object.__class__")))
    (emNS : PySem.W.mroIn K xNoShade (.type "object") = some true)
    (ebNS : PySem.W.mroIn K xNoShade (.type "BaseException") = some true)
    (eN1 : PySem.W.specialIn K (.builtin "object.__class__") "__get__" = some (some (.builtin "getset_descriptor.__get__")))
    (eT1 : PySem.W.takesIn K (.builtin "object.__class__") = some true)
    (zlen : PySem.W.nsIn K mainGlobals "len" = some none)
    (zall : PySem.W.nsIn K mainGlobals "all" = some none)
    (zrange : PySem.W.nsIn K mainGlobals "range" = some none)
    (zisinstance : PySem.W.nsIn K mainGlobals "isinstance" = some none)
    (zlist : PySem.W.nsIn K mainGlobals "list" = some none)
    (zstr : PySem.W.nsIn K mainGlobals "str" = some none)
    (zsorted : PySem.W.nsIn K mainGlobals "sorted" = some none)
    (ztuple : PySem.W.nsIn K mainGlobals "tuple" = some none)
    (zdict : PySem.W.nsIn K mainGlobals "dict" = some none)
    (zzip : PySem.W.nsIn K mainGlobals "zip" = some none)
    (zset : PySem.W.nsIn K mainGlobals "set" = some none)
    (zmin : PySem.W.nsIn K mainGlobals "min" = some none)
    (zint : PySem.W.nsIn K mainGlobals "int" = some none)
    (zmax : PySem.W.nsIn K mainGlobals "max" = some none)
    (zbool : PySem.W.nsIn K mainGlobals "bool" = some none)
    (zenumerate : PySem.W.nsIn K mainGlobals "enumerate" = some none)
    (vlett : PySem.W.nsIn K mainGlobals "LETTERS" = some (some (.str letters tlett)))
    (vlong : PySem.W.nsIn K mainGlobals "LONGEST" = some (some (.int 8 tlong)))
    (vmostS : PySem.W.nsIn K mainGlobals "MOST_SHADES" = some (some (.int 12 tmostS)))
    (vmostB : PySem.W.nsIn K mainGlobals "MOST_BATHS" = some (some (.int 8 tmostB)))
    (vfday : PySem.W.nsIn K mainGlobals "FIRST_DAY" = some (some (.int 1 tfday)))
    (vlday : PySem.W.nsIn K mainGlobals "LAST_DAY" = some (some (.int 400 tlday)))
    (vmostC : PySem.W.nsIn K mainGlobals "MOST_CLOTHS" = some (some (.int 50 tmostC)))
    (vmostD : PySem.W.nsIn K mainGlobals "MOST_DIPS" = some (some (.int 1000 tmostD))) :
    ∃ fd : FuncData, (∀ (s : Shared) (v : Value), BindsTo s fd ⟨[v], []⟩ [("_law_script", v)]) ∧ ∀ base : Heap, K.In base → base.Ns mainGlobals mg → FnOk l.prog w K mg base CX0 8 fa fd ["_law_script"] (spLaw K) := by
  have e := hfa.symm.trans (PySem.W.mg_of X G aL)
  cases e
  have FI := fun_mk (st := sInit) lI cI kI
  have bI := FI.binds (ps := ["self", "shades", "baths"]) fun _ _ _ _ _ _ us hl => match us, hl with | [_, _, _], _ => rfl
  have FMS := fun_mk (st := sBShades) lMS cMS kMS
  have bMS := FMS.binds (ps := ["self"]) fun _ _ _ _ _ _ us hl => match us, hl with | [_], _ => rfl
  have FMB := fun_mk (st := sBBaths) lMB cMB kMB
  have bMB := FMB.binds (ps := ["self"]) fun _ _ _ _ _ _ us hl => match us, hl with | [_], _ => rfl
  have FMT := fun_mk (st := sBTable) lMT cMT kMT
  have bMT := FMT.binds (ps := ["self", "bath"]) fun _ _ _ _ _ _ us hl => match us, hl with | [_, _], _ => rfl
  have FMC := fun_mk (st := sBCheck) lMC cMC kMC
  have bMC := FMC.binds (ps := ["self", "bath"]) fun _ _ _ _ _ _ us hl => match us, hl with | [_, _], _ => rfl
  have FMH := fun_mk (st := sBCShade) lMH cMH kMH
  have bMH := FMH.binds (ps := ["self", "shade"]) fun _ _ _ _ _ _ us hl => match us, hl with | [_, _], _ => rfl
  have FMO := fun_mk (st := sBOut) lMO cMO kMO
  have bMO := FMO.binds (ps := ["self", "bath", "shade"]) fun _ _ _ _ _ _ us hl => match us, hl with | [_, _, _], _ => rfl
  have mCB := PySem.W.mg_of X G aCB
  have FHI := fun_mk (st := sHInit) lHI cHI kHI
  have bHI := FHI.binds (ps := ["self", "book"]) fun _ _ _ _ _ _ us hl => match us, hl with | [_, _], _ => rfl
  have FHR := fun_mk (st := sHBring) lHR cHR kHR
  have bHR := FHR.binds (ps := ["self", "cloth", "shade"]) fun _ _ _ _ _ _ us hl => match us, hl with | [_, _, _], _ => rfl
  have FHQ := fun_mk (st := sHDip) lHQ cHQ kHQ
  have bHQ := FHQ.binds (ps := ["self", "cloth", "bath", "day"]) fun _ _ _ _ _ _ us hl => match us, hl with | [_, _, _, _], _ => rfl
  have FHB := fun_mk (st := sHBook) lHB cHB kHB
  have bHB := FHB.binds (ps := ["self", "day"]) fun _ _ _ _ _ _ us hl => match us, hl with | [_, _], _ => rfl
  have FHS := fun_mk (st := sHShade) lHS cHS kHS
  have bHS := FHS.binds (ps := ["self", "cloth", "day"]) fun _ _ _ _ _ _ us hl => match us, hl with | [_, _, _], _ => rfl
  have FHT := fun_mk (st := sHTrail) lHT cHT kHT
  have bHT := FHT.binds (ps := ["self", "cloth", "day"]) fun _ _ _ _ _ _ us hl => match us, hl with | [_, _, _], _ => rfl
  have FHN := fun_mk (st := sHNewest) lHN cHN kHN
  have bHN := FHN.binds (ps := ["self"]) fun _ _ _ _ _ _ us hl => match us, hl with | [_], _ => rfl
  have FHC := fun_mk (st := sHCCloth) lHC cHC kHC
  have bHC := FHC.binds (ps := ["self", "cloth"]) fun _ _ _ _ _ _ us hl => match us, hl with | [_, _], _ => rfl
  have FHD := fun_mk (st := sHCDay) lHD cHD kHD
  have bHD := FHD.binds (ps := ["self", "day"]) fun _ _ _ _ _ _ us hl => match us, hl with | [_, _], _ => rfl
  have mCH := PySem.W.mg_of X G aCH
  have FGd := fun_mk (st := sGood) lGd cGd kGd
  have bGd := FGd.binds (ps := ["text"]) fun _ _ _ _ _ _ us hl => match us, hl with | [_], _ => rfl
  have mGd := PySem.W.mg_of X G aGd
  have FCn := fun_mk (st := sCNames) lCn cCn kCn
  have bCn := FCn.binds (ps := ["texts"]) fun _ _ _ _ _ _ us hl => match us, hl with | [_], _ => rfl
  have mCn := PySem.W.mg_of X G aCn
  have FCs := fun_mk (st := sCShades) lCs cCs kCs
  have bCs := FCs.binds (ps := ["shades"]) fun _ _ _ _ _ _ us hl => match us, hl with | [_], _ => rfl
  have mCs := PySem.W.mg_of X G aCs
  have FCo := fun_mk (st := sCOuts) lCo cCo kCo
  have bCo := FCo.binds (ps := ["shades", "outs"]) fun _ _ _ _ _ _ us hl => match us, hl with | [_, _], _ => rfl
  have mCo := PySem.W.mg_of X G aCo
  have FCb := fun_mk (st := sCBaths) lCb cCb kCb
  have bCb := FCb.binds (ps := ["shades", "baths"]) fun _ _ _ _ _ _ us hl => match us, hl with | [_, _], _ => rfl
  have mCb := PySem.W.mg_of X G aCb
  have FCD := fun_mk (st := sCDay) lCD cCD kCD
  have bCD := FCD.binds (ps := ["day"]) fun _ _ _ _ _ _ us hl => match us, hl with | [_], _ => rfl
  have mCD := PySem.W.mg_of X G aCD
  have FA := fun_mk (st := sAt) lA cA kA
  have bA := FA.binds (ps := ["_law_script", "_law_k"]) fun _ _ _ _ _ _ us hl => match us, hl with | [_, _], _ => rfl
  have mA := PySem.W.mg_of X G aA
  have FD := fun_mk (st := sDraws) lD cD kD
  have bD := FD.binds (ps := ["_law_cell", "_law_many", "_law_bound", "_law_mixed"]) fun _ _ _ _ _ _ us hl => match us, hl with | [_, _, _, _], _ => rfl
  have mD := PySem.W.mg_of X G aD
  have FN := fun_mk (st := sName) lN cN kN
  have bN := FN.binds (ps := ["_law_seed", "_law_style"]) fun _ _ _ _ _ _ us hl => match us, hl with | [_, _], _ => rfl
  have mN := PySem.W.mg_of X G aN
  have FNs := fun_mk (st := sNames) lNs cNs kNs
  have bNs := FNs.binds (ps := ["_law_cell", "_law_many", "_law_style", "_law_mixed"]) fun _ _ _ _ _ _ us hl => match us, hl with | [_, _, _, _], _ => rfl
  have mNs := PySem.W.mg_of X G aNs
  have FTu := fun_mk (st := sTurned) lTu cTu kTu
  have bTu := FTu.binds (ps := ["_law_many", "_law_shape_here", "_law_drawn_here"]) fun _ _ _ _ _ _ us hl => match us, hl with | [_, _, _], _ => rfl
  have mTu := PySem.W.mg_of X G aTu
  have FOu := fun_mk (st := sOuts) lOu cOu kOu
  have bOu := FOu.binds (ps := ["_law_cell", "_law_many", "_law_shape_here", "_law_mixed"]) fun _ _ _ _ _ _ us hl => match us, hl with | [_, _, _, _], _ => rfl
  have mOu := PySem.W.mg_of X G aOu
  have FSh := fun_mk (st := sShape) lSh cSh kSh
  have bSh := FSh.binds (ps := ["_law_pick", "_law_k"]) fun _ _ _ _ _ _ us hl => match us, hl with | [_, _], _ => rfl
  have mSh := PySem.W.mg_of X G aSh
  have FNd := fun_mk (st := sNamed) lNd cNd kNd
  have bNd := FNd.binds (ps := ["_law_script", "_law_many", "_law_count"]) fun _ _ _ _ _ _ us hl => match us, hl with | [_, _, _], _ => rfl
  have mNd := PySem.W.mg_of X G aNd
  have FSz := fun_mk (st := sSized) lSz cSz kSz
  have bSz := FSz.binds (ps := ["_law_script", "_law_many", "_law_count"]) fun _ _ _ _ _ _ us hl => match us, hl with | [_, _, _], _ => rfl
  have mSz := PySem.W.mg_of X G aSz
  have FDn := fun_mk (st := sDrawn) lDn cDn kDn
  have bDn := FDn.binds (ps := ["_law_script"]) fun _ _ _ _ _ _ us hl => match us, hl with | [_], _ => rfl
  have mDn := PySem.W.mg_of X G aDn
  have FTa := fun_mk (st := sTables) lTa cTa kTa
  have bTa := FTa.binds (ps := ["_law_shades", "_law_baths"]) fun _ _ _ _ _ _ us hl => match us, hl with | [_, _], _ => rfl
  have mTa := PySem.W.mg_of X G aTa
  have FHd := fun_mk (st := sHanded) lHd cHd kHd
  have bHd := FHd.binds (ps := ["_law_shades", "_law_baths"]) fun _ _ _ _ _ _ us hl => match us, hl with | [_, _], _ => rfl
  have mHd := PySem.W.mg_of X G aHd
  have FTI := fun_mk (st := sTextIs) lTI cTI kTI
  have bTI := FTI.binds (ps := ["_law_found", "_law_due"]) fun _ _ _ _ _ _ us hl => match us, hl with | [_, _], _ => rfl
  have mTI := PySem.W.mg_of X G aTI
  have FRw := fun_mk (st := sRow) lRw cRw kRw
  have bRw := FRw.binds (ps := ["_law_cell", "_law_size", "_law_titles", "_law_mixed"]) fun _ _ _ _ _ _ us hl => match us, hl with | [_, _, _, _], _ => rfl
  have mRw := PySem.W.mg_of X G aRw
  have FAE := fun_mk (st := sAtEnd) lAE cAE kAE
  have bAE := FAE.binds (ps := ["_law_tables_here", "_law_row_here", "_law_shade"]) fun _ _ _ _ _ _ us hl => match us, hl with | [_, _, _], _ => rfl
  have mAE := PySem.W.mg_of X G aAE
  have FWR := fun_mk (st := sWRow) lWR cWR kWR
  have bWR := FWR.binds (ps := ["words"]) fun _ _ _ _ _ _ us hl => match us, hl with | [_], _ => rfl
  have mWR := PySem.W.mg_of X G aWR
  have FWB := fun_mk (st := sWBook) lWB cWB kWB
  have bWB := FWB.binds (ps := ["book"]) fun _ _ _ _ _ _ us hl => match us, hl with | [_], _ => rfl
  have mWB := PySem.W.mg_of X G aWB
  have FBO := fun_mk (st := sBathOf) lBO cBO kBO
  have bBO := FBO.binds (ps := ["words"]) fun _ _ _ _ _ _ us hl => match us, hl with | [_], _ => rfl
  have mBO := PySem.W.mg_of X G aBO
  have FLO := fun_mk (st := sLoose) lLO cLO kLO
  have bLO := FLO.binds (ps := ["text"]) fun _ _ _ _ _ _ us hl => match us, hl with | [_], _ => rfl
  have mLO := PySem.W.mg_of X G aLO
  have FRB := fun_mk (st := sRead) lRB cRB kRB
  have bRB := FRB.binds (ps := ["text"]) fun _ _ _ _ _ _ us hl => match us, hl with | [_], _ => rfl
  have mRB := PySem.W.mg_of X G aRB
  have FTx := fun_mk (st := sText) lTx cTx kTx
  have bTx := FTx.binds (ps := ["_law_order", "_law_tables_here"]) fun _ _ _ _ _ _ us hl => match us, hl with | [_, _], _ => rfl
  have mTx := PySem.W.mg_of X G aTx
  have FWa := fun_mk (st := sWalk) lWa cWa kWa
  have bWa := FWa.binds (ps := ["book", "row", "shade"]) fun _ _ _ _ _ _ us hl => match us, hl with | [_, _, _], _ => rfl
  have mWa := PySem.W.mg_of X G aWa
  have FAP := fun_mk (st := sAllPairs) lAP cAP kAP
  have bAP := FAP.binds (ps := ["shades"]) fun _ _ _ _ _ _ us hl => match us, hl with | [_], _ => rfl
  have mAP := PySem.W.mg_of X G aAP
  have FJR := fun_mk (st := sJRow) lJR cJR kJR
  have bJR := FJR.binds (ps := ["book", "pair", "rows"]) fun _ _ _ _ _ _ us hl => match us, hl with | [_, _, _], _ => rfl
  have mJR := PySem.W.mg_of X G aJR
  have FJS := fun_mk (st := sJRows) lJS cJS kJS
  have bJS := FJS.binds (ps := ["book", "pairs"]) fun _ _ _ _ _ _ us hl => match us, hl with | [_, _], _ => rfl
  have mJS := PySem.W.mg_of X G aJS
  have FJD := fun_mk (st := sJoined) lJD cJD kJD
  have bJD := FJD.binds (ps := ["book", "rows"]) fun _ _ _ _ _ _ us hl => match us, hl with | [_, _], _ => rfl
  have mJD := PySem.W.mg_of X G aJD
  have FA1 := fun_mk (st := sAllToOne) lA1 cA1 kA1
  have bA1 := FA1.binds (ps := ["book"]) fun _ _ _ _ _ _ us hl => match us, hl with | [_], _ => rfl
  have mA1 := PySem.W.mg_of X G aA1
  have FPr := fun_mk (st := sPair) lPr cPr kPr
  have bPr := FPr.binds (ps := ["_law_found"]) fun _ _ _ _ _ _ us hl => match us, hl with | [_], _ => rfl
  have mPr := PySem.W.mg_of X G aPr
  have FLo := fun_mk (st := sListOf) lLo cLo kLo
  have bLo := FLo.binds (ps := ["_law_found", "_law_known", "_law_most"]) fun _ _ _ _ _ _ us hl => match us, hl with | [_, _, _], _ => rfl
  have mLo := PySem.W.mg_of X G aLo
  have FT1 := fun_mk (st := sToOne) lT1 cT1 kT1
  have bT1 := FT1.binds (ps := ["_law_found", "_law_order", "_law_tables_here"]) fun _ _ _ _ _ _ us hl => match us, hl with | [_, _, _], _ => rfl
  have mT1 := PySem.W.mg_of X G aT1
  have FSk := fun_mk (st := sStuck) lSk cSk kSk
  have bSk := FSk.binds (ps := ["_law_pairs", "_law_order", "_law_tables_here"]) fun _ _ _ _ _ _ us hl => match us, hl with | [_, _, _], _ => rfl
  have mSk := PySem.W.mg_of X G aSk
  have FLD := fun_mk (st := sAllDip) lLD cLD kLD
  have bLD := FLD.binds (ps := ["_law_book", "_law_order", "_law_found", "_law_day"]) fun _ _ _ _ _ _ us hl => match us, hl with | [_, _, _, _], _ => rfl
  have mLD := PySem.W.mg_of X G aLD
  have FLP := fun_mk (st := sApart) lLP cLP kLP
  have bLP := FLP.binds (ps := ["_law_book", "_law_pairs", "_law_one", "_law_row_here", "_law_day", "_law_step"]) fun _ _ _ _ _ _ us hl => match us, hl with | [_, _, _, _, _, _], _ => rfl
  have mLP := PySem.W.mg_of X G aLP
  have FL := fun_mk (st := sLaw) lL cL kL
  have bL := FL.binds (ps := ["_law_script"]) fun _ _ _ _ _ _ us hl => match us, hl with | [_], _ => rfl
  have mL := PySem.W.mg_of X G aL
  have mND := PySem.W.mg_of X G aNoDay
  have mLa := PySem.W.mg_of X G aLate
  have mNC := PySem.W.mg_of X G aNoCloth
  have mKn := PySem.W.mg_of X G aKnown
  have mBN := PySem.W.mg_of X G aBadName
  have mFu := PySem.W.mg_of X G aFull
  have mNB := PySem.W.mg_of X G aNoBath
  have mNS := PySem.W.mg_of X G aNoShade
  have nlen := PySem.W.mg_none_of X G zlen
  have nall := PySem.W.mg_none_of X G zall
  have nrange := PySem.W.mg_none_of X G zrange
  have nisinstance := PySem.W.mg_none_of X G zisinstance
  have nlist := PySem.W.mg_none_of X G zlist
  have nstr := PySem.W.mg_none_of X G zstr
  have nsorted := PySem.W.mg_none_of X G zsorted
  have ntuple := PySem.W.mg_none_of X G ztuple
  have ndict := PySem.W.mg_none_of X G zdict
  have nzip := PySem.W.mg_none_of X G zzip
  have nset := PySem.W.mg_none_of X G zset
  have nmin := PySem.W.mg_none_of X G zmin
  have nint := PySem.W.mg_none_of X G zint
  have nmax := PySem.W.mg_none_of X G zmax
  have nbool := PySem.W.mg_none_of X G zbool
  have nenumerate := PySem.W.mg_none_of X G zenumerate
  have elett := PySem.W.mg_of X G vlett
  have elong := PySem.W.mg_of X G vlong
  have emostS := PySem.W.mg_of X G vmostS
  have emostB := PySem.W.mg_of X G vmostB
  have efday := PySem.W.mg_of X G vfday
  have elday := PySem.W.mg_of X G vlday
  have emostC := PySem.W.mg_of X G vmostC
  have emostD := PySem.W.mg_of X G vmostD
  have T : Txt mg := ⟨nlen, nall, nrange, nisinstance, nlist, nstr, nsorted, ntuple, ndict, nzip, nset, nmin, nint, ⟨_, elett⟩, ⟨_, elong⟩⟩
  have TB : TxtB mg := ⟨⟨_, emostS⟩, ⟨_, emostB⟩⟩
  have c : Cls K CB := ⟨pgB, hdB, poB, saB⟩
  have nO : NoAttr K CB "order" := naB_order
  have nT : NoAttr K CB "tables" := naB_tables
  have MkB : Mk K CB fI := ⟨mkB, aI, iI, kcB⟩
  have hX : Hx K mg CH := ⟨⟨pgH, hdH, poH, saH⟩, naH_first_shades, naH_day_now, naH_standing, naH_books_from, ⟨_, efday⟩, ⟨_, elday⟩, ⟨_, emostC⟩, ⟨_, emostD⟩, nmax⟩
  have MkH : Mk K CH fHI := ⟨mkH, aHI, iHI, kcH⟩
  have TM : mg "max" = none := nmax
  have hmMS : Meth K CB "shades" fMS := ⟨aMS, iMS, kMS⟩
  have hmMB : Meth K CB "baths" fMB := ⟨aMB, iMB, kMB⟩
  have hmMT : Meth K CB "table" fMT := ⟨aMT, iMT, kMT⟩
  have hmMC : Meth K CB "check_bath" fMC := ⟨aMC, iMC, kMC⟩
  have hmMH : Meth K CB "check_shade" fMH := ⟨aMH, iMH, kMH⟩
  have hmMO : Meth K CB "out" fMO := ⟨aMO, iMO, kMO⟩
  have hmHR : Meth K CH "bring" fHR := ⟨aHR, iHR, kHR⟩
  have hmHQ : Meth K CH "dip" fHQ := ⟨aHQ, iHQ, kHQ⟩
  have hmHB : Meth K CH "book" fHB := ⟨aHB, iHB, kHB⟩
  have hmHS : Meth K CH "shade" fHS := ⟨aHS, iHS, kHS⟩
  have hmHT : Meth K CH "trail" fHT := ⟨aHT, iHT, kHT⟩
  have hmHN : Meth K CH "newest_book" fHN := ⟨aHN, iHN, kHN⟩
  have hmHC : Meth K CH "check_cloth" fHC := ⟨aHC, iHC, kHC⟩
  have hmHD : Meth K CH "check_day_to_do" fHD := ⟨aHD, iHD, kHD⟩
  have XND : ExcC K xNoDay := ⟨exND, egND, etND, by rw [elND]; rfl, eaND, eN1, eT1, emND, ebND⟩
  have XLa : ExcC K xLate := ⟨exLa, egLa, etLa, by rw [elLa]; rfl, eaLa, eN1, eT1, emLa, ebLa⟩
  have XNC : ExcC K xNoCloth := ⟨exNC, egNC, etNC, by rw [elNC]; rfl, eaNC, eN1, eT1, emNC, ebNC⟩
  have XKn : ExcC K xKnown := ⟨exKn, egKn, etKn, by rw [elKn]; rfl, eaKn, eN1, eT1, emKn, ebKn⟩
  have XBN : ExcC K xBadName := ⟨exBN, egBN, etBN, by rw [elBN]; rfl, eaBN, eN1, eT1, emBN, ebBN⟩
  have XFu : ExcC K xFull := ⟨exFu, egFu, etFu, by rw [elFu]; rfl, eaFu, eN1, eT1, emFu, ebFu⟩
  have XNB : ExcC K xNoBath := ⟨exNB, egNB, etNB, by rw [elNB]; rfl, eaNB, eN1, eT1, emNB, ebNB⟩
  have XNS : ExcC K xNoShade := ⟨exNS, egNS, etNS, by rw [elNS]; rfl, eaNS, eN1, eT1, emNS, ebNS⟩
  exact ⟨PySem.W.fnOf "law" "law" (defArgs sLaw) (defBody sLaw) (defScope sLaw) .none kVL dcL pmL anL cdL ctL, fun s v => .of_eq rfl, fun base _ _ => by
    have GA := ok_at (P := l.prog) (w := w) (mg := mg) (base := base) FA T
    have GD := ok_draws (P := l.prog) (w := w) (mg := mg) (base := base) FD T
    have GN := ok_name (P := l.prog) (w := w) (mg := mg) (base := base) FN T
    have GNs := ok_names (P := l.prog) (w := w) (mg := mg) (base := base) FNs T GD kD bD mD GN kN bN mN
    have GTu := ok_turned (P := l.prog) (w := w) (mg := mg) (base := base) FTu T
    have GOu := ok_outs (P := l.prog) (w := w) (mg := mg) (base := base) FOu T GD kD bD mD GTu kTu bTu mTu
    have GSh := ok_shape (P := l.prog) (w := w) (mg := mg) (base := base) FSh T
    have GNd := ok_named (P := l.prog) (w := w) (mg := mg) (base := base) FNd T GA kA bA mA GNs kNs bNs mNs
    have GSz := ok_sized (P := l.prog) (w := w) (mg := mg) (base := base) FSz T GA kA bA mA GNd kNd bNd mNd GSh kSh bSh mSh GOu kOu bOu mOu
    have GDn := ok_drawn (P := l.prog) (w := w) (mg := mg) (base := base) FDn GA kA bA mA GSz kSz bSz mSz
    have GRw := ok_row (P := l.prog) (w := w) (mg := mg) (base := base) FRw T TM GD kD bD mD
    have GAE := ok_atend (P := l.prog) (w := w) (mg := mg) (base := base) FAE
    have GTa := ok_tables (P := l.prog) (w := w) (mg := mg) (base := base) FTa T
    have GGd := ok_good (P := l.prog) (w := w) (mg := mg) (base := base) FGd T
    have GCn := ok_cnames (P := l.prog) (w := w) (mg := mg) (base := base) FCn T GGd kGd bGd mGd
    have GCs := ok_cshades (P := l.prog) (w := w) (mg := mg) (base := base) FCs T TB GCn kCn bCn mCn
    have GCo := ok_couts (P := l.prog) (w := w) (mg := mg) (base := base) FCo T
    have GCb := ok_cbaths (P := l.prog) (w := w) (mg := mg) (base := base) FCb T TB GCn kCn bCn mCn GCo kCo bCo mCo
    have GI := ok_init (P := l.prog) (w := w) (mg := mg) (base := base) FI T c nO nT GCs kCs bCs mCs GCb kCb bCb mCb
    have GMC0 := ok_bcheck (P := l.prog) (w := w) (mg := mg) (base := base) FMC c nT
    have GMH0 := ok_bcshade (P := l.prog) (w := w) (mg := mg) (base := base) FMH c nO
    have GMO := ok_bout (P := l.prog) (w := w) (mg := mg) (base := base) FMO c nT GMC0 hmMC bMC GMH0 hmMH bMH
    have GMC := ok_bcheckX (P := l.prog) (w := w) (mg := mg) (base := base) FMC c nT XNB mNB
    have GMH := ok_bcshadeX (P := l.prog) (w := w) (mg := mg) (base := base) FMH c nO XNS mNS
    have GMS := ok_bshades (P := l.prog) (w := w) (mg := mg) (base := base) FMS T c nO
    have GMB := ok_bbaths (P := l.prog) (w := w) (mg := mg) (base := base) FMB T c nT
    have GMT := ok_btable (P := l.prog) (w := w) (mg := mg) (base := base) FMT c nO nT GMC0 hmMC bMC
    have GHd := ok_handed (P := l.prog) (w := w) (mg := mg) (base := base) FHd T MkB GI bI mCB
    have GTI := ok_textis (P := l.prog) (w := w) (mg := mg) (base := base) FTI T
    have GCD := ok_cday (P := l.prog) (w := w) (mg := mg) (base := base) FCD T hX c XND mND
    have GHC := ok_hcc (P := l.prog) (w := w) (mg := mg) (base := base) FHC T hX c XNC mNC
    have GHD := ok_hcd (P := l.prog) (w := w) (mg := mg) (base := base) FHD T hX c XLa mLa GCD kCD bCD mCD
    have GHB := ok_hbook (P := l.prog) (w := w) (mg := mg) (base := base) FHB T hX c GCD kCD bCD mCD
    have GHN := ok_hnew (P := l.prog) (w := w) (mg := mg) (base := base) FHN T hX c GHB hmHB bHB
    have GHT := ok_htrail (P := l.prog) (w := w) (mg := mg) (base := base) FHT T hX c GHC hmHC bHC GCD kCD bCD mCD
    have GHS := ok_hshade (P := l.prog) (w := w) (mg := mg) (base := base) FHS T hX c GHT hmHT bHT
    have GHI := ok_hinit (P := l.prog) (w := w) (mg := mg) (base := base) FHI T hX c
    have GHR := ok_hbring (P := l.prog) (w := w) (mg := mg) (base := base) FHR T hX c XBN mBN XKn mKn XFu mFu GGd kGd bGd mGd GHN hmHN bHN GMH hmMH bMH
    have GHQ := ok_hdip (P := l.prog) (w := w) (mg := mg) (base := base) FHQ T hX c XFu mFu GHC hmHC bHC GHN hmHN bHN GMC hmMC bMC GHD hmHD bHD GHB hmHB bHB GHS hmHS bHS GMO hmMO bMO
    have GWa := ok_walk (P := l.prog) (w := w) (mg := mg) (base := base) FWa c GMO hmMO bMO
    have GAP := ok_allpairs (P := l.prog) (w := w) (mg := mg) (base := base) FAP T nenumerate
    have GJR := ok_jrow (P := l.prog) (w := w) (mg := mg) (base := base) FJR T c GMB hmMB bMB GMO hmMO bMO
    have GJS := ok_jrows (P := l.prog) (w := w) (mg := mg) (base := base) FJS T GJR kJR bJR mJR
    have GJD := ok_joined (P := l.prog) (w := w) (mg := mg) (base := base) FJD T c GMS hmMS bMS GWa kWa bWa mWa
    have GA1 := ok_alltoone (P := l.prog) (w := w) (mg := mg) (base := base) FA1 T c GMS hmMS bMS GAP kAP bAP mAP GJS kJS bJS mJS GJD kJD bJD mJD
    have GPr := ok_pair (P := l.prog) (w := w) (mg := mg) (base := base) FPr T
    have GLo := ok_listofD (P := l.prog) (w := w) (mg := mg) (base := base) FLo T
    have GLl := ok_listofL (P := l.prog) (w := w) (mg := mg) (base := base) FLo T
    have GT1 := ok_toone (P := l.prog) (w := w) (mg := mg) (base := base) FT1 T GLo kLo bLo mLo GAE kAE bAE mAE
    have GSk := ok_stuck (P := l.prog) (w := w) (mg := mg) (base := base) FSk T GPr kPr bPr mPr GLl kLo bLo mLo
    have GWR := ok_wrow (P := l.prog) (w := w) (mg := mg) (base := base) FWR
    have GWB := ok_wbook (P := l.prog) (w := w) (mg := mg) (base := base) FWB c GWR kWR bWR mWR GMS hmMS bMS GMB hmMB bMB GMT hmMT bMT
    have GBO := ok_bathof (P := l.prog) (w := w) (mg := mg) (base := base) FBO T
    have GLO := ok_loose (P := l.prog) (w := w) (mg := mg) (base := base) FLO T MkB GBO kBO bBO mBO GI bI mCB
    have GRB := ok_read (P := l.prog) (w := w) (mg := mg) (base := base) FRB GLO kLO bLO mLO GWB kWB bWB mWB
    have GTx := ok_text (P := l.prog) (w := w) (mg := mg) (base := base) FTx T
    have GLD := ok_alldip (P := l.prog) (w := w) (mg := mg) (base := base) FLD T hX TM GHR hmHR bHR GHQ hmHQ bHQ GHS hmHS bHS GTI kTI bTI mTI MkH GHI bHI mCH
    have GLP := ok_apart (P := l.prog) (w := w) (mg := mg) (base := base) FLP T hX GHR hmHR bHR GHQ hmHQ bHQ MkH GHI bHI mCH
    exact ok_law FL T hX GA kA bA mA GDn kDn bDn mDn GTa kTa bTa mTa GHd kHd bHd mHd GRw kRw bRw mRw GTx kTx bTx mTx GRB kRB bRB mRB GA1 kA1 bA1 mA1 GPr kPr bPr mPr GSk kSk bSk mSk GT1 kT1 bT1 mT1 GLD kLD bLD mLD GLP kLP bLP mLP⟩
theorem walk {l : PySem.W.OpenLaw} {q : Program} {loose : List Str} {XP : (Str → Option Value) → Heap → Prop} {YP : World → Heap → Prop} {d : DefRec} {K : Params → PySem.W.Frag} (hn : l.most = some 63) (hdf : d.params.defaults = [])
    (hY : ∀ (w : World) (h : Heap), YP w h → (K w.params).In h)
    (F : ∀ (w : World) (mg : Str → Option Value) (fa : Addr) (h : Heap), (K w.params).In h → h.Ns mainGlobals mg → mg d.name = some (.ref fa) →
      ∃ fd : FuncData, (∀ (s : Shared) (u : Value), BindsTo s fd ⟨[u], []⟩ [("_law_script", u)]) ∧ ∀ base : Heap, (K w.params).In base → base.Ns mainGlobals mg → FnOk l.prog w (K w.params) mg base CX0 8 fa fd ["_law_script"] (spLaw (K w.params))) :
    PySem.W.WalkO q loose XP YP l.row.toRowW d [] (fun f vs => PySem.call f vs) :=
  L2.walk_of (n := 63) (k := 8) (x := "_law_script") (CX := fun _ => CX0) (sp := fun w => spLaw (K w.params)) hn (by decide) hdf ⟨rfl, by decide, by decide⟩ hY F (fun _ _ a ns hl _ hS => ⟨a, ns, rfl, hS, hl, fun _ => rfl⟩) fun _ _ _ _ _ z => z
end DM
namespace PySem.W.Fast
def tw10014705276757176556 := 0
def tw10034623504792792878 := 0
def tw10166236213130913721 := 0
def tw10180379149974400300 := 0
def tw1021777584230090167 := 0
def tw10247355747177282451 := 0
def tw10249944051036166107 := 0
def tw10318957380609417502 := 0
def tw10333274689370178263 := 0
def tw10369843172067545401 := 0
def tw10383621023856040966 := 0
def tw1041373751795009770 := 0
def tw10414049574819840633 := 0
def tw10512488994585917644 := 0
def tw10523464020813486649 := 0
def tw10584297873030214756 := 0
def tw10599634466421374557 := 0
def tw10626755331743743791 := 0
def tw10704571184177818177 := 0
def tw10725426965095302488 := 0
def tw10738900407976175683 := 0
def tw10750751290474330900 := 0
def tw10759705087052979501 := 0
def tw10783554755301416138 := 0
def tw10798157960835317251 := 0
def tw1080186217983467635 := 0
def tw10809097588362382419 := 0
def tw10845635006810513137 := 0
def tw1088307945101382776 := 0
def tw10923712067010500868 := 0
def tw10939289246362618187 := 0
def tw11053080839544931081 := 0
def tw11124964860573251193 := 0
def tw11142777792608928742 := 0
def tw11206049376260369569 := 0
def tw11273031850424781488 := 0
def tw11324791992499189122 := 0
def tw1132863047371753133 := 0
def tw11380868645005555407 := 0
def tw11394756339966202377 := 0
def tw1141817468355672125 := 0
def tw11460256150474343774 := 0
def tw11462427927880392911 := 0
def tw1147762374198269458 := 0
def tw11486735532933092024 := 0
def tw11493948151625988170 := 0
def tw1149998843282904894 := 0
def tw11601079494864373682 := 0
def tw11690662460577859674 := 0
def tw11697022025170196661 := 0
def tw11719770767789813212 := 0
def tw11729036375409302922 := 0
def tw11731112856822439589 := 0
def tw11799198892897946740 := 0
def tw11816776079720556886 := 0
def tw11835476248022001819 := 0
def tw11955586425008487607 := 0
def tw11970085240059843483 := 0
def tw11987892166236811475 := 0
def tw12056812902574089766 := 0
def tw12108279785341438823 := 0
def tw12179257990715187264 := 0
def tw12307882381120358116 := 0
def tw12319453907619401583 := 0
def tw1232307325396685211 := 0
def tw12355849530767580356 := 0
def tw12384613610249391381 := 0
def tw12402365901606774895 := 0
def tw12509784024203905878 := 0
def tw12661599709700521552 := 0
def tw12701328410465257322 := 0
def tw12728817537615989877 := 0
def tw12770697461843480324 := 0
def tw12785251227195396244 := 0
def tw12808499441868437575 := 0
def tw12808791394540019240 := 0
def tw12838298648673475199 := 0
def tw12913109188473677934 := 0
def tw12939116377475090599 := 0
def tw12980684708716566756 := 0
def tw13031626287139985086 := 0
def tw13057770605263609008 := 0
def tw13064208416075775971 := 0
def tw13074526649733155021 := 0
def tw13111631450068309469 := 0
def tw132161817348819520 := 0
def tw13349783349218495700 := 0
def tw13350022155652995183 := 0
def tw13404072722188290808 := 0
def tw13406891037778055824 := 0
def tw13468097090073514404 := 0
def tw13481899844543901483 := 0
def tw1348985048437605219 := 0
def tw13526913779979907494 := 0
def tw1365659174704045314 := 0
def tw13712411663432417860 := 0
def tw13717727869206131149 := 0
def tw13734075129963512816 := 0
def tw13772892436041823562 := 0
def tw13775050545663201241 := 0
def tw13800392964528999525 := 0
def tw13803617511908170545 := 0
def tw13815699575003520380 := 0
def tw13838554988175136652 := 0
def tw13955868881074443597 := 0
def tw13959266629761352986 := 0
def tw13987934499795574643 := 0
def tw13992243535069362889 := 0
def tw14028185092580062136 := 0
def tw14095129156942946514 := 0
def tw14106302715082404321 := 0
def tw1412653593328273551 := 0
def tw14241356805375538095 := 0
def tw14306600033515803212 := 0
def tw14324262839797836661 := 0
def tw14326883403679304650 := 0
def tw14389520099976786696 := 0
def tw14551610219135356196 := 0
def tw14592548846326339045 := 0
def tw14728418742500360139 := 0
def tw14738959244528955391 := 0
def tw14767328229173955700 := 0
def tw14796228633864852294 := 0
def tw14865408959179329204 := 0
def tw14913968070732798799 := 0
def tw14981583497230329927 := 0
def tw14999491441808648829 := 0
def tw15099292568231114191 := 0
def tw15120681236377453995 := 0
def tw15159522174076560624 := 0
def tw15242712460503675665 := 0
def tw15285272041199717236 := 0
def tw15308935999635679129 := 0
def tw15379260569426816543 := 0
def tw15472275100746694530 := 0
def tw15472469476376675777 := 0
def tw155506294757909853 := 0
def tw155925587560660146 := 0
def tw1560337430664164244 := 0
def tw15639422223957358082 := 0
def tw15666063447750308282 := 0
def tw15720755277045670747 := 0
def tw15767526816504015726 := 0
def tw15773734572219499599 := 0
def tw15887543639204897768 := 0
def tw15952972368232107968 := 0
def tw1604940618966097089 := 0
def tw16050965369789055264 := 0
def tw16089094589588005364 := 0
def tw16194146753467509749 := 0
def tw16210603031099415555 := 0
def tw16236762789365217847 := 0
def tw16315202896907786447 := 0
def tw16351841659701327340 := 0
def tw16352389576213723274 := 0
def tw16373214399413872590 := 0
def tw16474703084902977 := 0
def tw16499209654104489668 := 0
def tw16530613540664180024 := 0
def tw16591919035904347373 := 0
def tw16624823086715229331 := 0
def tw16645705772709296236 := 0
def tw16667777512360490217 := 0
def tw16673143690845564580 := 0
def tw16747673455501651352 := 0
def tw16784864080878202802 := 0
def tw1680901313415515451 := 0
def tw16840745347219735035 := 0
def tw16865848539951460392 := 0
def tw16975620748904782927 := 0
def tw17036524763941811093 := 0
def tw17039475106869746850 := 0
def tw17048295555240761070 := 0
def tw17110028080974840301 := 0
def tw17134256022732893650 := 0
def tw17207076053571959091 := 0
def tw17246919408062350131 := 0
def tw17442942139731979159 := 0
def tw17453933295458930403 := 0
def tw17526288087208031699 := 0
def tw17541565049576662774 := 0
def tw1762701334249241486 := 0
def tw17627282287880115320 := 0
def tw17693111413667730697 := 0
def tw17811670767317479866 := 0
def tw1788202191942877112 := 0
def tw17971799219728320376 := 0
def tw17974820467221756930 := 0
def tw17980971456884749421 := 0
def tw17990848307808407502 := 0
def tw18040618009233664803 := 0
def tw18069675068013413400 := 0
def tw18161491074021353096 := 0
def tw18198582307288504910 := 0
def tw18206123537291615642 := 0
def tw18227193570768031323 := 0
def tw18235072824417606853 := 0
def tw18242951442482014120 := 0
def tw18243813159573481720 := 0
def tw183172042160568042 := 0
def tw1835927088991927511 := 0
def tw18389669454511521732 := 0
def tw18394606555281596291 := 0
def tw1841579025470640648 := 0
def tw1973529790765583458 := 0
def tw1999939457616148309 := 0
def tw2039464441137407173 := 0
def tw2054188280592210688 := 0
def tw2068595207152184237 := 0
def tw2100601398900906685 := 0
def tw2117124072008736688 := 0
def tw218754177941988454 := 0
def tw2217680703306651925 := 0
def tw2248932403494561153 := 0
def tw2259345502969471201 := 0
def tw2299941103719269505 := 0
def tw2314916170964029886 := 0
def tw2328340566251673840 := 0
def tw2433871042247038869 := 0
def tw2436281018145941183 := 0
def tw2451142270943893158 := 0
def tw2507655831338024002 := 0
def tw2548724256857553398 := 0
def tw2582650551436130901 := 0
def tw258368550623167421 := 0
def tw2756026766376052159 := 0
def tw2784169659599920025 := 0
def tw2862004359047264997 := 0
def tw2961070999172572908 := 0
def tw2963919689977078409 := 0
def tw297782055837350323 := 0
def tw3037169273367810354 := 0
def tw3106966999472870901 := 0
def tw3227117772401153557 := 0
def tw326592501763545550 := 0
def tw3348740354889104189 := 0
def tw3374077699383780243 := 0
def tw3396742013172989514 := 0
def tw3486066575421512021 := 0
def tw3543450662242788873 := 0
def tw3584647283283364690 := 0
def tw3608507856342401102 := 0
def tw3610307276357170916 := 0
def tw3644403149482676443 := 0
def tw3708157408953057703 := 0
def tw3722820853267123519 := 0
def tw376260408846455015 := 0
def tw3768772859820881640 := 0
def tw3803539679063157139 := 0
def tw3839859703404500726 := 0
def tw3864653862398119422 := 0
def tw3938064649518213324 := 0
def tw3952924351844429086 := 0
def tw3983054595119767286 := 0
def tw4017941593167701158 := 0
def tw4037940327576033738 := 0
def tw4061080197247602027 := 0
def tw4164498318895698777 := 0
def tw419520864265845317 := 0
def tw4253802307968155439 := 0
def tw4303158834731635228 := 0
def tw4346367207950385375 := 0
def tw4352830860269084385 := 0
def tw4365803164993201630 := 0
def tw4387514781899254021 := 0
def tw4426998418524243504 := 0
def tw4596704775094935116 := 0
def tw4695741430428708139 := 0
def tw4767264508124286360 := 0
def tw4776031858476848732 := 0
def tw4800913102254173218 := 0
def tw4802937522330416640 := 0
def tw4851144630973598564 := 0
def tw4917757355792774264 := 0
def tw5011243086571260814 := 0
def tw5017300138365499774 := 0
def tw5070649975398030174 := 0
def tw5209876834928198104 := 0
def tw5317455649533836087 := 0
def tw5360672035504710293 := 0
def tw5383239487471827367 := 0
def tw5406638072016107246 := 0
def tw5457087213542089784 := 0
def tw5501281167556157906 := 0
def tw5532744338833387181 := 0
def tw5599992679762689254 := 0
def tw5605103363728839694 := 0
def tw5674455083196515235 := 0
def tw5696191881842238373 := 0
def tw5751310073173707064 := 0
def tw5770576681640957999 := 0
def tw5797742571399660663 := 0
def tw5807129973099925005 := 0
def tw5848147404259246058 := 0
def tw588596075650592692 := 0
def tw5963472335972969781 := 0
def tw6002871835915932701 := 0
def tw6011195283677571265 := 0
def tw608747136108790633 := 0
def tw6153453637845698826 := 0
def tw6178164438320841138 := 0
def tw6206785118372549214 := 0
def tw6243777217871658532 := 0
def tw6313694379919162034 := 0
def tw634442188819431906 := 0
def tw6436489494630570573 := 0
def tw6538371065710501815 := 0
def tw6622548514528749016 := 0
def tw6663082653651789960 := 0
def tw6792955830831234251 := 0
def tw6905758479140845158 := 0
def tw6910350536035407772 := 0
def tw6948347234248874802 := 0
def tw7012202645310088136 := 0
def tw7048200042641146496 := 0
def tw7095225564766313136 := 0
def tw7153535451940283125 := 0
def tw7163011701083453843 := 0
def tw7179058765895461167 := 0
def tw7246379900608573198 := 0
def tw7321201327825069893 := 0
def tw7414507434511040071 := 0
def tw743476518812714872 := 0
def tw7467105818405654146 := 0
def tw7469526421632471847 := 0
def tw7509470299421632025 := 0
def tw7582771754986137758 := 0
def tw7645660925805895097 := 0
def tw7681490480353850304 := 0
def tw7715461323014507747 := 0
def tw7721675758765108707 := 0
def tw7726866250656327640 := 0
def tw7794657296673905482 := 0
def tw7849156225591803268 := 0
def tw7969891263420019405 := 0
def tw8026295852204622047 := 0
def tw809022543275711314 := 0
def tw8103242445995984816 := 0
def tw8108846407067932443 := 0
def tw8110995038057395931 := 0
def tw8168757681968549661 := 0
def tw8227486575416948584 := 0
def tw8263691924743988318 := 0
def tw8332887469609263738 := 0
def tw8354561060781974099 := 0
def tw8381454853155492092 := 0
def tw8399260038449341976 := 0
def tw8434039762680817182 := 0
def tw8460557265058168022 := 0
def tw8492987555914339611 := 0
def tw8499247640225357935 := 0
def tw8532557364874650513 := 0
def tw8567144640754450358 := 0
def tw8644112501074571432 := 0
def tw8731779701237711083 := 0
def tw8784216946660720274 := 0
def tw8792777069649498141 := 0
def tw9070500273554930257 := 0
def tw9112972034229688206 := 0
def tw9146378190593823225 := 0
def tw9204322911397773682 := 0
def tw9242794349921668654 := 0
def tw9301123892495385948 := 0
def tw9319909804913050041 := 0
def tw9355900289629756353 := 0
def tw9515271362982313997 := 0
def tw9573010390762425528 := 0
def tw9644560013917138742 := 0
def tw9648799830119724488 := 0
def tw9738908076031307987 := 0
def tw9743434377880180758 := 0
def tw9777233837271808669 := 0
def tw9836427512890702658 := 0
def tw9897263242184876850 := 0
def tw9922299827880643006 := 0
def tw9924241643144100577 := 0
def tw997664494312071481 := 0
end PySem.W.Fast
open PySem PySem.W PyProof.Rows
set_option maxRecDepth 100000 in
set_option maxHeartbeats 0 in
theorem PySem.Challenge.cw_dipmaps_k40_whole_cloths_to_one_holds : PySem.Challenge.rw_dipmaps_k40_whole_cloths_to_one.Holds := by
  w_on; o_law; k_head; (case hw => w_witness2)
  k_fill
  refine DM.walk (l := PySem.Challenge.rw_dipmaps_k40_whole_cloths_to_one) rfl rfl (fun w h Y => PySem.W.kIn_of Y) ?F
  case F =>
    intro w mg fa h KX G hmg
    refine' DM.all_mk KX G hmg ?aCB ?aI ?iI ?lI ?cI ?kI ?aMS ?iMS ?lMS ?cMS ?kMS ?aMB ?iMB ?lMB ?cMB ?kMB ?aMT ?iMT ?lMT ?cMT ?kMT ?aMC ?iMC ?lMC ?cMC ?kMC ?aMH ?iMH ?lMH ?cMH ?kMH ?aMO ?iMO ?lMO ?cMO ?kMO ?pgB ?hdB ?poB ?saB ?mkB ?kcB ?naB_order ?naB_tables ?aCH ?aHI ?iHI ?lHI ?cHI ?kHI ?aHR ?iHR ?lHR ?cHR ?kHR ?aHQ ?iHQ ?lHQ ?cHQ ?kHQ ?aHB ?iHB ?lHB ?cHB ?kHB ?aHS ?iHS ?lHS ?cHS ?kHS ?aHT ?iHT ?lHT ?cHT ?kHT ?aHN ?iHN ?lHN ?cHN ?kHN ?aHC ?iHC ?lHC ?cHC ?kHC ?aHD ?iHD ?lHD ?cHD ?kHD ?pgH ?hdH ?poH ?saH ?mkH ?kcH ?naH_first_shades ?naH_day_now ?naH_standing ?naH_books_from ?aGd ?lGd ?cGd ?kGd ?aCn ?lCn ?cCn ?kCn ?aCs ?lCs ?cCs ?kCs ?aCo ?lCo ?cCo ?kCo ?aCb ?lCb ?cCb ?kCb ?aCD ?lCD ?cCD ?kCD ?aA ?lA ?cA ?kA ?aD ?lD ?cD ?kD ?aN ?lN ?cN ?kN ?aNs ?lNs ?cNs ?kNs ?aTu ?lTu ?cTu ?kTu ?aOu ?lOu ?cOu ?kOu ?aSh ?lSh ?cSh ?kSh ?aNd ?lNd ?cNd ?kNd ?aSz ?lSz ?cSz ?kSz ?aDn ?lDn ?cDn ?kDn ?aTa ?lTa ?cTa ?kTa ?aHd ?lHd ?cHd ?kHd ?aTI ?lTI ?cTI ?kTI ?aRw ?lRw ?cRw ?kRw ?aAE ?lAE ?cAE ?kAE ?aWR ?lWR ?cWR ?kWR ?aWB ?lWB ?cWB ?kWB ?aBO ?lBO ?cBO ?kBO ?aLO ?lLO ?cLO ?kLO ?aRB ?lRB ?cRB ?kRB ?aTx ?lTx ?cTx ?kTx ?aWa ?lWa ?cWa ?kWa ?aAP ?lAP ?cAP ?kAP ?aJR ?lJR ?cJR ?kJR ?aJS ?lJS ?cJS ?kJS ?aJD ?lJD ?cJD ?kJD ?aA1 ?lA1 ?cA1 ?kA1 ?aPr ?lPr ?cPr ?kPr ?aLo ?lLo ?cLo ?kLo ?aT1 ?lT1 ?cT1 ?kT1 ?aSk ?lSk ?cSk ?kSk ?aLD ?lLD ?cLD ?kLD ?aLP ?lLP ?cLP ?kLP ?aL ?lL ?cL ?kL ?aNoDay ?exND ?elND ?egND ?etND ?eaND ?emND ?ebND ?aLate ?exLa ?elLa ?egLa ?etLa ?eaLa ?emLa ?ebLa ?aNoCloth ?exNC ?elNC ?egNC ?etNC ?eaNC ?emNC ?ebNC ?aKnown ?exKn ?elKn ?egKn ?etKn ?eaKn ?emKn ?ebKn ?aBadName ?exBN ?elBN ?egBN ?etBN ?eaBN ?emBN ?ebBN ?aFull ?exFu ?elFu ?egFu ?etFu ?eaFu ?emFu ?ebFu ?aNoBath ?exNB ?elNB ?egNB ?etNB ?eaNB ?emNB ?ebNB ?aNoShade ?exNS ?elNS ?egNS ?etNS ?eaNS ?emNS ?ebNS ?eN1 ?eT1 ?zlen ?zall ?zrange ?zisinstance ?zlist ?zstr ?zsorted ?ztuple ?zdict ?zzip ?zset ?zmin ?zint ?zmax ?zbool ?zenumerate ?vlett ?vlong ?vmostS ?vmostB ?vfday ?vlday ?vmostC ?vmostD
    (case aCB => k_is)
    (case aI => k_is)
    (case iI => k_is)
    (case lI => k_is)
    (case cI => k_is)
    (case kI => k_is)
    (case aMS => k_is)
    (case iMS => k_is)
    (case lMS => k_is)
    (case cMS => k_is)
    (case kMS => k_is)
    (case aMB => k_is)
    (case iMB => k_is)
    (case lMB => k_is)
    (case cMB => k_is)
    (case kMB => k_is)
    (case aMT => k_is)
    (case iMT => k_is)
    (case lMT => k_is)
    (case cMT => k_is)
    (case kMT => k_is)
    (case aMC => k_is)
    (case iMC => k_is)
    (case lMC => k_is)
    (case cMC => k_is)
    (case kMC => k_is)
    (case aMH => k_is)
    (case iMH => k_is)
    (case lMH => k_is)
    (case cMH => k_is)
    (case kMH => k_is)
    (case aMO => k_is)
    (case iMO => k_is)
    (case lMO => k_is)
    (case cMO => k_is)
    (case kMO => k_is)
    (case pgB => k_is)
    (case hdB => k_is)
    (case poB => k_is)
    (case saB => k_is)
    (case mkB => k_is)
    (case kcB => k_is)
    (case naB_order => k_is)
    (case naB_tables => k_is)
    (case aCH => k_is)
    (case aHI => k_is)
    (case iHI => k_is)
    (case lHI => k_is)
    (case cHI => k_is)
    (case kHI => k_is)
    (case aHR => k_is)
    (case iHR => k_is)
    (case lHR => k_is)
    (case cHR => k_is)
    (case kHR => k_is)
    (case aHQ => k_is)
    (case iHQ => k_is)
    (case lHQ => k_is)
    (case cHQ => k_is)
    (case kHQ => k_is)
    (case aHB => k_is)
    (case iHB => k_is)
    (case lHB => k_is)
    (case cHB => k_is)
    (case kHB => k_is)
    (case aHS => k_is)
    (case iHS => k_is)
    (case lHS => k_is)
    (case cHS => k_is)
    (case kHS => k_is)
    (case aHT => k_is)
    (case iHT => k_is)
    (case lHT => k_is)
    (case cHT => k_is)
    (case kHT => k_is)
    (case aHN => k_is)
    (case iHN => k_is)
    (case lHN => k_is)
    (case cHN => k_is)
    (case kHN => k_is)
    (case aHC => k_is)
    (case iHC => k_is)
    (case lHC => k_is)
    (case cHC => k_is)
    (case kHC => k_is)
    (case aHD => k_is)
    (case iHD => k_is)
    (case lHD => k_is)
    (case cHD => k_is)
    (case kHD => k_is)
    (case pgH => k_is)
    (case hdH => k_is)
    (case poH => k_is)
    (case saH => k_is)
    (case mkH => k_is)
    (case kcH => k_is)
    (case naH_first_shades => k_is)
    (case naH_day_now => k_is)
    (case naH_standing => k_is)
    (case naH_books_from => k_is)
    (case aGd => k_is)
    (case lGd => k_is)
    (case cGd => k_is)
    (case kGd => k_is)
    (case aCn => k_is)
    (case lCn => k_is)
    (case cCn => k_is)
    (case kCn => k_is)
    (case aCs => k_is)
    (case lCs => k_is)
    (case cCs => k_is)
    (case kCs => k_is)
    (case aCo => k_is)
    (case lCo => k_is)
    (case cCo => k_is)
    (case kCo => k_is)
    (case aCb => k_is)
    (case lCb => k_is)
    (case cCb => k_is)
    (case kCb => k_is)
    (case aCD => k_is)
    (case lCD => k_is)
    (case cCD => k_is)
    (case kCD => k_is)
    (case aA => k_is)
    (case lA => k_is)
    (case cA => k_is)
    (case kA => k_is)
    (case aD => k_is)
    (case lD => k_is)
    (case cD => k_is)
    (case kD => k_is)
    (case aN => k_is)
    (case lN => k_is)
    (case cN => k_is)
    (case kN => k_is)
    (case aNs => k_is)
    (case lNs => k_is)
    (case cNs => k_is)
    (case kNs => k_is)
    (case aTu => k_is)
    (case lTu => k_is)
    (case cTu => k_is)
    (case kTu => k_is)
    (case aOu => k_is)
    (case lOu => k_is)
    (case cOu => k_is)
    (case kOu => k_is)
    (case aSh => k_is)
    (case lSh => k_is)
    (case cSh => k_is)
    (case kSh => k_is)
    (case aNd => k_is)
    (case lNd => k_is)
    (case cNd => k_is)
    (case kNd => k_is)
    (case aSz => k_is)
    (case lSz => k_is)
    (case cSz => k_is)
    (case kSz => k_is)
    (case aDn => k_is)
    (case lDn => k_is)
    (case cDn => k_is)
    (case kDn => k_is)
    (case aTa => k_is)
    (case lTa => k_is)
    (case cTa => k_is)
    (case kTa => k_is)
    (case aHd => k_is)
    (case lHd => k_is)
    (case cHd => k_is)
    (case kHd => k_is)
    (case aTI => k_is)
    (case lTI => k_is)
    (case cTI => k_is)
    (case kTI => k_is)
    (case aRw => k_is)
    (case lRw => k_is)
    (case cRw => k_is)
    (case kRw => k_is)
    (case aAE => k_is)
    (case lAE => k_is)
    (case cAE => k_is)
    (case kAE => k_is)
    (case aWR => k_is)
    (case lWR => k_is)
    (case cWR => k_is)
    (case kWR => k_is)
    (case aWB => k_is)
    (case lWB => k_is)
    (case cWB => k_is)
    (case kWB => k_is)
    (case aBO => k_is)
    (case lBO => k_is)
    (case cBO => k_is)
    (case kBO => k_is)
    (case aLO => k_is)
    (case lLO => k_is)
    (case cLO => k_is)
    (case kLO => k_is)
    (case aRB => k_is)
    (case lRB => k_is)
    (case cRB => k_is)
    (case kRB => k_is)
    (case aTx => k_is)
    (case lTx => k_is)
    (case cTx => k_is)
    (case kTx => k_is)
    (case aWa => k_is)
    (case lWa => k_is)
    (case cWa => k_is)
    (case kWa => k_is)
    (case aAP => k_is)
    (case lAP => k_is)
    (case cAP => k_is)
    (case kAP => k_is)
    (case aJR => k_is)
    (case lJR => k_is)
    (case cJR => k_is)
    (case kJR => k_is)
    (case aJS => k_is)
    (case lJS => k_is)
    (case cJS => k_is)
    (case kJS => k_is)
    (case aJD => k_is)
    (case lJD => k_is)
    (case cJD => k_is)
    (case kJD => k_is)
    (case aA1 => k_is)
    (case lA1 => k_is)
    (case cA1 => k_is)
    (case kA1 => k_is)
    (case aPr => k_is)
    (case lPr => k_is)
    (case cPr => k_is)
    (case kPr => k_is)
    (case aLo => k_is)
    (case lLo => k_is)
    (case cLo => k_is)
    (case kLo => k_is)
    (case aT1 => k_is)
    (case lT1 => k_is)
    (case cT1 => k_is)
    (case kT1 => k_is)
    (case aSk => k_is)
    (case lSk => k_is)
    (case cSk => k_is)
    (case kSk => k_is)
    (case aLD => k_is)
    (case lLD => k_is)
    (case cLD => k_is)
    (case kLD => k_is)
    (case aLP => k_is)
    (case lLP => k_is)
    (case cLP => k_is)
    (case kLP => k_is)
    (case aL => k_is)
    (case lL => k_is)
    (case cL => k_is)
    (case kL => k_is)
    (case aNoDay => k_is)
    (case exND => k_exc)
    (case elND => k_is)
    (case egND => k_is)
    (case etND => k_is)
    (case eaND => k_is)
    (case emND => k_is)
    (case ebND => k_is)
    (case aLate => k_is)
    (case exLa => k_exc)
    (case elLa => k_is)
    (case egLa => k_is)
    (case etLa => k_is)
    (case eaLa => k_is)
    (case emLa => k_is)
    (case ebLa => k_is)
    (case aNoCloth => k_is)
    (case exNC => k_exc)
    (case elNC => k_is)
    (case egNC => k_is)
    (case etNC => k_is)
    (case eaNC => k_is)
    (case emNC => k_is)
    (case ebNC => k_is)
    (case aKnown => k_is)
    (case exKn => k_exc)
    (case elKn => k_is)
    (case egKn => k_is)
    (case etKn => k_is)
    (case eaKn => k_is)
    (case emKn => k_is)
    (case ebKn => k_is)
    (case aBadName => k_is)
    (case exBN => k_exc)
    (case elBN => k_is)
    (case egBN => k_is)
    (case etBN => k_is)
    (case eaBN => k_is)
    (case emBN => k_is)
    (case ebBN => k_is)
    (case aFull => k_is)
    (case exFu => k_exc)
    (case elFu => k_is)
    (case egFu => k_is)
    (case etFu => k_is)
    (case eaFu => k_is)
    (case emFu => k_is)
    (case ebFu => k_is)
    (case aNoBath => k_is)
    (case exNB => k_exc)
    (case elNB => k_is)
    (case egNB => k_is)
    (case etNB => k_is)
    (case eaNB => k_is)
    (case emNB => k_is)
    (case ebNB => k_is)
    (case aNoShade => k_is)
    (case exNS => k_exc)
    (case elNS => k_is)
    (case egNS => k_is)
    (case etNS => k_is)
    (case eaNS => k_is)
    (case emNS => k_is)
    (case ebNS => k_is)
    (case eN1 => k_is)
    (case eT1 => k_is)
    (case zlen => k_is)
    (case zall => k_is)
    (case zrange => k_is)
    (case zisinstance => k_is)
    (case zlist => k_is)
    (case zstr => k_is)
    (case zsorted => k_is)
    (case ztuple => k_is)
    (case zdict => k_is)
    (case zzip => k_is)
    (case zset => k_is)
    (case zmin => k_is)
    (case zint => k_is)
    (case zmax => k_is)
    (case zbool => k_is)
    (case zenumerate => k_is)
    (case vlett => k_is)
    (case vlong => k_is)
    (case vmostS => k_is)
    (case vmostB => k_is)
    (case vfday => k_is)
    (case vlday => k_is)
    (case vmostC => k_is)
    (case vmostD => k_is)

