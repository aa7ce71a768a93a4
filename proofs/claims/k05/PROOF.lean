import PyProof.Rows.All
import Wide.All
import OpenK.AllK
import Wide.FinOn
import Lean
import PyProof.EqAt
import PyProof.EqKinds
import PyProof.TupleCall
import PyProof.NeKinds
import PySem.Challenge.RW_nightglass_k05_whole_rows_of_motions
set_option Elab.async false
set_option linter.all false
set_option maxRecDepth 100000
/-! THE HAND LAYER, for ints, bools, texts, own classes, LISTS and tuples (index, slices, in, append, pop ..), calls, loops. Paste it whole ahead of your own text; what your proof does not reach may be deleted. -/
namespace L2
open PySem PySem.Spec PyProof.Rows

/-- a key: an int or a str -/
abbrev Key := Sum Int Str
def keyIs : Key → Value → Bool
  | .inl k, v => Value.isInt k v
  | .inr x, v => Value.isStrOf x v
def keyH (w : World) : Key → Int
  | .inl k => hashInt k
  | .inr x => hashStr w x
theorem keyIs_shape : ∀ {k : Key} {v : Value}, keyIs k v = true → (∃ i t, k = Sum.inl i ∧ v = Value.int i t) ∨ (∃ x t, k = Sum.inr x ∧ v = Value.str x t)
  | .inl i, v, h => by
    obtain ⟨t, e⟩ := Value.isInt_shape (k := i) (v := v) h
    exact .inl ⟨i, t, rfl, e⟩
  | .inr x, v, h => by
    obtain ⟨t, e⟩ := Value.isStrOf_shape (x := x) (v := v) h
    exact .inr ⟨x, t, rfl, e⟩
theorem keyIs_int (i : Int) (t : Tok) : keyIs (.inl i) (.int i t) = true := by simp [keyIs, Value.isInt]
theorem keyIs_str (x : Str) (t : Tok) : keyIs (.inr x) (.str x t) = true := by simp [keyIs, Value.isStrOf]
theorem key_ll (a b : Int) : decide ((Sum.inl a : Key) = Sum.inl b) = (a == b) := by
  by_cases e : a = b
  · subst e; simp
  · have h : ¬ (Sum.inl a : Key) = Sum.inl b := fun q => e (Sum.inl.inj q)
    rw [decide_eq_false h]
    exact (beq_eq_false_iff_ne.mpr e).symm
theorem key_rr (a b : Str) : decide ((Sum.inr a : Key) = Sum.inr b) = decide (a = b) := by
  by_cases e : a = b
  · subst e; simp
  · have h : ¬ (Sum.inr a : Key) = Sum.inr b := fun q => e (Sum.inr.inj q)
    rw [decide_eq_false h, decide_eq_false e]
theorem key_lr (a : Int) (b : Str) : decide ((Sum.inl a : Key) = Sum.inr b) = false := decide_eq_false (fun q => nomatch q)
theorem key_rl (a : Str) (b : Int) : decide ((Sum.inr a : Key) = Sum.inl b) = false := decide_eq_false (fun q => nomatch q)

def mixKind (prog : Program) (w : World) : PySem.KeyKind prog w Key where
  is := keyIs
  hash := keyH w
  inj := fun v a b ha hb => by
    rcases keyIs_shape ha with ⟨i, t, rfl, rfl⟩ | ⟨x, t, rfl, rfl⟩
    · rcases keyIs_shape hb with ⟨j, u, rfl, e⟩ | ⟨y, u, rfl, e⟩
      · injection e with e1 _; rw [e1]
      · exact nomatch e
    · rcases keyIs_shape hb with ⟨j, u, rfl, e⟩ | ⟨y, u, rfl, e⟩
      · exact nomatch e
      · injection e with e1 _; rw [e1]
  byValue := fun k v h => by
    rcases keyIs_shape h with ⟨i, t, rfl, rfl⟩ | ⟨x, t, rfl, rfl⟩ <;> rfl
  pyHash := fun hv h => by
    rcases keyIs_shape hv with ⟨i, t, rfl, rfl⟩ | ⟨x, t, rfl, rfl⟩
    · exact wpAny_pyHash_int h
    · exact wpAny_pyHash_str h
  eqBool := fun hu hv h => by
    rcases keyIs_shape hu with ⟨i, t, rfl, rfl⟩ | ⟨x, t, rfl, rfl⟩
    · rcases keyIs_shape hv with ⟨j, u, rfl, rfl⟩ | ⟨y, u, rfl, rfl⟩
      · rw [key_ll] at h; exact wpAny_eqBool_int h
      · rw [key_lr] at h; exact SeqAt.EqAt.int_str i t y u _ _ _ _ h
    · rcases keyIs_shape hv with ⟨j, u, rfl, rfl⟩ | ⟨y, u, rfl, rfl⟩
      · rw [key_rl] at h; exact SeqAt.EqAt.str_int x t j u _ _ _ _ h
      · rw [key_rr] at h; exact wpAny_eqBool_str h
  «strs» := fun k x t v h => by
    rcases keyIs_shape h with ⟨i, u, rfl, e⟩ | ⟨y, u, rfl, e⟩
    · exact nomatch e
    · injection e with e1 _
      subst e1
      cases v <;> rfl

theorem mixKind_is (prog : Program) (w : World) (k : Key) (v : Value) : (mixKind prog w).is k v = keyIs k v := rfl
theorem mixKind_int (prog : Program) (w : World) (i : Int) (t : Tok) : (mixKind prog w).is (.inl i) (.int i t) = true := keyIs_int i t
theorem mixKind_str (prog : Program) (w : World) (x : Str) (t : Tok) : (mixKind prog w).is (.inr x) (.str x t) = true := keyIs_str x t
end L2

namespace L2
open PySem PySem.Spec PyProof.Rows

/-- a value, without the heap -/
inductive V where
  | non | bl (b : Bool) | int (i : Int) | str (x : Str) | byt (b : Array UInt8) | flt (b : UInt64) | ref (a : Addr) | ty (n : String)
  deriving DecidableEq

def RelV : V → Value → Prop
  | .non, u => u = Value.none
  | .bl b, u => u = Value.bool b
  | .int i, u => ∃ t, u = Value.int i t
  | .str x, u => ∃ t, u = Value.str x t
  | .byt b, u => ∃ t, u = Value.bytes b t
  | .flt b, u => ∃ t, u = Value.float b t
  | .ref a, u => u = Value.ref a
  | .ty n, u => u = Value.type n

abbrev Vals : List V → List Value → Prop := Paired RelV
theorem Vals.length {xs : List V} {us : List Value} (r : Vals xs us) : xs.length = us.length := Paired.length r
theorem Vals.get : ∀ {xs : List V} {us : List Value} {i : Nat} {x : V}, Vals xs us → xs[i]? = some x → ∃ u, us[i]? = some u ∧ RelV x u
  | _, _, _, _, .nil, e => by simp at e
  | _, _, 0, _, .cons r _, e => by simp at e; subst e; exact ⟨_, rfl, r⟩
  | _, _, i + 1, x, .cons _ t, e => by
    obtain ⟨u, h1, h2⟩ := Vals.get (i := i) (x := x) t (by simpa using e)
    exact ⟨u, by simpa using h1, h2⟩
theorem Vals.set {x : V} {u : Value} (r : RelV x u) : ∀ {xs : List V} {us : List Value} (i : Nat), Vals xs us → Vals (xs.set i x) (us.set i u)
  | _, _, _, .nil => .nil
  | _, _, 0, .cons _ t => .cons r t
  | _, _, i + 1, .cons q t => .cons q (Vals.set r i t)
theorem Vals.append : ∀ {xs ys : List V} {us ws : List Value}, Vals xs us → Vals ys ws → Vals (xs ++ ys) (us ++ ws)
  | _, _, _, _, .nil, s => s
  | _, _, _, _, .cons r t, s => .cons r (Vals.append t s)
theorem Vals.take : ∀ {xs : List V} {us : List Value} (n : Nat), Vals xs us → Vals (xs.take n) (us.take n)
  | _, _, 0, _ => .nil
  | _, _, _ + 1, .nil => .nil
  | _, _, n + 1, .cons r t => .cons r (Vals.take n t)
theorem Vals.drop : ∀ {xs : List V} {us : List Value} (n : Nat), Vals xs us → Vals (xs.drop n) (us.drop n)
  | _, _, 0, r => r
  | _, _, _ + 1, .nil => .nil
  | _, _, n + 1, .cons _ t => Vals.drop n t
theorem Vals.none_of : ∀ {xs : List V} {us : List Value} {i : Nat}, Vals xs us → xs[i]? = none → us[i]? = none := fun {xs us i} r e => by
  have h1 := r.length
  have h2 : xs.length ≤ i := List.getElem?_eq_none_iff.mp e
  exact List.getElem?_eq_none_iff.mpr (by omega)

def RelO : Option V → Option Value → Prop
  | some v, some u => RelV v u
  | none, none => True
  | _, _ => False
def KV {κ : Type} : List (κ × V) → List (κ × Value) → Prop := Paired fun (p : κ × V) (q : κ × Value) => p.1 = q.1 ∧ RelV p.2 q.2

/-- a key of a dict (00_mix): an int or a text -/
def kV : Key → V
  | .inl i => .int i
  | .inr x => .str x

/-- what stands at a tracked address -/
inductive HO where
  /-- a list -/
  | lst (xs : List V)
  /-- a tuple (never changes) -/
  | tup (xs : List V)
  /-- a dict whose keys are ints and texts; one whose keys are tuples of ints and texts (the empty one is both) -/
  | dK (kvs : List (Key × V)) | dT (kvs : List (List Key × V))
  /-- a set of ints: its members, its size -/
  | set (S : Int → Bool) (n : Nat)
  /-- an instance of the class at C, its dict at dx, its attributes -/
  | ins (C dx : Addr) (fs : List (Str × V))
  /-- the dict of the instance at x -/
  | own (x : Addr)
  /-- the dict of an exception -/
  | xd (fs : List (Str × V))
  /-- a bound method, f of x -/
  | met (f x : Addr)
  /-- a range object lo, lo + 1, .. below hi -/
  | rng (lo hi : Int)
  /-- a thing that is known to the object (the script; a dict while a loop walks it): read, never written while it is so -/
  | frz (o : Obj) (u : HO)
  /-- a code object's table -/
  | tbl (ps : Array Value)
  /-- any other thing, by what is true of its one object (a def of one's own: SetO a S n := HO.ext fun h => ..) -/
  | ext (φ : Heap → Prop)

abbrev Hp := Addr → Option HO
def upd (H : Hp) (a : Addr) (o : HO) : Hp := fun b => if b = a then some o else H b
theorem upd_same {H : Hp} {a : Addr} {o : HO} : upd H a o a = some o := by unfold upd; rw [if_pos rfl]
theorem upd_ne {H : Hp} {a b : Addr} {o : HO} (h : b ≠ a) : upd H a o b = H b := by unfold upd; rw [if_neg h]
theorem upd_upd {H : Hp} {a : Addr} {o u : HO} : upd (upd H a o) a u = upd H a u := by
  funext b; unfold upd; split <;> rfl
/-- two objects of different content stand apart -/
theorem ne_of {H : Hp} {a b : Addr} {o u : HO} (h : H a = some o) (h' : H b = some u) (d : o ≠ u) : a ≠ b := by
  intro e; subst e; rw [h] at h'; exact d (Option.some.inj h')
theorem ne_of_none {H : Hp} {a b : Addr} {o : HO} (h : H a = some o) (h' : H b = none) : a ≠ b := by
  intro e; subst e; rw [h] at h'; cases h'

section
variable (P : Program) (w : World)
def ObjOk (H : Hp) (h : Heap) (a : Addr) : HO → Prop
  | .lst xs => xs.length ≤ sizeLine ∧ ∃ (its : List Value) (n : Nat), Vals xs its ∧ h.get? a = some { cls := .type "list", data := .seq its.toArray n }
  | .tup xs => xs.length ≤ sizeLine ∧ ∃ its : List Value, Vals xs its ∧ IsTup h a its.toArray
  | .dK kvs => kvs.length ≤ sizeLine ∧ (a == sysModules) = false ∧ ∃ vs, KV kvs vs ∧ h.DictOf (mixKind P w) a vs
  | .dT kvs => kvs.length ≤ sizeLine ∧ (a == sysModules) = false ∧ ∃ xs : List (List Key × Addr × Value),
      Paired (fun (p : List Key × V) (q : List Key × Addr × Value) => p.1 = q.1 ∧ H q.2.1 = some (.tup (p.1.map kV)) ∧ RelV p.2 q.2.2) kvs xs ∧
      ∃ o es ep, h.get? a = some o ∧ o.ExactDict ∧ o.data = .dict es ep ∧ es.toList = xs.map (entryOfKey (tupleKind (mixKind P w))) ∧ (xs.map (·.1)).Nodup
  | .set S n => h.SetOf (intKind P w) a S n
  | .ins C dx fs => H dx = some (.own a) ∧ fs.length ≤ 1000 ∧ dx ≠ a ∧ h.get? a = some (PySem.W.instObj C dx) ∧
      ∃ mA, h.Ns1 dx mA ∧ (∀ f, RelO (fs.lookup f) (mA f)) ∧ PySem.Within mA (fs.map (·.1))
  | .own _ => ∃ o, h.get? a = some o
  | .xd fs => ∃ mA, h.Ns1 a mA ∧ ∀ f, RelO (fs.lookup f) (mA f)
  | .rng lo hi => ∃ t u v, h.get? a = some { cls := .type "range", data := .fields #[.int lo t, .int hi u, .int 1 v] }
  | .frz o u => h.get? a = some o ∧ ObjOk H h a u
  | .tbl ps => h.get? a = some { cls := .none, data := .fields ps }
  | .met f x => h.get? a = some (PySem.W.methodObj (.ref f) (.ref x))
  | .ext φ => φ h ∧ (∃ o, h.get? a = some o) ∧ ∀ h1 h2 : Heap, φ h1 → (∀ o, h1.get? a = some o → h2.get? a = some o) → φ h2
/-- the abstract heap is held -/
def HOk (H : Hp) (h : Heap) : Prop := ∀ a o, H a = some o → ObjOk P w H h a o
end

section
variable {P : Program} {w : World} {H H' : Hp} {h h' : Heap} {a : Addr} {o : HO}
theorem ObjOk.lt (x : ObjOk P w H h a o) : a < h.objs.size := by
  cases o with
  | lst xs => obtain ⟨_, _, _, _, e⟩ := x; exact Heap.lt_size e
  | tup xs => obtain ⟨_, _, _, p⟩ := x; exact p.lt
  | dK kvs => obtain ⟨_, _, _, _, o, _, _, e, _⟩ := x; exact Heap.lt_size e
  | dT kvs => obtain ⟨_, _, _, _, o, _, _, e, _⟩ := x; exact Heap.lt_size e
  | set S n => obtain ⟨o, _, _, _, e, _⟩ := x; exact Heap.lt_size e
  | ins C dx fs => obtain ⟨_, _, _, e, _⟩ := x; exact Heap.lt_size e
  | own y => obtain ⟨_, e⟩ := x; exact Heap.lt_size e
  | xd fs => obtain ⟨_, ⟨_, _, _, e, _⟩, _⟩ := x; exact Heap.lt_size e
  | rng lo hi => obtain ⟨_, _, _, e⟩ := x; exact Heap.lt_size e
  | frz ob u => obtain ⟨e, _⟩ := x; exact Heap.lt_size e
  | tbl ps => exact Heap.lt_size (show h.get? a = some _ from x)
  | met f y => exact Heap.lt_size (show h.get? a = some _ from x)
  | ext φ => obtain ⟨_, ⟨_, e⟩, _⟩ := x; exact Heap.lt_size e
theorem Paired.mapP {α β : Type} {F G : α → β → Prop} : ∀ {l₁ : List α} {l₂ : List β}, Paired F l₁ l₂ → (∀ a b, F a b → G a b) → Paired G l₁ l₂
  | _, _, .nil, _ => .nil
  | _, _, .cons r t, f => .cons (f _ _ r) (Paired.mapP t f)
theorem Paired.imp' {α β : Type} {F G : α → β → Prop} (f : ∀ a b, F a b → G a b) {l₁ : List α} {l₂ : List β} (r : Paired F l₁ l₂) : Paired G l₁ l₂ := Paired.mapP r f
/-- what an object's description leans on: its own object, its own dict, the tuples -/
theorem ObjOk.stay (x : ObjOk P w H h a o) (k : ∀ b u, (b = a ∨ H b = some (.own a)) → h.get? b = some u → h'.get? b = some u)
    (ho : ∀ b, H b = some (.own a) → H' b = some (.own a)) (ht : ∀ b xs, H b = some (.tup xs) → H' b = some (.tup xs)) : ObjOk P w H' h' a o := by
  induction o with
  | lst xs => obtain ⟨z, its, n, r, e⟩ := x; exact ⟨z, its, n, r, k _ _ (.inl rfl) e⟩
  | tup xs => obtain ⟨z, its, r, ob, e, c⟩ := x; exact ⟨z, its, r, ob, k _ _ (.inl rfl) e, c⟩
  | dK kvs => obtain ⟨z, y, vs, r, ob, es, ep, e, c⟩ := x; exact ⟨z, y, vs, r, ob, es, ep, k _ _ (.inl rfl) e, c⟩
  | dT kvs =>
    obtain ⟨z, y, xs, r, ob, es, ep, e, c⟩ := x
    exact ⟨z, y, xs, Paired.mapP r fun p q z => ⟨z.1, ht _ _ z.2.1, z.2.2⟩, ob, es, ep, k _ _ (.inl rfl) e, c⟩
  | set S n => obtain ⟨ob, es, ep, t, e, c⟩ := x; exact ⟨ob, es, ep, t, k _ _ (.inl rfl) e, c⟩
  | ins C dx fs =>
    obtain ⟨d, z, ne, e, mA, ⟨od, es, ep, e2, c⟩, r⟩ := x
    exact ⟨ho _ d, z, ne, k _ _ (.inl rfl) e, mA, ⟨od, es, ep, k _ _ (.inr d) e2, c⟩, r⟩
  | own y => obtain ⟨ob, e⟩ := x; exact ⟨ob, k _ _ (.inl rfl) e⟩
  | xd fs => obtain ⟨mA, ⟨od, es, ep, e, c⟩, r⟩ := x; exact ⟨mA, ⟨od, es, ep, k _ _ (.inl rfl) e, c⟩, r⟩
  | rng lo hi => obtain ⟨t, u, v, e⟩ := x; exact ⟨t, u, v, k _ _ (.inl rfl) e⟩
  | frz ob u ih => obtain ⟨e, q⟩ := x; exact ⟨k _ _ (.inl rfl) e, ih q⟩
  | tbl ps =>
    have e : h.get? a = some { cls := .none, data := .fields ps } := x
    show h'.get? a = some { cls := .none, data := .fields ps }
    exact k a _ (.inl rfl) e
  | met f y =>
    have e : h.get? a = some (PySem.W.methodObj (.ref f) (.ref y)) := x
    show h'.get? a = some (PySem.W.methodObj (.ref f) (.ref y))
    exact k a _ (.inl rfl) e
  | ext φ => obtain ⟨p, ⟨o, e⟩, st⟩ := x; exact ⟨st _ _ p fun o q => k _ _ (.inl rfl) q, ⟨o, k _ _ (.inl rfl) e⟩, st⟩
theorem HOk.lt (x : HOk P w H h) (e : H a = some o) : a < h.objs.size := (x a o e).lt
theorem HOk.fresh (x : HOk P w H h) (e : h.objs.size ≤ a) : H a = none := by
  cases q : H a with
  | none => rfl
  | some u => exact absurd (Nat.lt_of_lt_of_le (x.lt q) e) (Nat.lt_irrefl _)
/-- every object of the heap is kept -/
theorem HOk.kept (x : HOk P w H h) (k : ∀ b u, h.get? b = some u → h'.get? b = some u) : HOk P w H h' := fun a o e =>
  (x a o e).stay (fun b u _ q => k b u q) (fun _ q => q) fun _ _ q => q
/-- a new object is laid and tracked -/
theorem HOk.laid (x : HOk P w H h) (k : ∀ b u, h.get? b = some u → h'.get? b = some u) (hp : h.objs.size ≤ a) (new : ObjOk P w (upd H a o) h' a o) : HOk P w (upd H a o) h' := fun b u e => by
  have hn := x.fresh hp
  by_cases hb : b = a
  · subst hb; rw [upd_same] at e; cases e; exact new
  · rw [upd_ne hb] at e
    exact (x b u e).stay (fun c v _ q => k c v q) (fun c q => by rw [upd_ne (ne_of_none q hn)]; exact q) fun c xs q => by rw [upd_ne (ne_of_none q hn)]; exact q
end

/-- what may be read as u: it is u, or a known u -/
def Rd (H : Hp) (a : Addr) (u : HO) : Prop := H a = some u ∨ ∃ o, H a = some (.frz o u)
theorem Rd.of {H : Hp} {a : Addr} {u : HO} (h : H a = some u) : Rd H a u := .inl h
theorem Rd.ok {P : Program} {w : World} {H : Hp} {h : Heap} {a : Addr} {u : HO} (r : Rd H a u) (x : HOk P w H h) : ObjOk P w H h a u := by
  rcases r with r | ⟨o, r⟩
  · exact x a u r
  · obtain ⟨_, q⟩ := x a _ r
    exact q
/-- what may be written -/
def Mut : Option HO → Prop
  | some (.lst _) => True
  | some (.dK _) => True
  | some (.dT _) => True
  | some (.set _ _) => True
  | some (.ins _ _ _) => True
  | some (.ext _) => True
  | _ => False
section
variable {P : Program} {w : World} {H : Hp} {h h' : Heap} {x e : Addr} {o' : HO}
/-- the object at e is changed: x itself, or the dict of the instance x -/
theorem HOk.write (ok : HOk P w H h) (mu : Mut (H x)) (he : e = x ∨ H e = some (.own x)) (k : ∀ b u, b ≠ e → h.get? b = some u → h'.get? b = some u) (heo : ∃ u, h'.get? e = some u)
    (new : ObjOk P w (upd H x o') h' x o') : HOk P w (upd H x o') h' := fun b u q => by
  have nown : ∀ c y, H c = some (.own y) → c ≠ x := fun c y r z => by subst z; rw [r] at mu; exact mu
  have ntup : ∀ c xs, H c = some (.tup xs) → c ≠ x := fun c xs r z => by subst z; rw [r] at mu; exact mu
  by_cases hb : b = x
  · subst hb; rw [upd_same] at q; cases q; exact new
  · rw [upd_ne hb] at q
    by_cases hbe : b = e
    · have q' : H b = some (.own x) := by
        rcases he with z | z
        · exact absurd (hbe.trans z) hb
        · rw [hbe]; exact z
      rw [q] at q'; cases q'
      obtain ⟨v, hv⟩ := heo
      exact ⟨v, by rw [hbe]; exact hv⟩
    · refine (ok b u q).stay (fun c v hc r => k c v ?_ r) (fun c r => by rw [upd_ne (nown c b r)]; exact r) fun c xs r => by rw [upd_ne (ntup c xs r)]; exact r
      rcases hc with rfl | hc
      · exact hbe
      · rintro rfl
        rcases he with z | z
        · exact nown c b hc z
        · rw [hc] at z; cases z; exact hb rfl
end

/-! ### kept unless tracked; of the frames at fs (the callers') the slots may change (an exception that passes writes there); of the records at ex (iterators) nothing is said -/
structure Un (fs ex : List Addr) (H H' : Hp) (h h' : Heap) : Prop where
  keep : ∀ b o, h.get? b = some o → H b = none → b ∉ fs → b ∉ ex → h'.get? b = some o
  slot : ∀ b o, h.get? b = some o → H b = none → b ∈ fs → b ∉ ex → ∃ sl, h'.get? b = some { o with slots := sl }
  free : ∀ b o, h.get? b = some o → H b = none → b ∉ ex → H' b = none
  there : ∀ b o, h.get? b = some o → b ∉ ex → ∃ o', h'.get? b = some o'
  tups : ∀ b xs, H b = some (.tup xs) → H' b = some (.tup xs)
  frzs : ∀ b o u, H b = some (.frz o u) → H' b = some (.frz o u)
  tbls : ∀ b ps, H b = some (.tbl ps) → ∃ more, H' b = some (.tbl (ps ++ more))
section
variable {fs fs' ex ex' : List Addr} {H H1 H2 : Hp} {h h1 h2 h' : Heap} {a x e : Addr} {o : HO}
theorem Un.any (u : Un fs ex H H1 h h1) {b : Addr} {ob : Obj} (q : h.get? b = some ob) (n : H b = none) (hx : b ∉ ex) : ∃ sl, h1.get? b = some { ob with slots := sl } := by
  by_cases hb : b ∈ fs
  · exact u.slot b ob q n hb hx
  · exact ⟨ob.slots, u.keep b ob q n hb hx⟩
theorem Un.trans (a : Un fs ex H H1 h h1) (b : Un fs ex H1 H2 h1 h2) : Un fs ex H H2 h h2 where
  keep := fun c ob q n hc hx => b.keep c ob (a.keep c ob q n hc hx) (a.free c ob q n hx) hc hx
  slot := fun c ob q n hc hx => by
    obtain ⟨sl, e1⟩ := a.slot c ob q n hc hx
    obtain ⟨sl', e2⟩ := b.slot c _ e1 (a.free c ob q n hx) hc hx
    exact ⟨sl', e2⟩
  free := fun c ob q n hx => by
    obtain ⟨o', e1⟩ := a.there c ob q hx
    exact b.free c o' e1 (a.free c ob q n hx) hx
  there := fun c ob q hx => by
    obtain ⟨o', e1⟩ := a.there c ob q hx
    exact b.there c o' e1 hx
  tups := fun c xs q => b.tups c xs (a.tups c xs q)
  frzs := fun c ob xs q => b.frzs c ob xs (a.frzs c ob xs q)
  tbls := fun c ps q => by
    obtain ⟨m1, e1⟩ := a.tbls c ps q
    obtain ⟨m2, e2⟩ := b.tbls c _ e1
    exact ⟨m1 ++ m2, by rw [e2, Array.append_assoc]⟩
theorem Un.kept (k : ∀ b u, h.get? b = some u → h'.get? b = some u) : Un fs ex H H h h' :=
  ⟨fun b ob q _ _ _ => k b ob q, fun b ob q _ _ _ => ⟨ob.slots, k b ob q⟩, fun _ _ _ n _ => n, fun b ob q _ => ⟨ob, k b ob q⟩, fun _ _ q => q, fun _ _ _ q => q, fun _ ps q => ⟨#[], by rw [q]; simp⟩⟩
theorem Un.refl : Un fs ex H H h h := Un.kept fun _ _ q => q
theorem Un.laid (k : ∀ b u, h.get? b = some u → h'.get? b = some u) (hp : h.objs.size ≤ a) (hn : H a = none) : Un fs ex H (upd H a o) h h' where
  keep := fun b u q _ _ _ => k b u q
  slot := fun b u q _ _ _ => ⟨u.slots, k b u q⟩
  free := fun b u q n _ => by rw [upd_ne (Nat.ne_of_lt (Nat.lt_of_lt_of_le (Heap.lt_size q) hp))]; exact n
  there := fun b u q _ => ⟨u, k b u q⟩
  tups := fun b xs q => by rw [upd_ne (ne_of_none q hn)]; exact q
  frzs := fun b u xs q => by rw [upd_ne (ne_of_none q hn)]; exact q
  tbls := fun b ps q => ⟨#[], by rw [upd_ne (ne_of_none q hn), q]; simp⟩
theorem Un.write (mu : Mut (H x)) (he : e = x ∨ H e = some (.own x)) (k : ∀ b u, b ≠ e → h.get? b = some u → h'.get? b = some u) (heo : ∃ u, h'.get? e = some u) : Un fs ex H (upd H x o) h h' := by
  have hx : ∀ b, H b = none → b ≠ x := fun b n z => by subst z; rw [n] at mu; exact mu
  have hb : ∀ b, H b = none → b ≠ e := fun b n z => by
    subst z
    rcases he with r | r
    · exact hx b n r
    · rw [n] at r; cases r
  have hm : ∀ b u, H b = some u → ¬ Mut (some u) → b ≠ x := fun b u q nm z => by subst z; rw [q] at mu; exact nm mu
  refine ⟨fun b u q n _ _ => k b u (hb b n) q, fun b u q n _ _ => ⟨u.slots, k b u (hb b n) q⟩, fun b u q n _ => by rw [upd_ne (hx b n)]; exact n, fun b u q _ => ?_,
    fun b xs q => by rw [upd_ne (hm b _ q fun z => z)]; exact q, fun b u xs q => by rw [upd_ne (hm b _ q fun z => z)]; exact q, fun b ps q => ⟨#[], by rw [upd_ne (hm b _ q fun z => z), q]; simp⟩⟩
  by_cases hbe : b = e
  · subst hbe; exact heo
  · exact ⟨u, k b u hbe q⟩
theorem Un.mono (u : Un fs ex H H1 h h1) (hs : ∀ b ∈ fs, b ∈ fs') (hx : ∀ b ∈ ex, b ∈ ex') : Un fs' ex' H H1 h h1 :=
  ⟨fun b ob q n hb he => u.keep b ob q n (fun z => hb (hs b z)) fun z => he (hx b z), fun _ _ q n _ he => u.any q n fun z => he (hx _ z), fun b ob q n he => u.free b ob q n fun z => he (hx b z), fun b ob q he => u.there b ob q fun z => he (hx b z), u.tups, u.frzs, u.tbls⟩
end

/-! ### the heap without what is tracked -/
def trk (h : Heap) (H : Hp) : List Addr := (List.range h.objs.size).filter fun a => (H a).isSome
def hidT (h : Heap) (H : Hp) : Heap := PySem.W.hideAll h (trk h H)
theorem hidT_size (h : Heap) (H : Hp) : (hidT h H).objs.size = h.objs.size := PySem.W.hideAll_size _ _
theorem hidT_get {h : Heap} {H : Hp} {b : Addr} {o : Obj} (e : h.get? b = some o) (n : H b = none) : (hidT h H).get? b = some o :=
  PySem.W.hideAll_get _ e fun hm => by
    have q : (H b).isSome = true := (List.mem_filter.mp hm).2
    rw [n] at q; simp at q
theorem of_hidT {h : Heap} {H : Hp} {b : Addr} {o : Obj} (e : (hidT h H).get? b = some o) : h.get? b = some o ∧ H b = none := by
  have e' : h.get? b = some o := PySem.W.of_hideAll (trk h H) e
  refine ⟨e', ?_⟩
  cases q : H b with
  | none => rfl
  | some x =>
    have hm : b ∈ trk h H := List.mem_filter.mpr ⟨List.mem_range.mpr (Heap.lt_size e'), by simp [q]⟩
    have z : (hidT h H).get? b = none := PySem.W.hideAll_none (trk h H) hm
    rw [z] at e; cases e

/-! ### OpenK's ledger, filled with every new object but one -/
def allNews (g h : Heap) (L : Addr) : List (Addr × Obj) := (List.range h.objs.size).filterMap fun a => if a = L ∨ (g.get? a).isSome = true then none else (h.get? a).map fun o => (a, o)
theorem mem_allNews {g h : Heap} {L a : Addr} {o : Obj} (h1 : a ≠ L) (h2 : g.get? a = none) (h3 : h.get? a = some o) : (a, o) ∈ allNews g h L :=
  List.mem_filterMap.mpr ⟨a, List.mem_range.mpr (Heap.lt_size h3), by simp [h1, h2, h3]⟩
theorem of_mem_allNews {g h : Heap} {L : Addr} {p : Addr × Obj} (hp : p ∈ allNews g h L) : p.1 ≠ L ∧ g.get? p.1 = none ∧ h.get? p.1 = some p.2 := by
  obtain ⟨b, _, e⟩ := List.mem_filterMap.mp hp
  split at e
  · cases e
  · rename_i hn
    cases q : h.get? b with
    | none => rw [q] at e; simp at e
    | some u =>
      rw [q] at e
      simp only [Option.map_some, Option.some.injEq] at e
      subst e
      refine ⟨fun z => hn (.inl z), ?_, q⟩
      show g.get? b = none
      cases r : g.get? b with
      | none => rfl
      | some v => exact (hn (.inr (by simp [r]))).elim
def rest (g h : Heap) (L d : Addr) : List (Addr × Obj) := (allNews g h L).filter fun p => decide (p.1 ≠ d)
theorem rest_ne {g h : Heap} {L d : Addr} : ∀ p ∈ rest g h L d, p.1 ≠ d := fun p hp => of_decide_eq_true (List.mem_filter.mp hp).2
theorem mem_rest {g h : Heap} {L d a : Addr} {o : Obj} (h1 : a ≠ L) (h2 : g.get? a = none) (h3 : h.get? a = some o) (h4 : a ≠ d) : (a, o) ∈ rest g h L d :=
  List.mem_filter.mpr ⟨mem_allNews h1 h2 h3, decide_eq_true h4⟩
theorem news_all {g h : Heap} {L : Addr} : News g L h (allNews g h L) := fun p hp => let ⟨a, b, c⟩ := of_mem_allNews hp; ⟨c, a, b⟩
theorem news_at {g h : Heap} {L d : Addr} {o : Obj} (h1 : d ≠ L) (h2 : g.get? d = none) (h3 : h.get? d = some o) : News g L h ((d, o) :: rest g h L d) := fun p hp => by
  rcases List.mem_cons.mp hp with rfl | hp
  · exact ⟨h3, h1, h2⟩
  · exact news_all p (List.mem_filter.mp hp).1
/-- behind a rule that changed d alone: all else but the frame is kept -/
theorem kept_of_news {g h h' : Heap} {L d : Addr} {m : Str → Option Value} (k : ∀ b o, g.get? b = some o → h.get? b = some o) (F : Fr g L h' m) (N : News g L h' (rest g h L d)) :
    ∀ b o, b ≠ L → b ≠ d → h.get? b = some o → h'.get? b = some o := fun b o h1 h2 e => by
  cases q : g.get? b with
  | some u =>
    have := k b u q
    rw [e] at this; cases this
    exact F.keep b _ q
  | none => exact (N (b, o) (mem_rest h1 q e h2)).1
end L2

namespace L2
open PySem PySem.Spec PyProof.Rows

/-- the module's facts, over the base: the heap at the law's entry without what is tracked there -/
structure Mod (K : PySem.W.Frag) (mg : Str → Option Value) (base : Heap) : Prop where
  kin : K.In base
  glob : base.Ns mainGlobals mg
  blt : ∃ mb, base.Ns builtinsNs mb ∧ ∀ x : Str, x ≠ "__name__" → mb x = bootBuiltins x
  nolimit : base.NoLimit

/-- the context: a def's body (or a comprehension's block) running. base: fixed through the whole law; s₀, H₀: the entry; outer: the frames whose slots others may change (a def's callers); stack: all frames that run;
   ex: iterators that were made ahead of the entry and are walked here (a comprehension's); fn: the names whose cells were made at the entry (a def: all; a comprehension's block: its own); calm: not within an except suite; pn: pins that every state bears; xe: what is wanted of an exception that leaves the code -/
structure Cx where
  prog : Program
  w : World
  K : PySem.W.Frag
  mg : Str → Option Value
  base : Heap
  A : Around
  N : List Str
  s₀ : Shared
  H₀ : Hp
  env : Env
  outer : List Env
  stack : List Env
  ex : List Addr
  fn : Str → Bool
  calm : Bool
  pn : List (Addr × Obj)
  xe : Value → Shared → Prop
/-- the callers' frames -/
def frs (l : List Env) : List Addr := l.filterMap (·.frame)
abbrev Cx.fs (X : Cx) : List Addr := frs X.outer

def Vis (sc : Scope) (x : Str) : Prop := sc.names.lookup x = some .local ∨ sc.names.lookup x = some .cell ∨ sc.names.lookup x = some .free
def Loc (sc : Scope) (x : Str) : Prop := sc.names.lookup x = some .local ∨ sc.names.lookup x = some .cell
def Look (env : Env) (h : Heap) (m : Str → Option Value) (x : Str) (u : Value) : Prop :=
  (env.kindOf x = some .local ∧ m x = some u) ∨ ((env.kindOf x = some .cell ∨ env.kindOf x = some .free) ∧ ∃ c, env.cells.lookup x = some c ∧ h.IsCell c (some u))

structure Cx.Ok (X : Cx) : Prop where
  mod : Mod X.K X.mg X.base
  kind : X.env.scope.kind = .function
  glob : X.env.globals = mainGlobals
  blt : X.env.builtins = builtinsNs
  above : X.s₀.heap.objs.size ≤ X.env.locals
  inj : ∀ x y c, X.env.cells.lookup x = some c → X.env.cells.lookup y = some c → x = y
  has : ∀ x, (X.env.kindOf x = some .cell ∨ X.env.kindOf x = some .free) → ∃ c, X.env.cells.lookup x = some c
  cab : ∀ x c, X.fn x = true → X.env.cells.lookup x = some c → X.s₀.heap.objs.size ≤ c
  hd : X.calm = true → X.A.handled = none
  frames : X.A.frames = some X.stack
  stk : X.stack = X.outer ∨ (X.stack = X.env :: X.outer ∧ X.env.frame = some X.env.locals)
  exf : ∀ b ∈ X.ex, b ≠ X.env.locals ∧ ∀ x c, X.env.cells.lookup x = some c → c ≠ b
  bs : ∀ b o, X.base.get? b = some o → X.s₀.heap.get? b = some o ∧ X.H₀ b = none
  bsz : X.base.objs.size ≤ X.s₀.heap.objs.size
  noex : ∀ b o, X.base.get? b = some o → b ∉ X.ex
  exfs : ∀ b ∈ X.ex, b ∉ X.fs
  funs : X.s₀.heap.FunFrames X.base X.outer
  frf : ∀ b ∈ X.fs, X.H₀ b = none

structure Inv (X : Cx) (pins : List (Addr × Obj)) (σ : List (Option V)) (H : Hp) (s : Shared) : Prop where
  ok : X.Ok
  os : s.os = X.s₀.os
  bare : AllBare s.gens
  base : Un X.fs X.ex X.H₀ H X.s₀.heap s.heap
  loc : ∃ m, s.heap.Ns X.env.locals m ∧ ∀ (i : Nat) (x : Str) (v : V), X.N[i]? = some x → σ[i]? = some (some v) → Vis X.env.scope x → ∃ u, RelV v u ∧ Look X.env s.heap m x u
  cell : ∀ x c, X.env.cells.lookup x = some c → ∃ v, s.heap.IsCell c v
  free : H X.env.locals = none
  freeC : ∀ x c, X.env.cells.lookup x = some c → H c = none
  pin : ∀ p ∈ X.pn ++ pins, s.heap.get? p.1 = some p.2 ∧ H p.1 = none ∧ p.1 ≠ X.env.locals ∧ p.1 ∉ X.fs ∧ ∀ v, p.2.data ≠ .cell v
  hok : HOk X.prog X.w H s.heap
  len : σ.length = X.N.length

section
variable {X : Cx} {pins : List (Addr × Obj)} {σ : List (Option V)} {H H' : Hp} {s : Shared} {h' : Heap}

theorem Cx.Ok.nofr (ok : X.Ok) {b : Addr} {o : Obj} (e : X.base.get? b = some o) : b ∉ X.fs := fun hb => by
  have := (ok.funs.mem hb).1
  rw [e] at this; cases this
theorem Inv.bs (I : Inv X pins σ H s) : ∀ b o, X.base.get? b = some o → s.heap.get? b = some o ∧ H b = none := fun b o e =>
  ⟨I.base.keep b o (I.ok.bs b o e).1 (I.ok.bs b o e).2 (I.ok.nofr e) (I.ok.noex b o e), I.base.free b o (I.ok.bs b o e).1 (I.ok.bs b o e).2 (I.ok.noex b o e)⟩
theorem Inv.bk (I : Inv X pins σ H s) : ∀ b o, X.base.get? b = some o → s.heap.get? b = some o := fun b o e => (I.bs b o e).1
theorem Inv.mod (I : Inv X pins σ H s) : Mod X.K X.mg X.base := I.ok.mod
theorem Inv.kIn (I : Inv X pins σ H s) : X.K.In s.heap := I.ok.mod.kin.keeps I.bk
theorem Inv.nolimit (I : Inv X pins σ H s) : s.heap.NoLimit := I.ok.mod.nolimit.keeps I.bk
/-- the frame over the base: for OpenK's rules (K.In X.base is I.mod.kin) -/
theorem Inv.fr (I : Inv X pins σ H s) : ∃ m, Fr X.base X.env.locals s.heap m :=
  let ⟨m, hn, _⟩ := I.loc
  ⟨m, hn, I.bk, Nat.le_trans I.ok.bsz I.ok.above⟩
theorem Inv.lt (I : Inv X pins σ H s) : X.env.locals < s.heap.objs.size := let ⟨_, hn, _⟩ := I.loc; hn.lt
theorem Inv.sz (I : Inv X pins σ H s) : X.s₀.heap.objs.size ≤ s.heap.objs.size := Nat.le_trans I.ok.above (Nat.le_of_lt I.lt)
theorem Inv.nofs (I : Inv X pins σ H s) {a : Addr} (h : s.heap.objs.size ≤ a) : a ∉ X.fs := fun hb => by
  obtain ⟨_, o, ho, _⟩ := I.ok.funs.mem hb
  exact absurd (Nat.lt_of_lt_of_le (Heap.lt_size ho) (Nat.le_trans I.sz h)) (Nat.lt_irrefl _)
theorem Inv.cne (I : Inv X pins σ H s) : ∀ x c, X.env.cells.lookup x = some c → c ≠ X.env.locals := fun x c e z => by
  obtain ⟨v, o, ho, hd⟩ := I.cell x c e
  obtain ⟨m, ⟨o', es, ep, ho', hd', _⟩, _⟩ := I.loc
  rw [z, ho'] at ho; cases ho; rw [hd'] at hd; cases hd
theorem Inv.funs (I : Inv X pins σ H s) : s.heap.FunFrames X.base X.outer := by
  have all : ∀ (l : List Env), (∀ b ∈ frs l, b ∈ X.fs) → X.s₀.heap.FunFrames X.base l → s.heap.FunFrames X.base l := by
    intro l
    induction l with
    | nil => intro _ _; trivial
    | cons env r ih =>
      intro hs hl
      obtain ⟨hk, ⟨L, o, hf, hn, ho, hd⟩, hr⟩ := hl
      have hL : L ∈ X.fs := hs L (by unfold frs; rw [List.filterMap_cons, hf]; exact List.mem_cons_self)
      obtain ⟨sl, e⟩ := I.base.slot L o ho (I.ok.frf L hL) hL fun z => I.ok.exfs L z hL
      exact ⟨hk, ⟨L, _, hf, hn, e, hd⟩, ih (fun b hb => hs b (by unfold frs; rw [List.filterMap_cons, hf]; exact List.mem_cons_of_mem _ hb)) hr⟩
  exact all X.outer (fun _ hb => hb) I.ok.funs

/-- the frames that run, for a call -/
theorem Inv.stack (I : Inv X pins σ H s) : s.heap.FunFrames X.base X.stack := by
  rcases I.ok.stk with e | ⟨e, hf⟩
  · rw [e]; exact I.funs
  · rw [e]
    obtain ⟨m, hn, _⟩ := I.loc
    refine .cons (by rw [I.ok.kind]; decide) hf hn ?_ I.funs
    exact Heap.get?_none_of_le (Nat.le_trans I.ok.bsz I.ok.above)
theorem Inv.stkSub (I : Inv X pins σ H s) : ∀ b ∈ frs X.stack, b ∈ X.env.locals :: X.fs := fun b hb => by
  rcases I.ok.stk with e | ⟨e, hf⟩
  · rw [e] at hb; exact List.mem_cons_of_mem _ hb
  · rw [e] at hb
    unfold frs at hb
    rw [List.filterMap_cons, hf] at hb
    exact hb
theorem Inv.stkFree (I : Inv X pins σ H s) : ∀ b ∈ frs X.stack, H b = none := fun b hb => by
  rcases List.mem_cons.mp (I.stkSub b hb) with e | hb
  · rw [e]; exact I.free
  · obtain ⟨_, o, ho, _⟩ := I.ok.funs.mem hb
    exact I.base.free b o ho (I.ok.frf b hb) fun z => I.ok.exfs b z hb

/-- THE STEP: the untracked objects but the frame and the records at ch are kept (the callers' frames up to slots), the frame's map is kept, the new abstract heap is held -/
theorem Inv.step {g' : Array GenState} {t' : Nat} {d' : Drawn} {ch : List Addr} (I : Inv X pins σ H s)
    (hch : ∀ b ∈ ch, (b ∈ X.ex ∨ X.s₀.heap.objs.size ≤ b) ∧ b ≠ X.env.locals ∧ (∀ x c, X.env.cells.lookup x = some c → c ≠ b) ∧ ∀ p ∈ X.pn ++ pins, p.1 ≠ b)
    (keep : ∀ b o, b ≠ X.env.locals → b ∉ X.fs → b ∉ ch → s.heap.get? b = some o → H b = none → h'.get? b = some o)
    (slot : ∀ b o, b ≠ X.env.locals → b ∈ X.fs → b ∉ ch → s.heap.get? b = some o → H b = none → ∃ sl, h'.get? b = some { o with slots := sl }) (free : ∀ b o, b ∉ ch → s.heap.get? b = some o → H b = none → H' b = none)
    (there : ∀ b o, b ∉ ch → s.heap.get? b = some o → ∃ o', h'.get? b = some o')
    (tups : ∀ b xs, H b = some (.tup xs) → H' b = some (.tup xs)) (frzs : ∀ b o u, H b = some (.frz o u) → H' b = some (.frz o u)) (tbls : ∀ b ps, H b = some (.tbl ps) → ∃ more, H' b = some (.tbl (ps ++ more)))
    (ns : ∀ m, s.heap.Ns X.env.locals m → h'.Ns X.env.locals m) (hok : HOk X.prog X.w H' h') (hg : AllBare g') :
    Inv X pins σ H' { s with heap := h', gens := g', drawn := d', toks := t' } := by
  have neL : ∀ b o, X.s₀.heap.get? b = some o → b ≠ X.env.locals := fun b o e => Nat.ne_of_lt (Nat.lt_of_lt_of_le (Heap.lt_size e) I.ok.above)
  have neC : ∀ b o, X.s₀.heap.get? b = some o → b ∉ X.ex → b ∉ ch := fun b o e hx hb => by
    rcases (hch b hb).1 with z | z
    · exact hx z
    · exact absurd (Nat.lt_of_lt_of_le (Heap.lt_size e) z) (Nat.lt_irrefl _)
  have cellK : ∀ x c, X.env.cells.lookup x = some c → ∀ v, s.heap.IsCell c v → h'.IsCell c v := fun x c e v ⟨o, ho, hd⟩ => by
    have nch : c ∉ ch := fun z => (hch c z).2.2.1 x c e rfl
    by_cases hc : c ∈ X.fs
    · obtain ⟨sl, q⟩ := slot c o (I.cne x c e) hc nch ho (I.freeC x c e)
      exact ⟨_, q, hd⟩
    · exact ⟨o, keep c o (I.cne x c e) hc nch ho (I.freeC x c e), hd⟩
  refine ⟨I.ok, I.os, hg, ⟨fun b o e n hb hx => ?_, fun b o e n hb hx => ?_, fun b o e n hx => ?_, fun b o e hx => ?_, fun b xs e => tups b xs (I.base.tups b xs e), fun b o xs e => frzs b o xs (I.base.frzs b o xs e), fun b ps e => ?_⟩, ?_, fun x c e => ?_, ?_, fun x c e => ?_, fun p hp => ?_, hok, I.len⟩
  · exact keep b o (neL b o e) hb (neC b o e hx) (I.base.keep b o e n hb hx) (I.base.free b o e n hx)
  · obtain ⟨sl, e1⟩ := I.base.slot b o e n hb hx
    obtain ⟨sl', e2⟩ := slot b _ (neL b o e) hb (neC b o e hx) e1 (I.base.free b o e n hx)
    exact ⟨sl', e2⟩
  · obtain ⟨o', e1⟩ := I.base.there b o e hx
    exact free b o' (neC b o e hx) e1 (I.base.free b o e n hx)
  · obtain ⟨o', e1⟩ := I.base.there b o e hx
    exact there b o' (neC b o e hx) e1
  · obtain ⟨m1, e1⟩ := I.base.tbls b ps e
    obtain ⟨m2, e2⟩ := tbls b _ e1
    exact ⟨m1 ++ m2, by rw [e2, Array.append_assoc]⟩
  · obtain ⟨m, hn, hl⟩ := I.loc
    refine ⟨m, ns m hn, fun i x v e1 e2 e3 => ?_⟩
    obtain ⟨u, r, l⟩ := hl i x v e1 e2 e3
    refine ⟨u, r, ?_⟩
    rcases l with l | ⟨k, c, e, z⟩
    · exact .inl l
    · exact .inr ⟨k, c, e, cellK x c e _ z⟩
  · obtain ⟨v, z⟩ := I.cell x c e
    exact ⟨v, cellK x c e v z⟩
  · obtain ⟨m, ⟨o, _, _, ho, _⟩, _⟩ := I.loc
    exact free _ o (fun z => (hch _ z).2.1 rfl) ho I.free
  · obtain ⟨v, o, ho, hd⟩ := I.cell x c e
    exact free c o (fun z => (hch c z).2.2.1 x c e rfl) ho (I.freeC x c e)
  · obtain ⟨e, n, ne, nf, d⟩ := I.pin p hp
    have nch : p.1 ∉ ch := fun z => (hch p.1 z).2.2.2 p hp rfl
    exact ⟨keep p.1 p.2 ne nf nch e n, free p.1 p.2 nch e n, ne, nf, d⟩
/-- .. where the frame's own object is kept too -/
theorem Inv.un {t' : Nat} (I : Inv X pins σ H s) (u : Un X.fs [] H H' s.heap h') (hok : HOk X.prog X.w H' h') : Inv X pins σ H' { s with heap := h', toks := t' } := by
  obtain ⟨m, ⟨o, es, ep, ho, r⟩, _⟩ := id I.loc
  obtain ⟨sl, hL⟩ := u.any ho I.free (by simp)
  exact I.step (g' := s.gens) (d' := s.drawn) (ch := []) (fun _ z => nomatch z) (fun b o _ hb _ e n => u.keep b o e n hb (by simp)) (fun b o _ hb _ e n => u.slot b o e n hb (by simp)) (fun b o _ e n => u.free b o e n (by simp)) (fun b o _ e => u.there b o e (by simp)) u.tups u.frzs u.tbls (fun m' hm => by
    obtain ⟨o', es', ep', ho', r'⟩ := hm
    rw [ho] at ho'; cases ho'
    exact ⟨_, es', ep', hL, r'⟩) hok I.bare
/-- behind a call (or a comprehension's block): the slots of this frame may have changed too, the records at ch may have turned -/
theorem Inv.call {g' : Array GenState} {t' : Nat} {d' : Drawn} {ch : List Addr} (I : Inv X pins σ H s) (u : Un (frs X.stack) ch H H' s.heap h') (hok : HOk X.prog X.w H' h') (hg : AllBare g')
    (hch : ∀ b ∈ ch, (b ∈ X.ex ∨ X.s₀.heap.objs.size ≤ b) ∧ b ≠ X.env.locals ∧ (∀ x c, X.env.cells.lookup x = some c → c ≠ b) ∧ ∀ p ∈ X.pn ++ pins, p.1 ≠ b) :
    Inv X pins σ H' { s with heap := h', gens := g', drawn := d', toks := t' } := by
  obtain ⟨m, ⟨o, es, ep, ho, r⟩, _⟩ := id I.loc
  obtain ⟨sl, hL⟩ := u.any ho I.free fun z => (hch _ z).2.1 rfl
  exact I.step (ch := ch) hch (fun b o hL hb hc e n => u.keep b o e n (fun z => (List.mem_cons.mp (I.stkSub b z)).elim hL hb) hc) (fun b o _ _ hc e n => u.any e n hc) (fun b o hc e n => u.free b o e n hc) (fun b o hc e => u.there b o e hc) u.tups u.frzs u.tbls (fun m' hm => by
    obtain ⟨o', es', ep', ho', r'⟩ := hm
    rw [ho] at ho'; cases ho'
    exact ⟨_, es', ep', hL, r'⟩) hok hg
/-- an untracked record of ours (an iterator) has turned -/
theorem Inv.turned {t' : Nat} {it : Addr} (I : Inv X pins σ H s) (k : ∀ b o, b ≠ it → s.heap.get? b = some o → h'.get? b = some o) (hn : H it = none) (hL : it ≠ X.env.locals)
    (h1 : it ∈ X.ex ∨ X.s₀.heap.objs.size ≤ it) (h2 : ∀ x c, X.env.cells.lookup x = some c → c ≠ it) (h3 : ∀ p ∈ X.pn ++ pins, p.1 ≠ it) : Inv X pins σ H { s with heap := h', toks := t' } := by
  have nit : ∀ b u, H b = some u → b ≠ it := fun b u e z => by rw [z, hn] at e; cases e
  refine I.step (g' := s.gens) (d' := s.drawn) (ch := [it]) (fun b hb => ?_) (fun b o _ _ hc e _ => k b o (fun z => hc (by simp [z])) e) (fun b o _ _ hc e _ => ⟨o.slots, k b o (fun z => hc (by simp [z])) e⟩) (fun _ _ _ _ n => n)
    (fun b o hc e => ⟨o, k b o (fun z => hc (by simp [z])) e⟩) (fun _ _ e => e) (fun _ _ _ e => e) (fun b ps e => ⟨#[], by rw [e]; simp⟩) (fun m hm => ?_) (fun b u e => ?_) I.bare
  · have e : b = it := by simpa using hb
    subst e
    exact ⟨h1, hL, h2, h3⟩
  · obtain ⟨o, es, ep, ho, r⟩ := hm
    exact ⟨o, es, ep, k _ o (Ne.symm hL) ho, r⟩
  · refine (I.hok b u e).stay (fun c v hc q => k c v ?_ q) (fun _ q => q) fun _ _ q => q
    rcases hc with z | z
    · rw [z]; exact nit b u e
    · exact nit c _ z
theorem Inv.tok (I : Inv X pins σ H s) (t : Nat) : Inv X pins σ H { s with toks := t } := I.un (h' := s.heap) (t' := t) Un.refl I.hok
/-- all objects kept -/
theorem Inv.kept {t' : Nat} (I : Inv X pins σ H s) (k : ∀ b u, s.heap.get? b = some u → h'.get? b = some u) : Inv X pins σ H { s with heap := h', toks := t' } := I.un (Un.kept k) (I.hok.kept k)
/-- a new object laid and tracked -/
theorem Inv.laid {a : Addr} {o : HO} {t' : Nat} (I : Inv X pins σ H s) (k : ∀ b u, s.heap.get? b = some u → h'.get? b = some u) (hp : s.heap.objs.size ≤ a) (new : ObjOk X.prog X.w (upd H a o) h' a o) :
    Inv X pins σ (upd H a o) { s with heap := h', toks := t' } := I.un (Un.laid k hp (I.hok.fresh hp)) (I.hok.laid k hp new)
/-- an object written -/
theorem Inv.write {x e : Addr} {o : HO} {t' : Nat} (I : Inv X pins σ H s) (mu : Mut (H x)) (he : e = x ∨ H e = some (.own x)) (k : ∀ b u, b ≠ e → s.heap.get? b = some u → h'.get? b = some u) (heo : ∃ u, h'.get? e = some u)
    (new : ObjOk X.prog X.w (upd H x o) h' x o) : Inv X pins σ (upd H x o) { s with heap := h', toks := t' } := I.un (Un.write mu he k heo) (I.hok.write mu he k heo new)
/-- forgetting slots, pins -/
theorem Inv.weak {σ' : List (Option V)} (I : Inv X pins σ H s) (hl : σ'.length = σ.length) (w : ∀ (i : Nat) v, σ'[i]? = some (some v) → σ[i]? = some (some v)) : Inv X pins σ' H s :=
  ⟨I.ok, I.os, I.bare, I.base, let ⟨m, hn, hl'⟩ := I.loc; ⟨m, hn, fun i x v e1 e2 e3 => hl' i x v e1 (w i v e2) e3⟩, I.cell, I.free, I.freeC, I.pin, I.hok, hl.trans I.len⟩
theorem Inv.pins_of {pins' : List (Addr × Obj)} (I : Inv X pins σ H s) (h : ∀ p ∈ pins', s.heap.get? p.1 = some p.2 ∧ H p.1 = none ∧ p.1 ≠ X.env.locals ∧ p.1 ∉ X.fs ∧ ∀ v, p.2.data ≠ .cell v) : Inv X pins' σ H s :=
  ⟨I.ok, I.os, I.bare, I.base, I.loc, I.cell, I.free, I.freeC, fun p hp => (List.mem_append.mp hp).elim (fun z => I.pin p (List.mem_append_left _ z)) (h p), I.hok, I.len⟩

theorem nodup_ix {N : List Str} (hN : N.Nodup) {i j : Nat} {x : Str} (a : N[i]? = some x) (b : N[j]? = some x) : i = j := by
  obtain ⟨h1, e1⟩ := List.getElem?_eq_some_iff.mp a
  obtain ⟨h2, e2⟩ := List.getElem?_eq_some_iff.mp b
  exact (List.getElem_inj hN).mp (e1.trans e2.symm)

/-- a name is stored; what changed -/
theorem store_ok2 {M : Model} {A : Around} {E : Value → Shared → Prop} {i : Nat} {x : Str} {v : V} {u : Value} {Q : Unit → Shared → Prop} (I : Inv X pins σ H s) (hN : X.N.Nodup) (hi : X.N[i]? = some x) (hx : Loc X.env.scope x) (r : RelV v u)
    (h : ∀ s', Inv X pins (σ.set i (some v)) H s' → (∃ a, Heap.SameBut a s.heap s'.heap ∧ (a = X.env.locals ∨ X.env.cells.lookup x = some a)) → Q () s') (hf : X.fn x = true ∨ X.env.scope.names.lookup x = some .local := by first | exact .inl rfl | exact .inr rfl | assumption) : wpAny M A (storeName X.env x u) Q E s := by
  obtain ⟨m, hn, hl⟩ := id I.loc
  have hcls : (X.env.scope.kind == .class || (X.env.scope.kind == .module && X.env.locals != X.env.globals)) = false := by rw [I.ok.kind]; rfl
  have hiσ : i < σ.length := by rw [I.len]; exact (List.getElem?_eq_some_iff.mp hi).1
  have cne := I.cne
  have tracked : ∀ {a : Addr} {h' : Heap}, (∃ o, s.heap.get? a = some o ∧ H a = none) → Heap.SameBut a s.heap h' → HOk X.prog X.w H h' := fun {a h'} ha hs b ob e => by
    obtain ⟨_, _, hfree⟩ := ha
    refine (I.hok b ob e).stay (fun c w' hc q => (hs.2 c ?_).trans q) (fun _ q => q) fun _ _ q => q
    rintro rfl
    rcases hc with rfl | hc
    · rw [hfree] at e; cases e
    · rw [hfree] at hc; cases hc
  rcases hx with hk | hk
  · refine wpAny_storeName_local hk hn (fun h' hn' hs => ?_) hcls
    obtain ⟨oL, _, _, hoL, _⟩ := id hn
    refine h _ ⟨I.ok, I.os, I.bare, ⟨fun b o e n hb hx => ?_, fun b o e n hb hx => ?_, I.base.free, fun b o e hx => ?_, I.base.tups, I.base.frzs, I.base.tbls⟩, ⟨_, hn', fun j y v' e1 e2 e3 => ?_⟩, fun y c e => ?_, I.free, I.freeC, fun p hp => ?_, tracked ⟨oL, hoL, I.free⟩ hs, by simpa using I.len⟩ ⟨_, hs, .inl rfl⟩
    · exact (hs.2 b (Nat.ne_of_lt (Nat.lt_of_lt_of_le (Heap.lt_size e) I.ok.above))).trans (I.base.keep b o e n hb hx)
    · obtain ⟨sl, e1⟩ := I.base.slot b o e n hb hx
      exact ⟨sl, (hs.2 b (Nat.ne_of_lt (Nat.lt_of_lt_of_le (Heap.lt_size e) I.ok.above))).trans e1⟩
    · obtain ⟨o', e1⟩ := I.base.there b o e hx
      exact ⟨o', (hs.2 b (Nat.ne_of_lt (Nat.lt_of_lt_of_le (Heap.lt_size e) I.ok.above))).trans e1⟩
    · by_cases hj : j = i
      · subst hj
        rw [hi] at e1; cases e1
        rw [List.getElem?_set_self hiσ] at e2
        cases e2
        exact ⟨u, r, .inl ⟨hk, by simp⟩⟩
      · rw [List.getElem?_set_ne (Ne.symm hj)] at e2
        obtain ⟨u', r', q⟩ := hl j y v' e1 e2 e3
        refine ⟨u', r', ?_⟩
        rcases q with ⟨k, e⟩ | ⟨k, c, e, z⟩
        · refine .inl ⟨k, ?_⟩
          have : y ≠ x := fun e => hj (nodup_ix hN e1 (e ▸ hi))
          simp [this, e]
        · exact .inr ⟨k, c, e, z.sameBut hs (cne y c e)⟩
    · obtain ⟨w', z⟩ := I.cell y c e
      exact ⟨w', z.sameBut hs (cne y c e)⟩
    · obtain ⟨e, n, ne, nf, d⟩ := I.pin p hp
      exact ⟨(hs.2 p.1 ne).trans e, n, ne, nf, d⟩
  · have hfn : X.fn x = true := by
      rcases hf with z | z
      · exact z
      · rw [z] at hk; cases hk
    obtain ⟨c, hc⟩ := I.ok.has x (.inl hk)
    obtain ⟨w', z⟩ := I.cell x c hc
    refine wpAny_storeName_cell I.ok.kind hk hc z (fun h' hc' hs => ?_)
    obtain ⟨oc, hoc, hocd⟩ := id z
    refine h { s with heap := h' } ⟨I.ok, I.os, I.bare, ⟨fun b o e n hb hx => ?_, fun b o e n hb hx => ?_, I.base.free, fun b o e hx => ?_, I.base.tups, I.base.frzs, I.base.tbls⟩, ⟨m, hn.sameBut hs (Ne.symm (cne x c hc)), fun j y v' e1 e2 e3 => ?_⟩, fun y c' e => ?_, I.free, I.freeC, fun p hp => ?_, tracked ⟨oc, hoc, I.freeC x c hc⟩ hs, by simpa using I.len⟩ ⟨c, hs, .inr hc⟩
    · exact (hs.2 b (Nat.ne_of_lt (Nat.lt_of_lt_of_le (Heap.lt_size e) (I.ok.cab x c hfn hc)))).trans (I.base.keep b o e n hb hx)
    · obtain ⟨sl, e1⟩ := I.base.slot b o e n hb hx
      exact ⟨sl, (hs.2 b (Nat.ne_of_lt (Nat.lt_of_lt_of_le (Heap.lt_size e) (I.ok.cab x c hfn hc)))).trans e1⟩
    · obtain ⟨o', e1⟩ := I.base.there b o e hx
      exact ⟨o', (hs.2 b (Nat.ne_of_lt (Nat.lt_of_lt_of_le (Heap.lt_size e) (I.ok.cab x c hfn hc)))).trans e1⟩
    · by_cases hj : j = i
      · subst hj
        rw [hi] at e1; cases e1
        rw [List.getElem?_set_self hiσ] at e2
        cases e2
        exact ⟨u, r, .inr ⟨.inl hk, c, hc, hc'⟩⟩
      · rw [List.getElem?_set_ne (Ne.symm hj)] at e2
        obtain ⟨u', r', q⟩ := hl j y v' e1 e2 e3
        refine ⟨u', r', ?_⟩
        rcases q with q | ⟨k, c', e, z'⟩
        · exact .inl q
        · refine .inr ⟨k, c', e, z'.sameBut hs ?_⟩
          rintro rfl
          exact hj (nodup_ix hN e1 (I.ok.inj _ _ _ e hc ▸ hi))
    · by_cases hcc : c' = c
      · subst hcc; exact ⟨_, hc'⟩
      · obtain ⟨w2, z2⟩ := I.cell y c' e
        exact ⟨w2, z2.sameBut hs hcc⟩
    · obtain ⟨e, n, ne, nf, d⟩ := I.pin p hp
      refine ⟨(hs.2 p.1 ?_).trans e, n, ne, nf, d⟩
      intro q
      rw [q, hoc] at e
      have q' : oc = p.2 := Option.some.inj e
      exact d w' (by rw [← q']; exact hocd)
theorem store_ok {M : Model} {A : Around} {E : Value → Shared → Prop} {i : Nat} {x : Str} {v : V} {u : Value} {Q : Unit → Shared → Prop} (I : Inv X pins σ H s) (hN : X.N.Nodup) (hi : X.N[i]? = some x) (hx : Loc X.env.scope x) (r : RelV v u)
    (h : ∀ s', Inv X pins (σ.set i (some v)) H s' → Q () s') (hf : X.fn x = true ∨ X.env.scope.names.lookup x = some .local := by first | exact .inl rfl | exact .inr rfl | assumption) : wpAny M A (storeName X.env x u) Q E s :=
  store_ok2 I hN hi hx r (fun s' I' _ => h s' I') hf
/-- behind a call or a block, the state as it is -/
theorem Inv.call' {s' : Shared} {ch : List Addr} (I : Inv X pins σ H s) (ho : s'.os = s.os) (u : Un (frs X.stack) ch H H' s.heap s'.heap) (hok : HOk X.prog X.w H' s'.heap) (hg : AllBare s'.gens)
    (hch : ∀ b ∈ ch, (b ∈ X.ex ∨ X.s₀.heap.objs.size ≤ b) ∧ b ≠ X.env.locals ∧ (∀ x c, X.env.cells.lookup x = some c → c ≠ b) ∧ ∀ p ∈ X.pn ++ pins, p.1 ≠ b) : Inv X pins σ H' s' := by
  obtain ⟨h', g', d', t', o'⟩ := s'
  have e : o' = s.os := ho
  subst e
  exact I.call (g' := g') (t' := t') (d' := d') u hok hg hch
end

/-! ### the judgements -/
/-- an exception: its class, its own dict's address (where it has one), the abstract heap behind it -/
abbrev XK := Value → Option Addr → Hp → Prop
abbrev St := List (Option V)
abbrev VK := V → Hp → Prop
/-- an expression's reading; a test's; an argument list's -/
abbrev TE := St → Hp → VK → Prop
abbrev TT := St → Hp → (Bool → Hp → Prop) → Prop
abbrev TA := St → Hp → (List V → Hp → Prop) → Prop
/-- what is wanted behind a statement -/
structure Ends where
  nx : St → Hp → Prop
  rt : VK
  bk : St → Hp → Prop := fun _ _ => False
  ct : St → Hp → Prop := fun _ _ => False
abbrev TS := Ends → St → Hp → Prop

def EP (X : Cx) (pins : List (Addr × Obj)) (σ : St) (Q : VK) (u : Value) (s' : Shared) : Prop := ∃ v H', Inv X pins σ H' s' ∧ RelV v u ∧ Q v H'
def TP (X : Cx) (pins : List (Addr × Obj)) (σ : St) (Q : Bool → Hp → Prop) (b : Bool) (s' : Shared) : Prop := ∃ H', Inv X pins σ H' s' ∧ Q b H'
def AP (X : Cx) (pins : List (Addr × Obj)) (σ : St) (Q : List V → Hp → Prop) (us : List Value) (s' : Shared) : Prop := ∃ vs H', Inv X pins σ H' s' ∧ Vals vs us ∧ Q vs H'
def SP (X : Cx) (pins : List (Addr × Obj)) (D : Ends) (f : Flow) (s' : Shared) : Prop :=
  match f with
  | .next => ∃ σ' H', Inv X pins σ' H' s' ∧ D.nx σ' H'
  | .brk => ∃ σ' H', Inv X pins σ' H' s' ∧ D.bk σ' H'
  | .cont => ∃ σ' H', Inv X pins σ' H' s' ∧ D.ct σ' H'
  | .ret u => ∃ v σ' H', Inv X pins σ' H' s' ∧ RelV v u ∧ D.rt v H'

def PE (X : Cx) (e : Expr) (t : TE) : Prop :=
  ∀ (pins : List (Addr × Obj)) (s : Shared) (σ : St) (H : Hp) (Q : VK), Inv X pins σ H s → t σ H Q → wpAny (model X.prog X.w) X.A (eval e X.env) (EP X pins σ Q) X.xe s
def PT (X : Cx) (e : Expr) (t : TT) : Prop :=
  ∀ (pins : List (Addr × Obj)) (s : Shared) (σ : St) (H : Hp) (Q : Bool → Hp → Prop), Inv X pins σ H s → t σ H Q → wpAny (model X.prog X.w) X.A (isTrue e X.env (eval e X.env)) (TP X pins σ Q) X.xe s
/-- a test whatever its 'whole' is (and, or) -/
def PW (X : Cx) (e : Expr) (t : TT) : Prop :=
  ∀ (whole : Sem Value) (pins : List (Addr × Obj)) (s : Shared) (σ : St) (H : Hp) (Q : Bool → Hp → Prop), Inv X pins σ H s → t σ H Q → wpAny (model X.prog X.w) X.A (isTrue e X.env whole) (TP X pins σ Q) X.xe s
theorem PW.pt {X : Cx} {e : Expr} {t : TT} (h : PW X e t) : PT X e t := h _
/-- an argument list (no star), from the left -/
def PA (X : Cx) (es : List Expr) (t : TA) : Prop :=
  ∀ (pos : Pos) (pins : List (Addr × Obj)) (s : Shared) (σ : St) (H : Hp) (Q : List V → Hp → Prop), Inv X pins σ H s → t σ H Q → wpAny (model X.prog X.w) X.A (spliced (backTo pos (starEach es X.env))) (AP X pins σ Q) X.xe s
def PS (X : Cx) (st : Stmt) (t : TS) : Prop :=
  ∀ (pins : List (Addr × Obj)) (s : Shared) (σ : St) (H : Hp) (D : Ends), Inv X pins σ H s → t D σ H → wpAny (model X.prog X.w) X.A (exec st X.env) (SP X pins D) X.xe s
def PSs (X : Cx) (st : List Stmt) (t : TS) : Prop :=
  ∀ (pins : List (Addr × Obj)) (s : Shared) (σ : St) (H : Hp) (D : Ends), Inv X pins σ H s → t D σ H → wpAny (model X.prog X.w) X.A (execs st X.env) (SP X pins D) X.xe s
/-- weaken the end -/
theorem thn {α : Type} {t : Sem α} {Q Q' : α → Shared → Prop} {M : Model} {A : Around} {E : Value → Shared → Prop} {s : Shared} (h : wpAny M A t Q E s) (hQ : ∀ a s, Q a s → Q' a s) : wpAny M A t Q' E s := wpAny_mono h hQ fun _ _ x => x
end L2

namespace L2
open PySem PySem.Spec PyProof.Rows
section
variable {X : Cx}

/-- two expressions in a row -/
theorem bin {a b : Expr} {ta tb : TE} (ha : PE X a ta) (hb : PE X b tb) {pins : List (Addr × Obj)} {s : Shared} {σ : St} {H : Hp} {R : V → V → Hp → Prop} (I : Inv X pins σ H s) (h : ta σ H fun x H1 => tb σ H1 fun y H2 => R x y H2)
    {α : Type} {Q : α → Shared → Prop} {f : Value → Value → Sem α}
    (hf : ∀ v u s2 x y H2, Inv X pins σ H2 s2 → RelV x v → RelV y u → R x y H2 → wpAny (model X.prog X.w) X.A (f v u) Q X.xe s2) :
    wpAny (model X.prog X.w) X.A (eval a X.env) (fun v s₁ => wpAny (model X.prog X.w) X.A (eval b X.env) (fun u s₂ => wpAny (model X.prog X.w) X.A (f v u) Q X.xe s₂) X.xe s₁) X.xe s := by
  refine thn (ha pins s σ H _ I h) fun v s1 ⟨x, H1, I1, r1, q1⟩ => ?_
  refine thn (hb pins s1 σ H1 _ I1 q1) fun u s2 ⟨y, H2, I2, r2, q2⟩ => ?_
  exact hf v u s2 x y H2 I2 r1 r2 q2

/-! ### names and constants -/
def tVar (i : Nat) : TE := fun σ H Q => ∃ v, σ[i]? = some (some v) ∧ Q v H
def tC (v : V) : TE := fun _ H Q => Q v H
theorem pe_var {i : Nat} {x : Str} {pos : Pos} (hN : X.N[i]? = some x) (hv : Vis X.env.scope x) (hd : (x == ("__debug__" : Str)) = false := by decide) (hcd : (x == ("__classdict__" : Str)) = false := by decide) : PE X (.Name x pos) (tVar i) := by
  intro pins s σ H Q I h
  obtain ⟨v, e, h⟩ := h
  obtain ⟨m, hn, hl⟩ := I.loc
  obtain ⟨u, r, l⟩ := hl i x v hN e hv
  have fin : EP X pins σ Q u s := ⟨v, H, I, r, h⟩
  rcases l with ⟨hk, hm⟩ | ⟨hk, c, hc, hcell⟩
  · exact wpAny_Name (wpAny_loadName_local I.ok.kind hk hn hm fin) hd
  · rcases hk with hk | hk
    · exact wpAny_Name (wpAny_loadName_cell I.ok.kind hk hc hcell fin) hd
    · exact wpAny_Name (wpAny_loadName_free I.ok.kind hk hc hcell fin hcd) hd
theorem pe_int {i j pos} : PE X (.Constant (.int i) j pos) (tC (.int i)) := fun _ _ _ H _ I h => wpAny_Constant_int ⟨.int i, H, I.tok _, ⟨_, rfl⟩, h⟩
theorem pe_bl {b j pos} : PE X (.Constant (.bool b) j pos) (tC (.bl b)) := fun _ _ _ H _ I h => Constant_bool ⟨.bl b, H, I, rfl, h⟩
theorem pe_non {j pos} : PE X (.Constant .none j pos) (tC .non) := fun _ _ _ H _ I h => Constant_none ⟨.non, H, I, rfl, h⟩
theorem pe_str {x j pos} : PE X (.Constant (.str x) j pos) (tC (.str x)) := fun _ _ _ H _ I h => Calls.Constant_str ⟨.str x, H, I.tok _, ⟨_, rfl⟩, h⟩

/-- a global name of the def -/
def Gl (X : Cx) (x : Str) : Prop := X.env.kindOf x = some .globalImplicit
theorem ld_glob {E : Value → Shared → Prop} {pins : List (Addr × Obj)} {s : Shared} {σ : St} {H : Hp} {x : Str} {u : Value} {pos : Pos} {Q : Value → Shared → Prop} (I : Inv X pins σ H s) (hg : Gl X x) (hm : X.mg x = some u) (h : Q u s)
    (hd : (x == ("__debug__" : Str)) = false := by decide) : wpAny (model X.prog X.w) X.A (eval (.Name x pos) X.env) Q E s :=
  Calls.Name_function_global I.ok.kind hg (Calls.loadGlobal_global (by rw [I.ok.glob]; exact I.mod.glob.keeps I.bk) hm h) hd
theorem ld_blt {E : Value → Shared → Prop} {pins : List (Addr × Obj)} {s : Shared} {σ : St} {H : Hp} {x : Str} {u : Value} {pos : Pos} {Q : Value → Shared → Prop} (I : Inv X pins σ H s) (hg : Gl X x) (hm : X.mg x = none) (hv : bootBuiltins x = some u) (h : Q u s)
    (hn : x ≠ "__name__" := by decide) (hd : (x == ("__debug__" : Str)) = false := by decide) : wpAny (model X.prog X.w) X.A (eval (.Name x pos) X.env) Q E s := by
  obtain ⟨mb, h1, h2⟩ := I.mod.blt
  exact Calls.Name_function_global I.ok.kind hg (Calls.loadGlobal_builtin (by rw [I.ok.glob]; exact I.mod.glob.keeps I.bk) hm (by rw [I.ok.blt]; exact h1.keeps I.bk) ((h2 x hn).trans hv) h) hd
/-- a module's constant, a class, a function, as a value -/
theorem pe_glob {x : Str} {v : V} {u : Value} {pos : Pos} (hg : Gl X x) (hm : X.mg x = some u) (r : RelV v u) (hd : (x == ("__debug__" : Str)) = false := by decide) : PE X (.Name x pos) (tC v) :=
  fun _ _ _ H _ I h => ld_glob I hg hm ⟨v, H, I, r, h⟩ hd
theorem pe_bltn {x : Str} {v : V} {u : Value} {pos : Pos} (hg : Gl X x) (hm : X.mg x = none) (hv : bootBuiltins x = some u) (r : RelV v u) (hn : x ≠ "__name__" := by decide) (hd : (x == ("__debug__" : Str)) = false := by decide) : PE X (.Name x pos) (tC v) :=
  fun _ _ _ H _ I h => ld_blt I hg hm hv ⟨v, H, I, r, h⟩ hn hd

/-! ### arithmetic -/
/-- two ints -/
def t2I (ta tb : TE) (k : Int → Int → Hp → Prop) : St → Hp → Prop := fun σ H => ta σ H fun x H1 => tb σ H1 fun y H2 => ∃ i j, x = .int i ∧ y = .int j ∧ k i j H2
def tAdd (ta tb : TE) : TE := fun σ H Q => t2I ta tb (fun i j H2 => Q (.int (i + j)) H2) σ H
def tSub (ta tb : TE) : TE := fun σ H Q => t2I ta tb (fun i j H2 => Q (.int (i - j)) H2) σ H
/-- the left factor below 2^64 -/
def tMul (ta tb : TE) : TE := fun σ H Q => t2I ta tb (fun i j H2 => (-(2 ^ 64) < i ∧ i < 2 ^ 64) ∧ Q (.int (i * j)) H2) σ H
variable {a b : Expr} {ta tb : TE} {pos : Pos}
theorem pe_add (ha : PE X a ta) (hb : PE X b tb) : PE X (.BinOp a .Add b pos) (tAdd ta tb) := by
  intro pins s σ H Q I h
  refine wpAny_BinOp (bin ha hb I h fun v u s2 x y H2 I2 rx ry q => ?_)
  obtain ⟨i, j, rfl, rfl, q⟩ := q
  obtain ⟨t, rfl⟩ := rx
  obtain ⟨t', rfl⟩ := ry
  exact add_int ⟨.int _, H2, I2.tok _, ⟨_, rfl⟩, q⟩
theorem pe_sub (ha : PE X a ta) (hb : PE X b tb) : PE X (.BinOp a .Sub b pos) (tSub ta tb) := by
  intro pins s σ H Q I h
  refine wpAny_BinOp (bin ha hb I h fun v u s2 x y H2 I2 rx ry q => ?_)
  obtain ⟨i, j, rfl, rfl, q⟩ := q
  obtain ⟨t, rfl⟩ := rx
  obtain ⟨t', rfl⟩ := ry
  exact sub_int ⟨.int _, H2, I2.tok _, ⟨_, rfl⟩, q⟩
theorem pe_mul (ha : PE X a ta) (hb : PE X b tb) : PE X (.BinOp a .Mult b pos) (tMul ta tb) := by
  intro pins s σ H Q I h
  refine wpAny_BinOp (bin ha hb I h fun v u s2 x y H2 I2 rx ry q => ?_)
  obtain ⟨i, j, rfl, rfl, ⟨q1, q2⟩, q⟩ := q
  obtain ⟨t, rfl⟩ := rx
  obtain ⟨t', rfl⟩ := ry
  exact mul_int ⟨.int _, H2, I2.tok _, ⟨_, rfl⟩, q⟩ (.of_left (intBits_le_64 q1 q2))

/-! ### comparisons -/
def PC (X : Cx) (op : CmpOp) (a b : Expr) (t : TE) : Prop :=
  ∀ (pins : List (Addr × Obj)) (s : Shared) (σ : St) (H : Hp) (Q : VK), Inv X pins σ H s → t σ H Q →
    wpAny (model X.prog X.w) X.A (eval a X.env) (fun v s₁ => wpAny (model X.prog X.w) X.A (eval b X.env) (fun u s₂ => wpAny (model X.prog X.w) X.A (compareOp op v u) (EP X pins σ Q) X.xe s₂) X.xe s₁) X.xe s
theorem nobehind (b : Expr) {op : CmpOp} (h : op ≠ .In) (h2 : op ≠ .NotIn) : behindInMarks op b = false := by
  have e1 : (op == CmpOp.In) = false := by cases op <;> first | rfl | exact absurd rfl h
  have e2 : (op == CmpOp.NotIn) = false := by cases op <;> first | rfl | exact absurd rfl h2
  cases b <;> simp [behindInMarks, e1, e2]
def tCmp (p : Int → Int → Bool) (ta tb : TE) : TE := fun σ H Q => t2I ta tb (fun i j H2 => Q (.bl (p i j)) H2) σ H
abbrev tLt : TE → TE → TE := tCmp fun i j => decide (i < j)
abbrev tLe : TE → TE → TE := tCmp fun i j => decide (i ≤ j)
abbrev tGt : TE → TE → TE := tCmp fun i j => decide (j < i)
abbrev tGe : TE → TE → TE := tCmp fun i j => decide (j ≤ i)
abbrev tEqI : TE → TE → TE := tCmp fun i j => decide (i = j)
abbrev tNeI : TE → TE → TE := tCmp fun i j => !decide (i = j)
/-- a comparison of two ints, by its rule -/
theorem pc_int {op : CmpOp} {p : Int → Int → Bool} (ha : PE X a ta) (hb : PE X b tb)
    (rule : ∀ (i j : Int) (t u : Tok) (Q : Value → Shared → Prop) (s : Shared), Q (.bool (p i j)) s → wpAny (model X.prog X.w) X.A (compareOp op (.int i t) (.int j u)) Q X.xe s) : PC X op a b (tCmp p ta tb) := by
  intro pins s σ H Q I h
  refine bin ha hb I h fun v u s2 x y H2 I2 rx ry q => ?_
  obtain ⟨i, j, rfl, rfl, q⟩ := q
  obtain ⟨t, rfl⟩ := rx
  obtain ⟨t', rfl⟩ := ry
  exact rule i j t t' _ s2 ⟨.bl _, H2, I2, rfl, q⟩
theorem pc_lt (ha : PE X a ta) (hb : PE X b tb) : PC X .Lt a b (tLt ta tb) := pc_int ha hb fun _ _ _ _ _ _ h => lt_int h
theorem pc_le (ha : PE X a ta) (hb : PE X b tb) : PC X .LtE a b (tLe ta tb) := pc_int ha hb fun _ _ _ _ _ _ h => le_int h
theorem pc_gt (ha : PE X a ta) (hb : PE X b tb) : PC X .Gt a b (tGt ta tb) := pc_int ha hb fun _ _ _ _ _ _ h => gt_int h
theorem pc_ge (ha : PE X a ta) (hb : PE X b tb) : PC X .GtE a b (tGe ta tb) := pc_int ha hb fun _ _ _ _ _ _ h => ge_int h
theorem pc_eqI (ha : PE X a ta) (hb : PE X b tb) : PC X .Eq a b (tEqI ta tb) := pc_int ha hb fun _ _ _ _ _ _ h => eq_int (by rw [Bool.beq_eq_decide_eq]; exact h)
theorem pc_neI (ha : PE X a ta) (hb : PE X b tb) : PC X .NotEq a b (tNeI ta tb) := pc_int ha hb fun _ _ _ _ _ _ h => ne_int (by rw [bne, Bool.beq_eq_decide_eq]; exact h)
/-- is None -/
def tIsN (ta : TE) : TE := fun σ H Q => ta σ H fun x H1 => Q (.bl (decide (x = .non))) H1
def tNotN (ta : TE) : TE := fun σ H Q => ta σ H fun x H1 => Q (.bl (!decide (x = .non))) H1
theorem RelV.none_iff {x : V} {v : Value} (r : RelV x v) : (v == Value.none) = decide (x = .non) := by
  cases x with
  | non => cases r; rfl
  | bl _ => cases r; rfl
  | int _ => obtain ⟨t, rfl⟩ := r; rfl
  | str _ => obtain ⟨t, rfl⟩ := r; rfl
  | byt _ => obtain ⟨t, rfl⟩ := r; rfl
  | flt _ => obtain ⟨t, rfl⟩ := r; rfl
  | ref _ => cases r; rfl
  | ty _ => cases r; rfl
theorem pc_isN {j pos'} (ha : PE X a ta) : PC X .Is a (.Constant .none j pos') (tIsN ta) := by
  intro pins s σ H Q I h
  refine thn (ha pins s σ H _ I h) fun v s1 ⟨x, H1, I1, r1, q1⟩ => ?_
  exact Constant_none (is_none_gen ⟨.bl _, H1, I1, by rw [r1.none_iff]; rfl, q1⟩)
theorem pc_notN {j pos'} (ha : PE X a ta) : PC X .IsNot a (.Constant .none j pos') (tNotN ta) := by
  intro pins s σ H Q I h
  refine thn (ha pins s σ H _ I h) fun v s1 ⟨x, H1, I1, r1, q1⟩ => ?_
  exact Constant_none (isnot_none_gen ⟨.bl _, H1, I1, by rw [r1.none_iff]; rfl, q1⟩)
/-- a comparison as a value, as a test -/
def tB (t : TE) : TT := fun σ H Q => t σ H fun x H1 => ∃ c, x = .bl c ∧ Q c H1
theorem pe_cmp {op : CmpOp} {t : TE} (h : PC X op a b t) (h1 : behindInMarks op b = false := by first | exact nobehind _ (by decide) (by decide) | rfl) : PE X (.Compare a [op] [b] pos) t := fun pins s σ H Q I hw => wpAny_Compare1 (h pins s σ H Q I hw) h1
theorem pt_cmp {op : CmpOp} {t : TE} (h : PC X op a b t) (h1 : behindInMarks op b = false := by first | exact nobehind _ (by decide) (by decide) | rfl) : PT X (.Compare a [op] [b] pos) (tB t) := by
  intro pins s σ H Q I hw
  refine wpAny_isTrue_Compare1 (thn (h pins s σ H _ I hw) fun v s1 h1 => thn h1 fun u s2 h2 => thn h2 fun c s3 ⟨x, H1, I1, r1, q1⟩ => ?_) h1
  obtain ⟨d, rfl, q⟩ := q1
  cases r1
  exact wpAny_truthy_bool ⟨H1, I1, q⟩
/-- an expression whose value is a bool, as a test -/
theorem pt_val {e : Expr} {t : TE} (h : PE X e t) (he : ∀ whole, isTrue e X.env whole = (do let v ← whole; standAt e.pos; holding [v] (truthy v)) := by intro _; rfl) : PT X e (tB t) := by
  intro pins s σ H Q I hw
  refine isTrue_plain (thn (h pins s σ H _ I hw) fun v s1 ⟨x, H1, I1, r1, q1⟩ => ?_) (he _)
  obtain ⟨d, rfl, q⟩ := q1
  cases r1
  exact wpAny_truthy_bool ⟨H1, I1, q⟩

/-! ### and, or, not -/
variable {tA tB' : TT} {rest : List Expr}
def tAnd (t u : TT) : TT := fun σ H Q => t σ H fun c H1 => if c = true then u σ H1 Q else Q false H1
def tOr (t u : TT) : TT := fun σ H Q => t σ H fun c H1 => if c = true then Q true H1 else u σ H1 Q
def tNot (t : TT) : TT := fun σ H Q => t σ H fun c H1 => Q (!c) H1
theorem pw_and1 (ha : PT X a tA) : PW X (.BoolOp .And [a] pos) tA := by
  intro wh pins s σ H Q I h
  refine isTrue_and (thn (ha pins s σ H Q I h) fun c s1 e => ?_)
  cases c with
  | true => exact isTrue_and_nil e
  | false => exact e
theorem pw_or1 (ha : PT X a tA) : PW X (.BoolOp .Or [a] pos) tA := by
  intro wh pins s σ H Q I h
  refine isTrue_or (thn (ha pins s σ H Q I h) fun c s1 e => ?_)
  cases c with
  | false => exact isTrue_or_nil e
  | true => exact e
theorem pw_and (ha : PT X a tA) (hb : PW X (.BoolOp .And (b :: rest) pos) tB') : PW X (.BoolOp .And (a :: b :: rest) pos) (tAnd tA tB') := by
  intro wh pins s σ H Q I h
  refine isTrue_and (thn (ha pins s σ H _ I h) fun c s1 ⟨H1, I1, q1⟩ => ?_)
  cases c with
  | true => exact hb wh pins s1 σ H1 Q I1 q1
  | false => exact ⟨H1, I1, q1⟩
theorem pw_or (ha : PT X a tA) (hb : PW X (.BoolOp .Or (b :: rest) pos) tB') : PW X (.BoolOp .Or (a :: b :: rest) pos) (tOr tA tB') := by
  intro wh pins s σ H Q I h
  refine isTrue_or (thn (ha pins s σ H _ I h) fun c s1 ⟨H1, I1, q1⟩ => ?_)
  cases c with
  | true => exact ⟨H1, I1, q1⟩
  | false => exact hb wh pins s1 σ H1 Q I1 q1
theorem pt_not (ha : PT X a tA) : PT X (.UnaryOp .Not a pos) (tNot tA) := by
  intro pins s σ H Q I h
  exact isTrue_not (ha pins s σ H (fun c H1 => Q (!c) H1) I h)
/-- .. as values (bools) -/
def tAndV (ta tb : TE) : TE := fun σ H Q => ta σ H fun x H1 => ∃ c, x = .bl c ∧ if c = true then tb σ H1 Q else Q (.bl false) H1
def tOrV (ta tb : TE) : TE := fun σ H Q => ta σ H fun x H1 => ∃ c, x = .bl c ∧ if c = true then Q (.bl true) H1 else tb σ H1 Q
def tNotV (ta : TE) : TE := fun σ H Q => ta σ H fun x H1 => ∃ c, x = .bl c ∧ Q (.bl (!c)) H1
theorem pe_one {op} {t : TE} (h : PE X a t) : PE X (.BoolOp op [a] pos) t := fun pins s σ H Q I hw => BoolOp_one (h pins s σ H Q I hw)
theorem pe_and (ha : PE X a ta) (hb : PE X (.BoolOp .And (b :: rest) pos) tb) : PE X (.BoolOp .And (a :: b :: rest) pos) (tAndV ta tb) := by
  intro pins s σ H Q I h
  refine BoolOp_and (thn (ha pins s σ H _ I h) fun v s1 ⟨x, H1, I1, r1, q1⟩ => ?_)
  obtain ⟨c, rfl, q1⟩ := q1
  cases r1
  refine wpAny_truthy_bool ?_
  cases c with
  | true => exact hb pins s1 σ H1 Q I1 q1
  | false => exact ⟨.bl false, H1, I1, rfl, q1⟩
theorem pe_or (ha : PE X a ta) (hb : PE X (.BoolOp .Or (b :: rest) pos) tb) : PE X (.BoolOp .Or (a :: b :: rest) pos) (tOrV ta tb) := by
  intro pins s σ H Q I h
  refine BoolOp_or (thn (ha pins s σ H _ I h) fun v s1 ⟨x, H1, I1, r1, q1⟩ => ?_)
  obtain ⟨c, rfl, q1⟩ := q1
  cases r1
  refine wpAny_truthy_bool ?_
  cases c with
  | false => exact hb pins s1 σ H1 Q I1 q1
  | true => exact ⟨.bl true, H1, I1, rfl, q1⟩
theorem pe_not (ha : PE X a ta) : PE X (.UnaryOp .Not a pos) (tNotV ta) := by
  intro pins s σ H Q I h
  refine UnaryOp_ (thn (ha pins s σ H _ I h) fun v s1 ⟨x, H1, I1, r1, q1⟩ => ?_)
  obtain ⟨c, rfl, q1⟩ := q1
  cases r1
  exact not_of (wpAny_truthy_bool ⟨.bl (!c), H1, I1, rfl, q1⟩)
/-- a if t else b -/
def tIf (t : TT) (ta tb : TE) : TE := fun σ H Q => t σ H fun c H1 => if c = true then ta σ H1 Q else tb σ H1 Q
theorem pe_ifExp {c : Expr} (hc : PT X c tA) (ha : PE X a ta) (hb : PE X b tb) : PE X (.IfExp c a b pos) (tIf tA ta tb) := by
  intro pins s σ H Q I h
  refine wpAny_IfExp (thn (hc pins s σ H _ I h) fun d s1 ⟨H1, I1, q1⟩ => ?_)
  cases d with
  | true => exact ha pins s1 σ H1 Q I1 q1
  | false => exact hb pins s1 σ H1 Q I1 q1
end
end L2

namespace L2
open PySem PySem.Spec PyProof.Rows

/-! ### a list, a tuple that is read: tracked, frozen, or an object of the module -/
def SqL (K : PySem.W.Frag) (H : Hp) (a : Addr) (xs : List V) : Prop :=
  Rd H a (.lst xs) ∨
    ∃ (o : Obj) (its : Array Value) (n : Nat), K.lookup a = some o ∧ o.cls = .type "list" ∧ o.dict = none ∧ o.data = .seq its n ∧ its.size ≤ sizeLine ∧ Vals xs its.toList
def SqT (K : PySem.W.Frag) (H : Hp) (a : Addr) (xs : List V) : Prop :=
  Rd H a (.tup xs) ∨
    ∃ (o : Obj) (its : Array Value) (n : Nat), K.lookup a = some o ∧ o.cls = .type "tuple" ∧ o.data = .seq its n ∧ its.size ≤ sizeLine ∧ Vals xs its.toList
def absV : Value → Option V
  | .none => some .non
  | .bool b => some (.bl b)
  | .int i _ => some (.int i)
  | .str x _ => some (.str x)
  | .bytes b _ => some (.byt b)
  | .float b _ => some (.flt b)
  | .ref a => some (.ref a)
  | .type n => some (.ty n)
  | _ => none
theorem RelV.abs {x : V} {u : Value} (r : RelV x u) : absV u = some x := by
  cases x with
  | non => cases r; rfl
  | bl _ => cases r; rfl
  | int _ => obtain ⟨t, rfl⟩ := r; rfl
  | str _ => obtain ⟨t, rfl⟩ := r; rfl
  | byt _ => obtain ⟨t, rfl⟩ := r; rfl
  | flt _ => obtain ⟨t, rfl⟩ := r; rfl
  | ref _ => cases r; rfl
  | ty _ => cases r; rfl
theorem RelV.inj {x y : V} {u : Value} (r : RelV x u) (q : RelV y u) : x = y := Option.some.inj (r.abs.symm.trans q.abs)
theorem Vals.inj : ∀ {xs ys : List V} {us : List Value}, Vals xs us → Vals ys us → xs = ys
  | _, _, _, .nil, .nil => rfl
  | _, _, _, .cons r t, .cons r' t' => by rw [r.inj r', Vals.inj t t']
section
variable {X : Cx} {pins : List (Addr × Obj)} {σ : St} {H : Hp} {s : Shared} {a : Addr} {xs ys : List V}
theorem SqL.of {K : PySem.W.Frag} (h : H a = some (.lst xs)) : SqL K H a xs := .inl (.inl h)
theorem SqT.of {K : PySem.W.Frag} (h : H a = some (.tup xs)) : SqT K H a xs := .inl (.inl h)
theorem Inv.list (I : Inv X pins σ H s) (h : SqL X.K H a xs) : ∃ its : List Value, Vals xs its ∧ PlainL s.heap a its.toArray ∧ xs.length ≤ sizeLine := by
  rcases h with h | ⟨o, its, n, hk, hc, hd, hs, hz, r⟩
  · obtain ⟨z, its, n, r, e⟩ := h.ok I.hok
    exact ⟨its, r, ⟨_, n, e, rfl, rfl, rfl⟩, z⟩
  · refine ⟨its.toList, r, ⟨o, n, I.kIn a o hk, hc, hd, by simpa using hs⟩, ?_⟩
    have e := r.length
    simp only [Array.length_toList] at e
    omega
theorem Inv.tuple (I : Inv X pins σ H s) (h : SqT X.K H a xs) : ∃ its : List Value, Vals xs its ∧ IsTup s.heap a its.toArray ∧ xs.length ≤ sizeLine := by
  rcases h with h | ⟨o, its, n, hk, hc, hs, hz, r⟩
  · obtain ⟨z, its, r, p⟩ := h.ok I.hok
    exact ⟨its, r, p, z⟩
  · refine ⟨its.toList, r, ⟨o, I.kIn a o hk, hc, n, by simpa using hs⟩, ?_⟩
    have e := r.length
    simp only [Array.length_toList] at e
    omega
theorem Inv.list_inj (I : Inv X pins σ H s) (h : SqL X.K H a xs) (h' : SqL X.K H a ys) : xs = ys := by
  obtain ⟨its, r, ⟨o, n, e, _, _, d⟩, _⟩ := I.list h
  obtain ⟨its', r', ⟨o', n', e', _, _, d'⟩, _⟩ := I.list h'
  rw [e] at e'; cases e'
  rw [d] at d'
  injection d' with d1 _
  have : its = its' := by simpa using congrArg Array.toList d1
  subst this
  exact r.inj r'
theorem Inv.tuple_inj (I : Inv X pins σ H s) (h : SqT X.K H a xs) (h' : SqT X.K H a ys) : xs = ys := by
  obtain ⟨its, r, ⟨o, e, _, n, d⟩, _⟩ := I.tuple h
  obtain ⟨its', r', ⟨o', e', _, n', d'⟩, _⟩ := I.tuple h'
  rw [e] at e'; cases e'
  rw [d] at d'
  injection d' with d1 _
  have : its = its' := by simpa using congrArg Array.toList d1
  subst this
  exact r.inj r'
end

/-! ### another wish about exceptions -/
abbrev Cx.wish (X : Cx) (E : Value → Shared → Prop) : Cx := { X with xe := E }
/-- no exception leaves -/
abbrev Cx.nox (X : Cx) : Cx := X.wish fun _ _ => False
theorem Cx.Ok.wish {X : Cx} (ok : X.Ok) (E : Value → Shared → Prop) : (X.wish E).Ok :=
  ⟨ok.mod, ok.kind, ok.glob, ok.blt, ok.above, ok.inj, ok.has, ok.cab, ok.hd, ok.frames, ok.stk, ok.exf, ok.bs, ok.bsz, ok.noex, ok.exfs, ok.funs, ok.frf⟩
theorem Cx.Ok.unwish {X : Cx} {E : Value → Shared → Prop} (ok : (X.wish E).Ok) : X.Ok :=
  ⟨ok.mod, ok.kind, ok.glob, ok.blt, ok.above, ok.inj, ok.has, ok.cab, ok.hd, ok.frames, ok.stk, ok.exf, ok.bs, ok.bsz, ok.noex, ok.exfs, ok.funs, ok.frf⟩
section
variable {X : Cx} {pins : List (Addr × Obj)} {σ : St} {H : Hp} {s : Shared} {E : Value → Shared → Prop}
theorem Inv.wish (I : Inv X pins σ H s) (E : Value → Shared → Prop) : Inv (X.wish E) pins σ H s := ⟨I.ok.wish E, I.os, I.bare, I.base, I.loc, I.cell, I.free, I.freeC, I.pin, I.hok, I.len⟩
theorem Inv.unwish (I : Inv (X.wish E) pins σ H s) : Inv X pins σ H s := ⟨I.ok.unwish, I.os, I.bare, I.base, I.loc, I.cell, I.free, I.freeC, I.pin, I.hok, I.len⟩
theorem SP.unwish {D : Ends} {f : Flow} {s' : Shared} (h : SP (X.wish E) pins D f s') : SP X pins D f s' := by
  cases f with
  | next => obtain ⟨σ', H', I, q⟩ := h; exact ⟨σ', H', I.unwish, q⟩
  | brk => obtain ⟨σ', H', I, q⟩ := h; exact ⟨σ', H', I.unwish, q⟩
  | cont => obtain ⟨σ', H', I, q⟩ := h; exact ⟨σ', H', I.unwish, q⟩
  | ret u => obtain ⟨v, σ', H', I, r, q⟩ := h; exact ⟨v, σ', H', I.unwish, r, q⟩
theorem PE.nox {e : Expr} {t : TE} (h : PE X.nox e t) : PE X e t := fun pins s σ H Q I hw =>
  wpAny_mono (h pins s σ H Q (I.wish _) hw) (fun _ _ ⟨v, H', I', r, q⟩ => ⟨v, H', I'.unwish, r, q⟩) fun _ _ z => False.elim z
theorem PT.nox {e : Expr} {t : TT} (h : PT X.nox e t) : PT X e t := fun pins s σ H Q I hw =>
  wpAny_mono (h pins s σ H Q (I.wish _) hw) (fun _ _ ⟨H', I', q⟩ => ⟨H', I'.unwish, q⟩) fun _ _ z => False.elim z
theorem PSs.nox {st : List Stmt} {t : TS} (h : PSs X.nox st t) : PSs X st t := fun pins s σ H D I hw =>
  wpAny_mono (h pins s σ H D (I.wish _) hw) (fun _ _ q => q.unwish) fun _ _ z => False.elim z
end

/-! ### blocks and small statements -/
section
variable {X : Cx} {st : Stmt} {rest : List Stmt} {t u : TS} {e : Expr} {te : TE} {pos : Pos}
def tNext : TS := fun D σ H => D.nx σ H
def tSeq (t u : TS) : TS := fun D σ H => t { D with nx := u D } σ H
theorem pss_nil : PSs X [] tNext := fun _ _ σ H _ I h => wpAny_execs_nil ⟨σ, H, I, h⟩
theorem pss_cons (h1 : PS X st t) (h2 : PSs X rest u) : PSs X (st :: rest) (tSeq t u) := by
  intro pins s σ H D I h
  refine wpAny_execs_cons (thn (h1 pins s σ H { D with nx := u D } I h) fun f s1 q => ?_)
  cases f with
  | next =>
    obtain ⟨σ', H', I', q⟩ := q
    exact h2 pins s1 σ' H' D I' q
  | ret v => exact q
  | brk => exact q
  | cont => exact q
theorem pss_one (h1 : PS X st t) : PSs X [st] t := by
  intro pins s σ H D I h
  refine wpAny_execs_cons (thn (h1 pins s σ H D I h) fun f s1 q => ?_)
  cases f with
  | next => exact wpAny_execs_nil q
  | ret v => exact q
  | brk => exact q
  | cont => exact q
def tBreak : TS := fun D σ H => D.bk σ H
def tCont : TS := fun D σ H => D.ct σ H
theorem ps_pass : PS X (.Pass pos) tNext := fun _ _ σ H _ I h => wpAny_Pass ⟨σ, H, I, h⟩
theorem ps_break : PS X (.Break pos) tBreak := fun _ _ σ H _ I h => wpAny_Break ⟨σ, H, I, h⟩
theorem ps_continue : PS X (.Continue pos) tCont := fun _ _ σ H _ I h => wpAny_Continue ⟨σ, H, I, h⟩
/-- in a def's body nothing is shown -/
theorem Inv.quiet {pins : List (Addr × Obj)} {σ : St} {H : Hp} {s : Shared} (I : Inv X pins σ H s) : interactive X.env = false := by simp [interactive, I.ok.kind]
/-- a docstring -/
theorem ps_doc {x j pos pos'} : PS X (.Expr (.Constant (.str x) j pos) pos') tNext := fun _ s σ H _ I h => wpAny_Expr (Calls.Constant_str (show SP X _ _ .next { s with toks := s.toks + 1 } from ⟨σ, H, I.tok _, h⟩)) I.quiet
/-- an expression whose value is dropped -/
def tDrop (te : TE) : TS := fun D σ H => te σ H fun _ H1 => D.nx σ H1
theorem ps_expr (he : PE X e te) (hs : swapsWith e none pos.line X.env = pure false := by rfl) : PS X (.Expr e pos) (tDrop te) := by
  intro pins s σ H D I h
  exact wpAny_Expr_any (thn (he pins s σ H _ I h) fun v s1 ⟨x, H1, I1, r1, q1⟩ => ⟨σ, H1, I1, q1⟩) I.quiet hs
def tRet (te : TE) : TS := fun D σ H => te σ H D.rt
theorem ps_ret (he : PE X e te) : PS X (.Return (some e) pos) (tRet te) := by
  intro pins s σ H D I h
  exact wpAny_Return_some (thn (he pins s σ H _ I h) fun v s1 ⟨x, H1, I1, r1, q1⟩ => ⟨x, σ, H1, I1, r1, q1⟩)
def tRetN : TS := fun D _ H => D.rt .non H
theorem ps_retN : PS X (.Return none pos) tRetN := fun _ _ σ H _ I h => wpAny_Return_none ⟨.non, σ, H, I, rfl, h⟩
def tIfS (c : TT) (t u : TS) : TS := fun D σ H => c σ H fun b H1 => if b = true then t D σ H1 else u D σ H1
theorem ps_if {c : Expr} {a b : List Stmt} {tc : TT} (hc : PT X c tc) (ha : PSs X a t) (hb : PSs X b u) : PS X (.If c a b pos) (tIfS tc t u) := by
  intro pins s σ H D I h
  refine wpAny_If (thn (hc pins s σ H _ I h) fun d s1 ⟨H1, I1, q1⟩ => ?_)
  cases d with
  | true => exact ha pins s1 σ H1 D I1 q1
  | false => exact hb pins s1 σ H1 D I1 q1
/-- code that the proof never comes to -/
def tNever : TS := fun _ _ _ => False
theorem ps_never : PS X st tNever := fun _ _ _ _ _ _ h => h.elim
theorem pss_never {sts : List Stmt} : PSs X sts tNever := fun _ _ _ _ _ _ h => h.elim
end

/-! ### targets -/
abbrev TG := V → St → Hp → (St → Hp → Prop) → Prop
abbrev TGs := List V → St → Hp → (St → Hp → Prop) → Prop
def PG (X : Cx) (target : Expr) (t : TG) : Prop :=
  ∀ (pins : List (Addr × Obj)) (s : Shared) (σ : St) (H : Hp) (v : V) (u : Value) (Q : St → Hp → Prop), Inv X pins σ H s → RelV v u → t v σ H Q →
    wpAny (model X.prog X.w) X.A (assign target X.env u) (fun _ s' => ∃ σ' H', Inv X pins σ' H' s' ∧ Q σ' H') X.xe s
/-- several targets, one after another -/
def PGs (X : Cx) (ts : List Expr) (t : TGs) : Prop :=
  ∀ (pins : List (Addr × Obj)) (s : Shared) (σ : St) (H : Hp) (vs : List V) (us : List Value) (Q : St → Hp → Prop), Inv X pins σ H s → Vals vs us → t vs σ H Q →
    wpAny (model X.prog X.w) X.A (assignInOrder ((assignEach ts X.env).map (·.2)) us) (fun _ s' => ∃ σ' H', Inv X pins σ' H' s' ∧ Q σ' H') X.xe s
/-- o[i] = v, by values -/
abbrev TSet := V → V → V → Hp → (Hp → Prop) → Prop
def PSet (X : Cx) (t : TSet) : Prop :=
  ∀ (pins : List (Addr × Obj)) (s : Shared) (σ : St) (H : Hp) (o i v : V) (ov iv u : Value) (Q : Hp → Prop), Inv X pins σ H s → RelV o ov → RelV i iv → RelV v u → t o i v H Q →
    wpAny (model X.prog X.w) X.A (setItem ov iv u) (fun _ s' => ∃ H', Inv X pins σ H' s' ∧ Q H') X.xe s
/-- a op= b, by values -/
abbrev TIp := V → V → Hp → VK → Prop
def PIp (X : Cx) (op : Operator) (t : TIp) : Prop :=
  ∀ (pins : List (Addr × Obj)) (s : Shared) (σ : St) (H : Hp) (x y : V) (v u : Value) (Q : VK), Inv X pins σ H s → RelV x v → RelV y u → t x y H Q →
    wpAny (model X.prog X.w) X.A (inplaceOp op v u) (EP X pins σ Q) X.xe s
section
variable {X : Cx} {pos : Pos}
def gName (i : Nat) : TG := fun v σ H Q => Q (σ.set i (some v)) H
theorem pg_name {i : Nat} {x : Str} (hN : X.N.Nodup) (hi : X.N[i]? = some x) (hx : Loc X.env.scope x) (hf : X.fn x = true ∨ X.env.scope.names.lookup x = some .local := by first | exact .inl rfl | exact .inr rfl | assumption) : PG X (.Name x pos) (gName i) := by
  intro pins s σ H v u Q I r h
  exact wpAny_assign_Name (store_ok I hN hi hx r (fun s' I' => ⟨_, H, I', h⟩) hf)
def gNil : TGs := fun vs σ H Q => vs = [] ∧ Q σ H
def gCons (t : TG) (u : TGs) : TGs := fun vs σ H Q => ∃ v r, vs = v :: r ∧ t v σ H fun σ' H' => u r σ' H' Q
theorem pgs_nil : PGs X [] gNil := by
  intro pins s σ H vs us Q I r h
  obtain ⟨e, h⟩ := h
  subst e
  cases r
  exact assignInOrder_nil ⟨σ, H, I, h⟩
theorem pgs_cons {e : Expr} {es : List Expr} {t : TG} {u : TGs} (h1 : PG X e t) (h2 : PGs X es u)
    (hs : (assignEach (e :: es) X.env).map (·.2) = assign e X.env :: (assignEach es X.env).map (·.2) := by rfl) : PGs X (e :: es) (gCons t u) := by
  intro pins s σ H vs us Q I r h
  obtain ⟨v, vr, e1, h⟩ := h
  subst e1
  cases r with
  | cons r rr =>
    rw [hs]
    refine assignInOrder_cons (thn (h1 pins s σ H _ _ _ I r h) fun _ s1 ⟨σ1, H1, I1, q1⟩ => ?_)
    exact h2 pins s1 σ1 H1 _ _ Q I1 rr q1
/-- (a, b, ..) = a tuple of that length -/
def gTup (K : PySem.W.Frag) (n : Nat) (t : TGs) : TG := fun v σ H Q => ∃ a xs, v = .ref a ∧ SqT K H a xs ∧ xs.length = n ∧ t xs σ H Q
theorem pg_tup {es : List Expr} {k : Nat} {t : TGs} {n : Nat} (hc : X.calm = true) (h : PGs X es t)
    (hn : (assignEach es X.env).length = n := by rfl) (hst : (assignEach es X.env).findIdx? (·.1) = none := by rfl) : PG X (.Tuple es k pos) (gTup X.K n t) := by
  intro pins s σ H v u Q I r hw
  obtain ⟨a, xs, e1, hq, hl, hw⟩ := hw
  subst e1
  cases r
  obtain ⟨its, rv, ht, hz⟩ := I.tuple hq
  refine assign_Tuple_tuple (I.ok.hd hc) ht (by simp [hn, ← hl, rv.length]) hst fun h' hx => ?_
  have I1 : Inv X pins σ H { s with heap := h' } := I.kept (t' := s.toks) fun b o e => hx b o (Nat.ne_of_lt (Heap.lt_size e)) e
  exact h pins _ σ H xs _ Q I1 (by simpa using rv) hw
/-- o[i] = .. -/
def gSub (to ti : TE) (t : TSet) : TG := fun v σ H Q => to σ H fun o H1 => ti σ H1 fun i H2 => t o i v H2 fun H3 => Q σ H3
theorem pg_sub {o i : Expr} {to ti : TE} {t : TSet} (ho : PE X o to) (hi : PE X i ti) (hs : PSet X t)
    (ha : ∀ v, assign (.Subscript o i pos) X.env v = (do
      let ov ← holding [v] (eval o X.env)
      let iv ← holding [v, ov] (eval i X.env)
      standAt pos
      holding [v, ov, iv] (setItem ov iv v)
      release [v, ov, iv] []) := by intro _; rfl) : PG X (.Subscript o i pos) (gSub to ti t) := by
  intro pins s σ H v u Q I r h
  rw [ha]
  refine wpAny_bind (wpAny_holding (thn (ho pins s σ H _ I h) fun ov s1 ⟨x, H1, I1, r1, q1⟩ => ?_))
  refine wpAny_bind (wpAny_holding (thn (hi pins s1 σ H1 _ I1 q1) fun iv s2 ⟨y, H2, I2, r2, q2⟩ => ?_))
  refine wpAny_bind (wpAny_standAt (wpAny_bind (wpAny_holding (thn (hs pins s2 σ H2 x y v ov iv u _ I2 r1 r2 r q2) fun _ s3 ⟨H3, I3, q3⟩ => ?_))))
  exact wpAny_release ⟨σ, H3, I3, q3⟩
/-- target = value -/
def tAsg (te : TE) (g : TG) : TS := fun D σ H => te σ H fun x H1 => g x σ H1 D.nx
theorem ps_asg {tg e : Expr} {te : TE} {g : TG} (he : PE X e te) (hg : PG X tg g) (hs : swapsWithSole [tg] e pos.line X.env = pure false := by rfl) (hw : swappedStores [tg] e X.env = pure none := by rfl)
    (h1 : (assignEach [tg] X.env).map (·.2) = [assign tg X.env] := by rfl) : PS X (.Assign [tg] e pos) (tAsg te g) := by
  intro pins s σ H D I h
  refine wpAny_Assign_stores (thn (he pins s σ H _ I h) fun v s1 ⟨x, H1, I1, r1, q1⟩ => ?_) hs hw
  rw [h1]
  exact thn (hg pins s1 σ H1 x v _ I1 r1 q1) fun _ s2 q => q
/-- name = value -/
theorem ps_set {i : Nat} {x : Str} {e : Expr} {te : TE} {pos' : Pos} (hN : X.N.Nodup) (hi : X.N[i]? = some x) (hx : Loc X.env.scope x) (he : PE X e te) (hs : swapsWith e (some (.Name x pos')) pos.line X.env = pure false := by rfl) (hf : X.fn x = true ∨ X.env.scope.names.lookup x = some .local := by first | exact .inl rfl | exact .inr rfl | assumption) :
    PS X (.Assign [.Name x pos'] e pos) (tAsg te (gName i)) := by
  intro pins s σ H D I h
  refine wpAny_Assign_Name (thn (he pins s σ H _ I h) fun v s1 ⟨y, H1, I1, r1, q1⟩ => ?_) hs
  exact store_ok I1 hN hi hx r1 (fun s2 I2 => ⟨_, H1, I2, q1⟩) hf
/-- a, b = x, y with plain local names: stored from the right; the pair itself is not tracked (the opening rows as in PyProof/Rows/TupAssign.lean:23) -/
def tPar (i j : Nat) (ta : TA) : TS := fun D σ H => ta σ H fun vs H1 => ∃ v w, vs = [v, w] ∧ D.nx ((σ.set i (some v)).set j (some w)) H1
theorem ps_par {i j : Nat} {x y : Str} {a b : Expr} {ta : TA} {px py pt : Pos} {kt k2 pt2} (hc : X.calm = true) (hN : X.N.Nodup) (hi : X.N[i]? = some x) (hj : X.N[j]? = some y) (hij : i ≠ j)
    (hx : X.env.scope.names.lookup x = some .local) (hy : X.env.scope.names.lookup y = some .local) (ha : PA X [a, b] ta)
    (hw : swappedStores [.Tuple [.Name x px, .Name y py] kt pt] (.Tuple [a, b] k2 pt2) X.env = pure (some [x, y]))
    (hs : swapsWithSole [.Tuple [.Name x px, .Name y py] kt pt] (.Tuple [a, b] k2 pt2) pos.line X.env = pure false := by rfl) :
    PS X (.Assign [.Tuple [.Name x px, .Name y py] kt pt] (.Tuple [a, b] k2 pt2) pos) (tPar i j ta) := by
  intro pins s σ H D I h
  rw [exec_Assign_arm]
  refine wpAny_bind (wpAny_standAt ?_)
  rw [hs]
  refine wpAny_bind (wpAny_pure ?_)
  rw [if_neg (by decide)]
  refine wpAny_bind (Tuple_ (thn (ha _ pins s σ H _ I h) fun us s1 ⟨vs, H1, I1, r1, q1⟩ => ?_))
  obtain ⟨v, w, e1, q1⟩ := q1
  subst e1
  obtain ⟨u1, u2, rfl, rv, rw'⟩ : ∃ u1 u2, us = [u1, u2] ∧ RelV v u1 ∧ RelV w u2 := by
    cases r1 with
    | cons p q =>
      cases q with
      | cons p' q' =>
        cases q'
        exact ⟨_, _, rfl, p, p'⟩
  refine wpAny_newObj_type ?_ (by show 2 ≤ sizeLine; decide)
  have I2 : Inv X pins σ H1 { s1 with heap := s1.heap.push { cls := .type "tuple", data := .seq [u1, u2].toArray } } := I1.kept (t' := s1.toks) fun b o e => Heap.get?_push_of_some _ e
  rw [hw]
  refine wpAny_bind (wpAny_pure ?_)
  show wpAny (model X.prog X.w) X.A (do rule "assign.swapped-stores"; let items ← unpackItems (.ref s1.heap.objs.size) 2 none; assignInOrder [fun v => bindName X.env y v, fun v => bindName X.env x v] items.reverse; pure Flow.next) _ _ _
  refine wpAny_bind (wpAny_rule (wpAny_bind (unpackItems_tuple (items := #[u1, u2]) (I.ok.hd hc) (IsTup.new s1.heap _) fun h' hx' => ?_)))
  have I3 := I2.kept (h' := h') (t' := s1.toks) fun b o e => hx' b o (Nat.ne_of_lt (Heap.lt_size e)) e
  show wpAny _ _ (assignInOrder [fun v => bindName X.env y v, fun v => bindName X.env x v] [u2, u1] >>= fun _ => pure Flow.next) _ _ _
  refine wpAny_bind (assignInOrder_cons (wpAny_bindName (store_ok I3 hN hj (.inl hy) rw' (fun s2 I4 => ?_) (.inr hy))))
  refine assignInOrder_cons (wpAny_bindName (store_ok I4 hN hi (.inl hx) rv (fun s3 I5 => assignInOrder_nil (wpAny_pure ?_)) (.inr hx)))
  rw [List.set_comm _ _ (Ne.symm hij)] at I5
  exact ⟨_, H1, I5, q1⟩
/-- name op= e -/
def tAug (i : Nat) (te : TE) (ti : TIp) : TS := fun D σ H => ∃ x, σ[i]? = some (some x) ∧ te σ H fun y H1 => ti x y H1 fun z H2 => D.nx (σ.set i (some z)) H2
theorem ps_aug {i : Nat} {x : Str} {e : Expr} {te : TE} {op : Operator} {ti : TIp} {pos' : Pos} (hN : X.N.Nodup) (hi : X.N[i]? = some x) (hx : Loc X.env.scope x) (he : PE X e te) (ho : PIp X op ti) (hf : X.fn x = true ∨ X.env.scope.names.lookup x = some .local := by first | exact .inl rfl | exact .inr rfl | assumption) :
    PS X (.AugAssign (.Name x pos') op e pos) (tAug i te ti) := by
  intro pins s σ H D I h
  obtain ⟨v, e1, h⟩ := h
  obtain ⟨m, hn, hl⟩ := I.loc
  have vis : Vis X.env.scope x := by rcases hx with k | k; exact .inl k; exact .inr (.inl k)
  obtain ⟨u, r, l⟩ := hl i x v hi e1 vis
  refine wpAny_AugAssign_Name ?_
  have go : wpAny (model X.prog X.w) X.A (eval e X.env) (fun w s₂ => wpAny (model X.prog X.w) X.A (inplaceOp op u w) (fun r s₃ => wpAny (model X.prog X.w) X.A (storeName X.env x r) (fun _ => SP X pins D .next) X.xe s₃) X.xe s₂) X.xe s := by
    refine thn (he pins s σ H _ I h) fun w s1 ⟨y, H1, I1, r1, q1⟩ => ?_
    refine thn (ho pins s1 σ H1 v y u w _ I1 r r1 q1) fun z s2 ⟨zv, H2, I2, r2, q2⟩ => ?_
    exact store_ok I2 hN hi hx r2 (fun s3 I3 => ⟨_, H2, I3, q2⟩) hf
  rcases l with ⟨hk, hm⟩ | ⟨hk, c, hc, hcell⟩
  · exact wpAny_loadName_local I.ok.kind hk hn hm go
  · rcases hk with hk | hk
    · exact wpAny_loadName_cell I.ok.kind hk hc hcell go
    · rcases hx with k | k
      · have : X.env.scope.names.lookup x = some .free := hk
        rw [k] at this; cases this
      · have : X.env.scope.names.lookup x = some .free := hk
        rw [k] at this; cases this
/-- o[i] op= e -/
def tAugS (to ti te : TE) (tget : V → V → Hp → VK → Prop) (tip : TIp) (tset : TSet) : TS := fun D σ H => to σ H fun o H1 => ti σ H1 fun i H2 => tget o i H2 fun x H3 => te σ H3 fun y H4 => tip x y H4 fun z H5 => tset o i z H5 fun H6 => D.nx σ H6
/-- o[i], by values -/
def PGet (X : Cx) (t : V → V → Hp → VK → Prop) : Prop :=
  ∀ (pins : List (Addr × Obj)) (s : Shared) (σ : St) (H : Hp) (o i : V) (ov iv : Value) (Q : VK), Inv X pins σ H s → RelV o ov → RelV i iv → t o i H Q →
    wpAny (model X.prog X.w) X.A (getItem ov iv) (EP X pins σ Q) X.xe s
theorem ps_augS {o i e : Expr} {to ti te : TE} {tget : V → V → Hp → VK → Prop} {tip : TIp} {tset : TSet} {op : Operator} {tpos : Pos} (ho : PE X o to) (hi : PE X i ti) (hg : PGet X tget) (he : PE X e te) (hp : PIp X op tip) (hs : PSet X tset)
    (ha : ∀ ov iv new, augStore i ov iv new = (do holding [new, ov, iv] (setItem ov iv new); release [new, ov, iv] []; pure .next) := by intros; rfl) : PS X (.AugAssign (.Subscript o i tpos) op e pos) (tAugS to ti te tget tip tset) := by
  intro pins s σ H D I h
  refine wpAny_AugAssign_SubscriptAny (thn (ho pins s σ H _ I h) fun ov s1 ⟨x1, H1, I1, r1, q1⟩ => ?_) ha
  refine thn (hi pins s1 σ H1 _ I1 q1) fun iv s2 ⟨x2, H2, I2, r2, q2⟩ => ?_
  refine thn (hg pins s2 σ H2 x1 x2 ov iv _ I2 r1 r2 q2) fun old s3 ⟨x3, H3, I3, r3, q3⟩ => ?_
  refine thn (he pins s3 σ H3 _ I3 q3) fun v s4 ⟨x4, H4, I4, r4, q4⟩ => ?_
  refine thn (hp pins s4 σ H4 x3 x4 old v _ I4 r3 r4 q4) fun new s5 ⟨x5, H5, I5, r5, q5⟩ => ?_
  exact thn (hs pins s5 σ H5 x1 x2 x5 ov iv new _ I5 r1 r2 r5 q5) fun _ s6 ⟨H6, I6, q6⟩ => ⟨σ, H6, I6, q6⟩
/-- ints -/
def ipI (f : Int → Int → Int) : TIp := fun x y H Q => ∃ i j, x = .int i ∧ y = .int j ∧ Q (.int (f i j)) H
theorem ip_add : PIp X .Add (ipI fun i j => i + j) := by
  intro pins s σ H x y v u Q I r1 r2 h
  obtain ⟨i, j, e1, e2, q⟩ := h
  subst e1; subst e2
  obtain ⟨t, rfl⟩ := r1
  obtain ⟨t', rfl⟩ := r2
  exact iadd_int ⟨.int _, H, I.tok _, ⟨_, rfl⟩, q⟩
theorem ip_sub : PIp X .Sub (ipI fun i j => i - j) := by
  intro pins s σ H x y v u Q I r1 r2 h
  obtain ⟨i, j, e1, e2, q⟩ := h
  subst e1; subst e2
  obtain ⟨t, rfl⟩ := r1
  obtain ⟨t', rfl⟩ := r2
  exact isub_int ⟨.int _, H, I.tok _, ⟨_, rfl⟩, q⟩
end

/-! ### while -/
section
variable {X : Cx} {pos : Pos}
/-- the invariant W with its measure -/
def tWhile (c : TT) (tb : TS) : TS := fun D σ H => ∃ W : Nat → St → Hp → Prop, (∃ m, W m σ H) ∧ ∀ m σ H, W m σ H →
  c σ H fun b H1 => if b = true then ∃ N : St → Hp → Prop, (∀ σ' H', N σ' H' → ∃ m', m' < m ∧ W m' σ' H') ∧ tb { D with nx := N, ct := N, bk := D.nx } σ H1 else D.nx σ H1
theorem ps_while {c : Expr} {body : List Stmt} {tc : TT} {tb : TS} (hp : PassesOwn (model X.prog X.w) X.A X.env X.xe) (hc : PT X c tc) (hb : PSs X body tb) : PS X (.While c body [] pos) (tWhile tc tb) := by
  intro pins s σ H D I h
  obtain ⟨W, ⟨m0, w0⟩, turn⟩ := h
  refine wpAny_While (codeAny_whileLoop (fun n s' => ∃ σ' H', Inv X pins σ' H' s' ∧ W n σ' H') ?_ m0 ⟨σ, H, I, w0⟩)
  rintro n s1 ⟨σ1, H1, I1, w1⟩
  refine wpAny_passesOwn hp (thn (hc pins s1 σ1 H1 _ I1 (turn n σ1 H1 w1)) fun b s2 ⟨H2, I2, q2⟩ => ?_)
  cases b with
  | true =>
    obtain ⟨N, hN, q2⟩ := q2
    rw [if_pos rfl]
    refine wpAny_passesOwn hp (thn (hb pins s2 σ1 H2 _ I2 q2) fun f s3 q3 => ?_)
    cases f with
    | next =>
      obtain ⟨σ3, H3, I3, n3⟩ := q3
      obtain ⟨m', hm, w3⟩ := hN σ3 H3 n3
      exact ⟨m', hm, σ3, H3, I3, w3⟩
    | cont =>
      obtain ⟨σ3, H3, I3, n3⟩ := q3
      obtain ⟨m', hm, w3⟩ := hN σ3 H3 n3
      exact ⟨m', hm, σ3, H3, I3, w3⟩
    | brk => exact q3
    | ret v => exact q3
  | false =>
    rw [if_neg Bool.false_ne_true]
    exact wpAny_execs_nil ⟨σ1, H2, I2, q2⟩
end

/-! ### what a loop or a comprehension walks -/
/-- at turn i: it yields x (the heap may grow), or it stops -/
structure It where
  go : Nat → Hp → Prop
  yld : Nat → Hp → V → Hp → Prop
  stop : Nat → Hp → Prop
/-- the iterator's own objects may turn: they are not the frame's, not pinned, younger than the entry (or a comprehension's own) -/
def FpOk (X : Cx) (pins : List (Addr × Obj)) (H : Hp) (b : Addr) : Prop :=
  H b = none ∧ b ≠ X.env.locals ∧ b ∉ X.fs ∧ (b ∈ X.ex ∨ X.s₀.heap.objs.size ≤ b) ∧ (∀ x c, X.env.cells.lookup x = some c → c ≠ b) ∧ ∀ p ∈ X.pn ++ pins, p.1 ≠ b
theorem Inv.fpOk {X : Cx} {pins : List (Addr × Obj)} {σ : St} {H H' : Hp} {s : Shared} {b : Addr} (I : Inv X pins σ H s) (hb : s.heap.objs.size ≤ b) (hn : H' b = none) : FpOk X pins H' b := by
  refine ⟨hn, Nat.ne_of_gt (Nat.lt_of_lt_of_le I.lt hb), I.nofs hb, .inr (Nat.le_trans I.sz hb), fun x c e z => ?_, fun p hp z => ?_⟩
  · obtain ⟨v, q⟩ := I.cell x c e
    exact absurd (Nat.lt_of_lt_of_le q.lt (by rw [z]; exact hb)) (Nat.lt_irrefl _)
  · exact absurd (Nat.lt_of_lt_of_le (Heap.lt_size (I.pin p hp).1) (by rw [z]; exact hb)) (Nat.lt_irrefl _)
structure Turn (P : Program) (w : World) (K : PySem.W.Frag) (tg : Expr) (J : It) (fp : List Addr) (it : Addr) (tn : Nat → Heap → Prop) : Prop where
  mem : it ∈ fp
  obj : ∀ i h, tn i h → ∀ b ∈ fp, ∃ o, h.get? b = some o ∧ ∀ v, o.data ≠ .cell v
  keep : ∀ i h h', tn i h → (∀ b ∈ fp, ∀ o, h.get? b = some o → h'.get? b = some o) → tn i h'
  item : ∀ (X : Cx), X.prog = P → X.w = w → X.K = K → X.calm = true → ∀ (i : Nat) (pins : List (Addr × Obj)) (s : Shared) (σ : St) (H : Hp) (E : Value → Shared → Prop), Inv X pins σ H s → (∀ b ∈ fp, FpOk X pins H b) → tn i s.heap → J.go i H →
    wpAny (model P w) X.A (pyNext (.ref it)) (fun r s1 => ∃ u, r = some u ∧
      wpAny (model P w) X.A (letOwnedTupleGo tg (.ref it) u) (fun _ s2 => ∃ x H', Inv X pins σ H' s2 ∧ RelV x u ∧ J.yld i H x H' ∧ tn (i + 1) s2.heap ∧ ∀ b ∈ fp, H' b = none) E s1) E s
  done : ∀ (X : Cx), X.prog = P → X.w = w → X.K = K → X.calm = true → ∀ (i : Nat) (pins : List (Addr × Obj)) (s : Shared) (σ : St) (H : Hp) (E : Value → Shared → Prop), Inv X pins σ H s → (∀ b ∈ fp, FpOk X pins H b) → tn i s.heap → J.stop i H →
    wpAny (model P w) X.A (pyNext (.ref it)) (fun r s1 => r = none ∧ Inv X pins σ H s1) E s
  self : ∀ (A : Around) (i : Nat) (s : Shared) (Q : Value → Shared → Prop) (E : Value → Shared → Prop), tn i s.heap → Q (.ref it) s → wpAny (model P w) A (pyIter (.ref it)) Q E s
abbrev TI := St → Hp → (It → Hp → Prop) → Prop
/-- an iterator has come -/
def PIE (X : Cx) (pins : List (Addr × Obj)) (σ : St) (tg : Expr) (R : It → Hp → Prop) (itv : Value) (s2 : Shared) : Prop :=
  ∃ (it : Addr) (fp : List Addr) (tn : Nat → Heap → Prop) (J : It) (H' : Hp), itv = .ref it ∧ Inv X pins σ H' s2 ∧ Turn X.prog X.w X.K tg J fp it tn ∧ tn 0 s2.heap ∧ (∀ b ∈ fp, FpOk X pins H' b) ∧ R J H'
def PI (X : Cx) (tg iter : Expr) (wi : TI) : Prop :=
  ∀ (pins : List (Addr × Obj)) (s : Shared) (σ : St) (H : Hp) (R : It → Hp → Prop), Inv X pins σ H s → wi σ H R →
    wpAny (model X.prog X.w) X.A (eval iter X.env) (fun v s1 => wpAny (model X.prog X.w) X.A (pyIter v) (PIE X pins σ tg R) X.xe s1) X.xe s

/-- the step ahead of the store is nothing for an iterator that keeps no tuple -/
theorem go_of {M : Model} {A : Around} {E : Value → Shared → Prop} {s : Shared} {tg : Expr} {it : Addr} {u : Value} {o : Obj} {n : String} {vs : Array Value} {Q : Unit → Shared → Prop} (ho : s.heap.get? it = some o) (hc : o.cls = .type n) (hd : o.data = .fields vs)
    (hn : ["enumerate", "zip", "dict_itemiterator", "dict_reverseitemiterator", "odict_iterator", "itertools.zip_longest", "itertools.pairwise"].contains n = false) (hQ : Q () s) : wpAny M A (letOwnedTupleGo tg (.ref it) u) Q E s := by
  unfold letOwnedTupleGo
  cases tg <;> first
    | exact wpAny_pure hQ
    | (cases u <;> first
        | exact wpAny_pure hQ
        | (refine wpAny_bind (wpAny_load ho ?_)
           rw [hc, hd]
           show wpAny M A (if (["enumerate", "zip", "dict_itemiterator", "dict_reverseitemiterator", "odict_iterator", "itertools.zip_longest", "itertools.pairwise"].contains n && vs[0]? == some (rawInt _)) = true then _ else _) Q E s
           rw [if_neg (by intro h; rw [hn, Bool.false_and] at h; cases h)]
           exact wpAny_pure hQ))

/-- the list at a, as it stands at each turn (a loop may append to it) -/
def Itl (K : PySem.W.Frag) (a : Addr) : It :=
  ⟨fun i H => ∃ xs x, SqL K H a xs ∧ xs[i]? = some x, fun i H x H' => H' = H ∧ ∀ xs, SqL K H a xs → xs[i]? = some x, fun i H => ∃ xs, SqL K H a xs ∧ xs.length ≤ i⟩
def Itt (K : PySem.W.Frag) (a : Addr) : It :=
  ⟨fun i H => ∃ xs x, SqT K H a xs ∧ xs[i]? = some x, fun i H x H' => H' = H ∧ ∀ xs, SqT K H a xs → xs[i]? = some x, fun i H => ∃ xs, SqT K H a xs ∧ xs.length ≤ i⟩
/-- lo, lo + 1, .. (n of them) -/
def Itr (lo : Int) (n : Nat) : It := ⟨fun i _ => i < n, fun i H x H' => H' = H ∧ x = .int (lo + i), fun i _ => n ≤ i⟩
theorem turn_list {P : Program} {w : World} {K : PySem.W.Frag} {tg : Expr} (a it : Addr) : Turn P w K tg (Itl K a) [it] it (fun i h => h.IsListIter it a i) where
  mem := by simp
  obj := fun i h st b hb => by
    have e : b = it := by simpa using hb
    subst e
    obtain ⟨o, e, c, d⟩ := st
    exact ⟨o, e, fun v z => by rw [d] at z; cases z⟩
  keep := fun i h h' st k => st.at fun o e => k it (by simp) o e
  item := by
    intro X hP hw hK hc i pins s σ H E I hf st hg
    subst hP hw hK
    obtain ⟨xs, x, hq, hx⟩ := hg
    obtain ⟨its, rv, p, hz⟩ := I.list hq
    obtain ⟨u, hu, ru⟩ := rv.get hx
    obtain ⟨f0, f1, f2, f3, f4, f5⟩ := hf it (by simp)
    refine wpAny_pyNext_list_item st p.isList (x := u) (by simpa using hu) fun h' st' sb => ?_
    have I1 : Inv X pins σ H { s with heap := h' } := I.turned (t' := s.toks) (fun b o hb e => (sb.2 b hb).trans e) f0 f1 f3 f4 f5
    obtain ⟨o, e, c, d⟩ := id st'
    exact ⟨u, rfl, go_of (s := { s with heap := h' }) e c d (by decide) ⟨x, H, I1, ru, ⟨rfl, fun ys hy => by rw [I.list_inj hy hq]; exact hx⟩, st', fun b hb => (hf b hb).1⟩⟩
  done := by
    intro X hP hw hK hc i pins s σ H E I hf st hg
    subst hP hw hK
    obtain ⟨xs, hq, hx⟩ := hg
    obtain ⟨its, rv, p, hz⟩ := I.list hq
    obtain ⟨f0, f1, f2, f3, f4, f5⟩ := hf it (by simp)
    have hl := rv.length
    exact wpAny_pyNext_list_end (I.ok.hd hc) st p.isList (by simp; omega) fun h' eb => ⟨rfl, I.turned (t' := s.toks) (fun b o hb e => eb b o hb e) f0 f1 f3 f4 f5⟩
  self := fun _ _ _ _ _ st h => wpAny_pyIter_listiter st h
theorem turn_tuple {P : Program} {w : World} {K : PySem.W.Frag} {tg : Expr} (a it : Addr) : Turn P w K tg (Itt K a) [it] it (fun i h => h.IsTupleIter it a i) where
  mem := by simp
  obj := fun i h st b hb => by
    have e : b = it := by simpa using hb
    subst e
    obtain ⟨o, e, c, d⟩ := st
    exact ⟨o, e, fun v z => by rw [d] at z; cases z⟩
  keep := fun i h h' st k => st.at fun o e => k it (by simp) o e
  item := by
    intro X hP hw hK hc i pins s σ H E I hf st hg
    subst hP hw hK
    obtain ⟨xs, x, hq, hx⟩ := hg
    obtain ⟨its, rv, p, hz⟩ := I.tuple hq
    obtain ⟨u, hu, ru⟩ := rv.get hx
    obtain ⟨f0, f1, f2, f3, f4, f5⟩ := hf it (by simp)
    refine wpAny_pyNext_tuple_item st (show s.heap.IsTuple a its.toArray from p) (x := u) (by simpa using hu) fun h' st' sb => ?_
    have I1 : Inv X pins σ H { s with heap := h' } := I.turned (t' := s.toks) (fun b o hb e => (sb.2 b hb).trans e) f0 f1 f3 f4 f5
    obtain ⟨o, e, c, d⟩ := id st'
    exact ⟨u, rfl, go_of (s := { s with heap := h' }) e c d (by decide) ⟨x, H, I1, ru, ⟨rfl, fun ys hy => by rw [I.tuple_inj hy hq]; exact hx⟩, st', fun b hb => (hf b hb).1⟩⟩
  done := by
    intro X hP hw hK hc i pins s σ H E I hf st hg
    subst hP hw hK
    obtain ⟨xs, hq, hx⟩ := hg
    obtain ⟨its, rv, p, hz⟩ := I.tuple hq
    obtain ⟨f0, f1, f2, f3, f4, f5⟩ := hf it (by simp)
    have hl := rv.length
    exact wpAny_pyNext_tuple_end (I.ok.hd hc) st (show s.heap.IsTuple a its.toArray from p) (by simp; omega) fun h' eb => ⟨rfl, I.turned (t' := s.toks) (fun b o hb e => eb b o hb e) f0 f1 f3 f4 f5⟩
  self := fun _ _ _ _ _ st h => wpAny_pyIter_tupleiter st h
theorem turn_range {P : Program} {w : World} {K : PySem.W.Frag} {tg : Expr} (it : Addr) (lo : Int) (n : Nat) : Turn P w K tg (Itr lo n) [it] it (fun i h => IsRangeIter h it (lo + (i : Nat) * 1) ((n : Int) - (i : Nat)) 1) where
  mem := by simp
  obj := fun i h st b hb => by
    have e : b = it := by simpa using hb
    subst e
    exact ⟨_, st, fun v z => by
      have z' : Data.fields _ = Data.cell v := z
      cases z'⟩
  keep := fun i h h' st k => k it (by simp) _ st
  item := by
    intro X hP hw hK hc i pins s σ H E I hf st hg
    subst hP hw hK
    obtain ⟨f0, f1, f2, f3, f4, f5⟩ := hf it (by simp)
    have W := Walks.range (prog := X.prog) (w := X.w) (I.ok.hd hc) it lo 1 n
    refine W.item i s _ _ hg st fun v h' tk hv st' kk => ?_
    obtain ⟨t, rfl⟩ := hv
    have I1 : Inv X pins σ H { s with heap := h', toks := tk } := I.turned (fun b o hb e => kk b o (by simpa using hb) e) f0 f1 f3 f4 f5
    refine ⟨_, rfl, go_of (s := { s with heap := h', toks := tk }) (n := "range_iterator") st' rfl rfl (by decide) ⟨.int (lo + i), H, I1, ⟨t, ?_⟩, ⟨rfl, rfl⟩, st', fun b hb => (hf b hb).1⟩⟩
    rw [Int.mul_one]
  done := by
    intro X hP hw hK hc i pins s σ H E I hf st hg
    subst hP hw hK
    obtain ⟨f0, f1, f2, f3, f4, f5⟩ := hf it (by simp)
    exact wpAny_pyNext_range_end (I.ok.hd hc) st (by have : n ≤ i := hg; omega) fun h' eb => ⟨rfl, I.turned (t' := s.toks) (fun b o hb e => eb b o hb e) f0 f1 f3 f4 f5⟩
  self := fun _ _ _ _ _ st h => wpAny_pyIter_rangeiter st h
end L2

namespace L2
open PySem PySem.Spec PyProof.Rows
section
variable {X : Cx} {tg : Expr}
def iList (K : PySem.W.Frag) (tl : TE) : TI := fun σ H R => tl σ H fun x H1 => ∃ a, x = .ref a ∧ (∃ xs, SqL K H1 a xs) ∧ R (Itl K a) H1
def iTup (K : PySem.W.Frag) (tl : TE) : TI := fun σ H R => tl σ H fun x H1 => ∃ a, x = .ref a ∧ (∃ xs, SqT K H1 a xs) ∧ R (Itt K a) H1
theorem pi_list {l : Expr} {tl : TE} (hl : PE X l tl) : PI X tg l (iList X.K tl) := by
  intro pins s σ H R I h
  refine thn (hl pins s σ H _ I h) fun v s1 ⟨x, H1, I1, r1, q1⟩ => ?_
  obtain ⟨a, e, ⟨xs, hq⟩, q⟩ := q1
  subst e
  cases r1
  obtain ⟨its, rv, p, hz⟩ := I1.list hq
  refine wpAny_pyIter_list p.isList ?_
  refine ⟨s1.heap.objs.size, [s1.heap.objs.size], _, _, H1, rfl, I1.kept (t' := s1.toks) fun b o e => Heap.get?_push_of_some _ e, turn_list a _, ⟨_, Heap.get?_push_size _ rfl, rfl, rfl⟩, fun b hb => ?_, q⟩
  have e : b = s1.heap.objs.size := by simpa using hb
  subst e
  exact I1.fpOk (Nat.le_refl _) (I1.hok.fresh (Nat.le_refl _))
theorem pi_tup {l : Expr} {tl : TE} (hl : PE X l tl) : PI X tg l (iTup X.K tl) := by
  intro pins s σ H R I h
  refine thn (hl pins s σ H _ I h) fun v s1 ⟨x, H1, I1, r1, q1⟩ => ?_
  obtain ⟨a, e, ⟨xs, hq⟩, q⟩ := q1
  subst e
  cases r1
  obtain ⟨its, rv, p, hz⟩ := I1.tuple hq
  refine wpAny_pyIter_tuple (show s1.heap.IsTuple a its.toArray from p) ?_
  refine ⟨s1.heap.objs.size, [s1.heap.objs.size], _, _, H1, rfl, I1.kept (t' := s1.toks) fun b o e => Heap.get?_push_of_some _ e, turn_tuple a _, ⟨_, Heap.get?_push_size _ rfl, rfl, rfl⟩, fun b hb => ?_, q⟩
  have e : b = s1.heap.objs.size := by simpa using hb
  subst e
  exact I1.fpOk (Nat.le_refl _) (I1.hok.fresh (Nat.le_refl _))
/-- a range object just made, walked -/
theorem range_it {pins : List (Addr × Obj)} {σ : St} {H : Hp} {s : Shared} {R : It → Hp → Prop} {E : Value → Shared → Prop} {lo hi : Int} {t u v : Tok} {tk : Nat} (I : Inv X pins σ H s) (h1 : -(2 ^ 62) ≤ lo) (h2 : lo < 2 ^ 62) (h3 : -(2 ^ 62) ≤ hi) (h4 : hi < 2 ^ 62)
    (q : R (Itr lo (hi - lo).toNat) H) : wpAny (model X.prog X.w) X.A (pyIter (.ref s.heap.objs.size)) (PIE X pins σ tg R) E { s with heap := s.heap.push { cls := .type "range", data := .fields #[.int lo t, .int hi u, .int 1 v] }, toks := tk } := by
  refine wpAny_pyIter_range (IsRange.new ..) (small_one h1 h2 h3 h4) ?_
  have I1 : Inv X pins σ H { s with heap := s.heap.push { cls := .type "range", data := .fields #[.int lo t, .int hi u, .int 1 v] }, toks := tk } := I.kept fun b o e => Heap.get?_push_of_some _ e
  refine ⟨(s.heap.push { cls := .type "range", data := .fields #[.int lo t, .int hi u, .int 1 v] }).objs.size, [(s.heap.push { cls := .type "range", data := .fields #[.int lo t, .int hi u, .int 1 v] }).objs.size], _, _, H, rfl,
    I1.kept (t' := tk) fun b o e => Heap.get?_push_of_some _ e, turn_range _ lo (hi - lo).toNat, ?_, fun b hb => ?_, q⟩
  · have e1 : lo + ((0 : Nat) : Int) * 1 = lo := by simp
    have e2 : (((hi - lo).toNat : Nat) : Int) - ((0 : Nat) : Int) = Builtin.Range.rangeSize lo hi 1 := by rw [rangeSize_one]; split <;> omega
    show IsRangeIter _ _ (lo + ((0 : Nat) : Int) * 1) ((((hi - lo).toNat : Nat) : Int) - ((0 : Nat) : Int)) 1
    rw [e1, e2]
    exact Heap.get?_push_size _ rfl
  · have e : b = (s.heap.push { cls := .type "range", data := .fields #[.int lo t, .int hi u, .int 1 v] }).objs.size := by simpa using hb
    subst e
    exact I1.fpOk (Nat.le_refl _) (I1.hok.fresh (Nat.le_refl _))
def iRng1 (ta : TA) : TI := fun σ H R => ta σ H fun vs H1 => ∃ j : Int, vs = [.int j] ∧ -(2 ^ 62) ≤ j ∧ j < 2 ^ 62 ∧ R (Itr 0 j.toNat) H1
def iRng2 (ta : TA) : TI := fun σ H R => ta σ H fun vs H1 => ∃ i j : Int, vs = [.int i, .int j] ∧ (-(2 ^ 62) ≤ i ∧ i < 2 ^ 62 ∧ -(2 ^ 62) ≤ j ∧ j < 2 ^ 62) ∧ R (Itr i (j - i).toNat) H1
theorem pi_range1 {a : Expr} {ta : TA} {p pos : Pos} (hg : Gl X "range") (hm : X.mg "range" = none) (ha : PA X [a] ta) (hs : starEach [a] X.env = [(false, eval a X.env)] := by rfl) : PI X tg (.Call (.Name "range" p) [a] [] pos) (iRng1 ta) := by
  intro pins s σ H R I h
  refine Call_ (ld_blt I hg hm boot_range (PyProof.Rows.callWith_type1 (thn (ha pos pins s σ H _ I h) fun us s1 ⟨vs, H1, I1, r1, q1⟩ => ?_) hs rfl))
  obtain ⟨j, e, q1, q2, q⟩ := q1
  subst e
  cases r1 with
  | cons r rr =>
    cases rr
    obtain ⟨t, rfl⟩ := r
    exact call_range_1 (range_it I1 (by omega) (by omega) q1 q2 (by simpa using q))
theorem pi_range2 {a b : Expr} {ta : TA} {p pos : Pos} (hg : Gl X "range") (hm : X.mg "range" = none) (ha : PA X [a, b] ta) (hs : starEach [a, b] X.env = [(false, eval a X.env), (false, eval b X.env)] := by rfl) (hs2 : starEach [b] X.env = [(false, eval b X.env)] := by rfl) :
    PI X tg (.Call (.Name "range" p) [a, b] [] pos) (iRng2 ta) := by
  intro pins s σ H R I h
  refine Call_ (ld_blt I hg hm boot_range (PyProof.Rows.callWith_type1 (thn (ha pos pins s σ H _ I h) fun us s1 ⟨vs, H1, I1, r1, q1⟩ => ?_) (by rw [hs, hs2]) (by rw [hs2]; rfl)))
  obtain ⟨i, j, e, ⟨q1, q2, q3, q4⟩, q⟩ := q1
  subst e
  cases r1 with
  | cons r rr =>
    cases rr with
    | cons r' rr =>
      cases rr
      obtain ⟨t, rfl⟩ := r
      obtain ⟨t', rfl⟩ := r'
      exact call_range_2 (range_it I1 q1 q2 q3 q4 q)

/-! ### for -/
/-- W: the invariant by the turn and a measure; N: what the body is to reach -/
def tFor (wi : TI) (g : TG) (tb : TS) : TS := fun D σ H => wi σ H fun J H1 => ∃ W : Nat → Nat → St → Hp → Prop, (∃ m, W 0 m σ H1) ∧ ∀ i m σ H, W i m σ H →
  (J.stop i H ∧ D.nx σ H) ∨ (J.go i H ∧ ∃ N : St → Hp → Prop, (∀ σ' H', N σ' H' → ∃ m', m' < m ∧ W (i + 1) m' σ' H') ∧ ∀ x H', J.yld i H x H' → g x σ H' fun σ2 H2 => tb { D with nx := N, ct := N, bk := D.nx } σ2 H2)
/-- the records at fp as they stand -/
def pinsAt (fp : List Addr) (h : Heap) : List (Addr × Obj) := fp.filterMap fun b => (h.get? b).map fun o => (b, o)
theorem mem_pinsAt {fp : List Addr} {h : Heap} {b : Addr} {o : Obj} (hb : b ∈ fp) (e : h.get? b = some o) : (b, o) ∈ pinsAt fp h := List.mem_filterMap.mpr ⟨b, hb, by rw [e]; rfl⟩
theorem of_pinsAt {fp : List Addr} {h : Heap} {p : Addr × Obj} (hp : p ∈ pinsAt fp h) : p.1 ∈ fp ∧ h.get? p.1 = some p.2 := by
  obtain ⟨b, hb, e⟩ := List.mem_filterMap.mp hp
  cases q : h.get? b with
  | none => rw [q] at e; cases e
  | some o =>
    rw [q] at e
    have e' : (b, o) = p := Option.some.inj e
    subst e'
    exact ⟨hb, q⟩
theorem Inv.pinned {pins : List (Addr × Obj)} {σ : St} {H : Hp} {s : Shared} {fp : List Addr} (I : Inv X pins σ H s) (hf : ∀ b ∈ fp, FpOk X pins H b) (ho : ∀ b ∈ fp, ∃ o, s.heap.get? b = some o ∧ ∀ v, o.data ≠ .cell v) : Inv X (pins ++ pinsAt fp s.heap) σ H s :=
  I.pins_of fun p hp => (List.mem_append.mp hp).elim (fun z => I.pin p (List.mem_append_right _ z)) fun z => by
    obtain ⟨hb, e⟩ := of_pinsAt z
    obtain ⟨f0, f1, f2, _⟩ := hf p.1 hb
    obtain ⟨o, e', d⟩ := ho p.1 hb
    rw [e] at e'; cases e'
    exact ⟨e, f0, f1, f2, d⟩
theorem Inv.unpinned {pins pl : List (Addr × Obj)} {σ : St} {H : Hp} {s : Shared} (I : Inv X (pins ++ pl) σ H s) : Inv X pins σ H s := I.pins_of fun p hp => I.pin p (List.mem_append_right _ (List.mem_append_left _ hp))
theorem ps_for {iter : Expr} {body : List Stmt} {wi : TI} {g : TG} {tb : TS} {pos : Pos} (hp : PassesOwn (model X.prog X.w) X.A X.env X.xe) (hc : X.calm = true) (hi : PI X tg iter wi) (hg : PG X tg g) (hb : PSs X body tb)
    (hs : ∀ x, foldedSetIterable iter X.env x = pure x := by intro _; rfl) : PS X (.For tg iter body [] pos) (tFor wi g tb) := by
  intro pins s σ H D I h
  refine wpAny_For (thn (hi pins s σ H _ I h) fun v s1 h1 => thn h1 fun itv s2 h2 => ?_) hs
  obtain ⟨it, fp, tn, J, H2, e, I2, T, st2, f2, W, ⟨m0, w0⟩, turn⟩ := h2
  subst e
  -- what stays true of the iterator's objects through the loop
  have stat : ∀ {H' : Hp}, (∀ b ∈ fp, H' b = none) → ∀ b ∈ fp, FpOk X pins H' b := fun hn b hb => ⟨hn b hb, (f2 b hb).2⟩
  refine codeAny_forLoop_any (fun n s' => ∃ i σ' H', Inv X pins σ' H' s' ∧ tn i s'.heap ∧ (∀ b ∈ fp, H' b = none) ∧ W i n σ' H') ?_ m0 ⟨0, σ, H2, I2, st2, fun b hb => (f2 b hb).1, w0⟩
  rintro n s3 ⟨i, σ3, H3, I3, st3, fr3, w3⟩
  rcases turn i n σ3 H3 w3 with ⟨stop, qn⟩ | ⟨go, N, hN, step⟩
  · refine wpAny_passesOwn hp (thn (T.done X rfl rfl rfl hc i pins s3 σ3 H3 X.xe I3 (stat fr3) st3 stop) fun r s4 ⟨hr, I4⟩ => ?_)
    subst hr
    exact wpAny_execs_nil ⟨σ3, H3, I4, qn⟩
  · refine wpAny_passesOwn hp (thn (T.item X rfl rfl rfl hc i pins s3 σ3 H3 X.xe I3 (stat fr3) st3 go) fun r s4 ⟨u, hr, h4⟩ => ?_)
    subst hr
    refine wpAny_passesOwn hp (thn h4 fun _ s5 ⟨x, H5, I5, r5, y5, st5, fr5⟩ => ?_)
    have I5' := I5.pinned (stat fr5) (T.obj _ _ st5)
    refine wpAny_passesOwn hp (thn (hg _ s5 σ3 H5 x u _ I5' r5 (step x H5 y5)) fun _ s6 ⟨σ6, H6, I6, q6⟩ => ?_)
    refine wpAny_passesOwn hp (thn (hb _ s6 σ6 H6 _ I6 q6) fun f s7 q7 => ?_)
    have again : ∀ {σ7 : St} {H7 : Hp}, Inv X (pins ++ pinsAt fp s5.heap) σ7 H7 s7 → N σ7 H7 → ∃ m, m < n ∧ ∃ i σ' H', Inv X pins σ' H' s7 ∧ tn i s7.heap ∧ (∀ b ∈ fp, H' b = none) ∧ W i m σ' H' := fun {σ7 H7} I7 n7 => by
      obtain ⟨m', hm, w7⟩ := hN σ7 H7 n7
      refine ⟨m', hm, i + 1, σ7, H7, I7.unpinned, T.keep _ _ _ st5 fun b hb o e => (I7.pin (b, o) (List.mem_append_right _ (List.mem_append_right _ (mem_pinsAt hb e)))).1, fun b hb => ?_, w7⟩
      obtain ⟨o, e, d⟩ := T.obj _ _ st5 b hb
      exact (I7.pin (b, o) (List.mem_append_right _ (List.mem_append_right _ (mem_pinsAt hb e)))).2.1
    cases f with
    | next => obtain ⟨σ7, H7, I7, n7⟩ := q7; exact again I7 n7
    | cont => obtain ⟨σ7, H7, I7, n7⟩ := q7; exact again I7 n7
    | brk => obtain ⟨σ7, H7, I7, q7⟩ := q7; exact ⟨σ7, H7, I7.unpinned, q7⟩
    | ret v => obtain ⟨x7, σ7, H7, I7, r7, q7⟩ := q7; exact ⟨x7, σ7, H7, I7.unpinned, r7, q7⟩
end

/-! ### the forms one uses -/
/-- over a list that the body leaves as it is -/
theorem for_list {K : PySem.W.Frag} {a : Addr} {xs : List V} {g : TG} {tb : TS} {D : Ends} {σ : St} {H : Hp} (Pv : Nat → St → Hp → Prop) (h0 : Pv 0 σ H) (hl : ∀ i σ H, i ≤ xs.length → Pv i σ H → SqL K H a xs)
    (hs : ∀ i x σ H, xs[i]? = some x → Pv i σ H → g x σ H fun σ2 H2 => tb { D with nx := Pv (i + 1), ct := Pv (i + 1), bk := D.nx } σ2 H2) (hd : ∀ σ H, Pv xs.length σ H → D.nx σ H) :
    ∃ W : Nat → Nat → St → Hp → Prop, (∃ m, W 0 m σ H) ∧ ∀ i m σ H, W i m σ H →
      ((Itl K a).stop i H ∧ D.nx σ H) ∨ ((Itl K a).go i H ∧ ∃ N : St → Hp → Prop, (∀ σ' H', N σ' H' → ∃ m', m' < m ∧ W (i + 1) m' σ' H') ∧ ∀ x H', (Itl K a).yld i H x H' → g x σ H' fun σ2 H2 => tb { D with nx := N, ct := N, bk := D.nx } σ2 H2) := by
  refine ⟨fun i m σ H => m = xs.length - i ∧ i ≤ xs.length ∧ Pv i σ H, ⟨xs.length, by simp, Nat.zero_le _, h0⟩, ?_⟩
  rintro i m σ H ⟨rfl, hi, p⟩
  have q := hl i σ H hi p
  by_cases hlt : i < xs.length
  · refine .inr ⟨⟨xs, xs[i], q, by simp [hlt]⟩, Pv (i + 1), fun σ' H' p' => ⟨xs.length - (i + 1), by omega, rfl, hlt, p'⟩, fun x H' y => ?_⟩
    obtain ⟨e, y⟩ := y
    subst e
    exact hs i x σ _ (y xs q) p
  · have e : i = xs.length := by omega
    subst e
    exact .inl ⟨⟨xs, q, Nat.le_refl _⟩, hd σ H p⟩
theorem for_tup {K : PySem.W.Frag} {a : Addr} {xs : List V} {g : TG} {tb : TS} {D : Ends} {σ : St} {H : Hp} (Pv : Nat → St → Hp → Prop) (h0 : Pv 0 σ H) (hl : ∀ i σ H, i ≤ xs.length → Pv i σ H → SqT K H a xs)
    (hs : ∀ i x σ H, xs[i]? = some x → Pv i σ H → g x σ H fun σ2 H2 => tb { D with nx := Pv (i + 1), ct := Pv (i + 1), bk := D.nx } σ2 H2) (hd : ∀ σ H, Pv xs.length σ H → D.nx σ H) :
    ∃ W : Nat → Nat → St → Hp → Prop, (∃ m, W 0 m σ H) ∧ ∀ i m σ H, W i m σ H →
      ((Itt K a).stop i H ∧ D.nx σ H) ∨ ((Itt K a).go i H ∧ ∃ N : St → Hp → Prop, (∀ σ' H', N σ' H' → ∃ m', m' < m ∧ W (i + 1) m' σ' H') ∧ ∀ x H', (Itt K a).yld i H x H' → g x σ H' fun σ2 H2 => tb { D with nx := N, ct := N, bk := D.nx } σ2 H2) := by
  refine ⟨fun i m σ H => m = xs.length - i ∧ i ≤ xs.length ∧ Pv i σ H, ⟨xs.length, by simp, Nat.zero_le _, h0⟩, ?_⟩
  rintro i m σ H ⟨rfl, hi, p⟩
  have q := hl i σ H hi p
  by_cases hlt : i < xs.length
  · refine .inr ⟨⟨xs, xs[i], q, by simp [hlt]⟩, Pv (i + 1), fun σ' H' p' => ⟨xs.length - (i + 1), by omega, rfl, hlt, p'⟩, fun x H' y => ?_⟩
    obtain ⟨e, y⟩ := y
    subst e
    exact hs i x σ _ (y xs q) p
  · have e : i = xs.length := by omega
    subst e
    exact .inl ⟨⟨xs, q, Nat.le_refl _⟩, hd σ H p⟩
theorem for_range {lo : Int} {n : Nat} {g : TG} {tb : TS} {D : Ends} {σ : St} {H : Hp} (Pv : Nat → St → Hp → Prop) (h0 : Pv 0 σ H)
    (hs : ∀ i σ H, i < n → Pv i σ H → g (.int (lo + i)) σ H fun σ2 H2 => tb { D with nx := Pv (i + 1), ct := Pv (i + 1), bk := D.nx } σ2 H2) (hd : ∀ σ H, Pv n σ H → D.nx σ H) :
    ∃ W : Nat → Nat → St → Hp → Prop, (∃ m, W 0 m σ H) ∧ ∀ i m σ H, W i m σ H →
      ((Itr lo n).stop i H ∧ D.nx σ H) ∨ ((Itr lo n).go i H ∧ ∃ N : St → Hp → Prop, (∀ σ' H', N σ' H' → ∃ m', m' < m ∧ W (i + 1) m' σ' H') ∧ ∀ x H', (Itr lo n).yld i H x H' → g x σ H' fun σ2 H2 => tb { D with nx := N, ct := N, bk := D.nx } σ2 H2) := by
  refine ⟨fun i m σ H => m = n - i ∧ i ≤ n ∧ Pv i σ H, ⟨n, by simp, Nat.zero_le _, h0⟩, ?_⟩
  rintro i m σ H ⟨rfl, hi, p⟩
  by_cases hlt : i < n
  · refine .inr ⟨hlt, Pv (i + 1), fun σ' H' p' => ⟨n - (i + 1), by omega, rfl, hlt, p'⟩, fun x H' y => ?_⟩
    obtain ⟨e, y⟩ := y
    subst e y
    exact hs i σ _ hlt p
  · have e : i = n := by omega
    subst e
    exact .inl ⟨Nat.le_refl _, hd σ H p⟩
/-- while, by a word and a measure of the state -/
theorem while_by {c : TT} {tb : TS} {D : Ends} {σ : St} {H : Hp} (Pv : St → Hp → Prop) (μ : St → Hp → Nat) (h0 : Pv σ H)
    (hs : ∀ σ H, Pv σ H → c σ H fun b H1 => if b = true then tb { D with nx := fun σ' H' => Pv σ' H' ∧ μ σ' H' < μ σ H, ct := fun σ' H' => Pv σ' H' ∧ μ σ' H' < μ σ H, bk := D.nx } σ H1 else D.nx σ H1)
    (mono : ∀ σ H Q Q', (∀ b H1, Q b H1 → Q' b H1) → c σ H Q → c σ H Q') : tWhile c tb D σ H := by
  refine ⟨fun m σ H => m = μ σ H ∧ Pv σ H, ⟨_, rfl, h0⟩, ?_⟩
  rintro m σ H ⟨rfl, p⟩
  refine mono σ H _ _ (fun b H1 q => ?_) (hs σ H p)
  cases b with
  | true => exact ⟨_, fun σ' H' ⟨p', l⟩ => ⟨_, l, rfl, p'⟩, q⟩
  | false => exact q
end L2

namespace L2
open PySem PySem.Spec PyProof.Rows

abbrev R2 := V → V → Hp → VK → Prop
/-- a two-place operation on values: f is binaryOp op, inplaceOp op or compareOp op -/
def OpR (X : Cx) (f : Value → Value → Sem Value) (r : R2) : Prop :=
  ∀ (pins : List (Addr × Obj)) (s : Shared) (σ : St) (H : Hp) (x y : V) (v u : Value) (Q : VK), Inv X pins σ H s → RelV x v → RelV y u → r x y H Q →
    wpAny (model X.prog X.w) X.A (f v u) (EP X pins σ Q) X.xe s
/-- a one-place operation -/
def UnR (X : Cx) (f : Value → Sem Value) (r : V → Hp → VK → Prop) : Prop :=
  ∀ (pins : List (Addr × Obj)) (s : Shared) (σ : St) (H : Hp) (x : V) (v : Value) (Q : VK), Inv X pins σ H s → RelV x v → r x H Q →
    wpAny (model X.prog X.w) X.A (f v) (EP X pins σ Q) X.xe s
/-- a call of a value that is known (a builtin, a type) with values -/
def CallR (X : Cx) (f : Value) (r : List V → Hp → VK → Prop) : Prop :=
  ∀ (pins : List (Addr × Obj)) (s : Shared) (σ : St) (H : Hp) (xs : List V) (us : List Value) (Q : VK), Inv X pins σ H s → Vals xs us → r xs H Q →
    wpAny (model X.prog X.w) X.A (call f us) (EP X pins σ Q) X.xe s
/-- a value's truth -/
def TruR (X : Cx) (r : V → Hp → (Bool → Hp → Prop) → Prop) : Prop :=
  ∀ (pins : List (Addr × Obj)) (s : Shared) (σ : St) (H : Hp) (x : V) (v : Value) (Q : Bool → Hp → Prop), Inv X pins σ H s → RelV x v → r x H Q →
    wpAny (model X.prog X.w) X.A (truthy v) (TP X pins σ Q) X.xe s

def tOp (r : R2) (ta tb : TE) : TE := fun σ H Q => ta σ H fun x H1 => tb σ H1 fun y H2 => r x y H2 Q
def tUn (r : V → Hp → VK → Prop) (ta : TE) : TE := fun σ H Q => ta σ H fun x H1 => r x H1 Q
/-- ints in, under C, and a value out -/
def rI (C : Int → Int → Prop) (g : Int → Int → V) : R2 := fun x y H Q => ∃ i j, x = .int i ∧ y = .int j ∧ C i j ∧ Q (g i j) H
def rI0 (g : Int → Int → V) : R2 := fun x y H Q => ∃ i j, x = .int i ∧ y = .int j ∧ Q (g i j) H
def rU (g : Int → V) : V → Hp → VK → Prop := fun x H Q => ∃ i, x = .int i ∧ Q (g i) H

section
variable {X : Cx} {a b c : Expr} {ta tb tc : TE} {pos : Pos}

theorem binT (ha : PE X a ta) (hb : PE X b tb) {pins : List (Addr × Obj)} {s : Shared} {σ : St} {H : Hp} {R : V → V → Hp → Prop} (I : Inv X pins σ H s)
    (h : ta σ H fun x H1 => tb σ H1 fun y H2 => R x y H2) {Q : Value → Shared → Prop} {f : Value → Value → Sem Value}
    (hf : ∀ v u s2 x y H2, Inv X pins σ H2 s2 → RelV x v → RelV y u → R x y H2 → wpAny (model X.prog X.w) X.A (f v u) Q X.xe s2) :
    wpAny (model X.prog X.w) X.A (eval a X.env) (fun v s₁ => wpAny (model X.prog X.w) X.A (eval b X.env) (fun u s₂ => wpAny (model X.prog X.w) X.A (f v u) Q X.xe s₂) X.xe s₁) X.xe s := by
  refine thn (ha pins s σ H _ I h) fun v s1 ⟨x, H1, I1, r1, q1⟩ => ?_
  refine thn (hb pins s1 σ H1 _ I1 q1) fun u s2 ⟨y, H2, I2, r2, q2⟩ => ?_
  exact hf v u s2 x y H2 I2 r1 r2 q2

theorem pe_op {op : Operator} {r : R2} (ho : OpR X (binaryOp op) r) (ha : PE X a ta) (hb : PE X b tb) : PE X (.BinOp a op b pos) (tOp r ta tb) := by
  intro pins s σ H Q I h
  exact wpAny_BinOp (binT ha hb I h fun v u s2 x y H2 I2 rx ry q => ho pins s2 σ H2 x y v u Q I2 rx ry q)
theorem pe_un {op : UnaryOp} {r : V → Hp → VK → Prop} (ho : UnR X (unaryOp op) r) (ha : PE X a ta) : PE X (.UnaryOp op a pos) (tUn r ta) := by
  intro pins s σ H Q I h
  exact UnaryOp_ (thn (ha pins s σ H _ I h) fun v s1 ⟨x, H1, I1, r1, q1⟩ => ho pins s1 σ H1 x v Q I1 r1 q1)
/-- a op= e at a name: the name's slot i -/
theorem augR {op : Operator} {r : R2} (ho : OpR X (inplaceOp op) r) {pins : List (Addr × Obj)} {s : Shared} {σ : St} {H : Hp} {x y : V} {v u : Value} {Q : VK} (I : Inv X pins σ H s)
    (rx : RelV x v) (ry : RelV y u) (q : r x y H Q) : wpAny (model X.prog X.w) X.A (inplaceOp op v u) (EP X pins σ Q) X.xe s := ho pins s σ H x y v u Q I rx ry q

/-! ### ints -/
theorem opI {f : Value → Value → Sem Value} {C : Int → Int → Prop} {g : Int → Int → Int}
    (rule : ∀ (i j : Int) (t u : Tok) (s : Shared) (Q : Value → Shared → Prop) (E : Value → Shared → Prop), C i j → Q (.int (g i j) s.toks) { s with toks := s.toks + 1 } → wpAny (model X.prog X.w) X.A (f (.int i t) (.int j u)) Q E s) :
    OpR X f (rI C fun i j => .int (g i j)) := by
  intro pins s σ H x y v u Q I rx ry h
  obtain ⟨i, j, rfl, rfl, hc, q⟩ := h
  obtain ⟨t, rfl⟩ := rx
  obtain ⟨t', rfl⟩ := ry
  exact rule i j t t' s _ _ hc ⟨.int (g i j), H, I.tok _, ⟨_, rfl⟩, q⟩
theorem opI0 {f : Value → Value → Sem Value} {g : Int → Int → Int}
    (rule : ∀ (i j : Int) (t u : Tok) (s : Shared) (Q : Value → Shared → Prop) (E : Value → Shared → Prop), Q (.int (g i j) s.toks) { s with toks := s.toks + 1 } → wpAny (model X.prog X.w) X.A (f (.int i t) (.int j u)) Q E s) :
    OpR X f (rI0 fun i j => .int (g i j)) := by
  intro pins s σ H x y v u Q I rx ry h
  obtain ⟨i, j, rfl, rfl, q⟩ := h
  obtain ⟨t, rfl⟩ := rx
  obtain ⟨t', rfl⟩ := ry
  exact rule i j t t' s _ _ ⟨.int (g i j), H, I.tok _, ⟨_, rfl⟩, q⟩
theorem opB0 {f : Value → Value → Sem Value} {g : Int → Int → Bool}
    (rule : ∀ (i j : Int) (t u : Tok) (s : Shared) (Q : Value → Shared → Prop) (E : Value → Shared → Prop), Q (.bool (g i j)) s → wpAny (model X.prog X.w) X.A (f (.int i t) (.int j u)) Q E s) :
    OpR X f (rI0 fun i j => .bl (g i j)) := by
  intro pins s σ H x y v u Q I rx ry h
  obtain ⟨i, j, rfl, rfl, q⟩ := h
  obtain ⟨t, rfl⟩ := rx
  obtain ⟨t', rfl⟩ := ry
  exact rule i j t t' s _ _ ⟨.bl (g i j), H, I, rfl, q⟩

def CDiv (i j : Int) : Prop := 0 < j ∧ j < 1073741824
def CDivN (i j : Int) : Prop := j ≠ 0 ∧ j.natAbs < 1073741824
def CPow (i j : Int) : Prop := 0 ≤ j ∧ j ≤ 1000000 ∧ i.natAbs < 2 ^ 64
def CMul (i j : Int) : Prop := (-(2 ^ 64) < i ∧ i < 2 ^ 64) ∨ (-(2 ^ 64) < j ∧ j < 2 ^ 64)
theorem CMul.ok {i j : Int} (h : CMul i j) : IntMulOk i j := by
  rcases h with ⟨h1, h2⟩ | ⟨h1, h2⟩
  · exact .of_left (intBits_le_64 h1 h2)
  · exact .of_right (intBits_le_64 h1 h2)
theorem two_pow_nn (k : Nat) : (0 : Int) ≤ 2 ^ k := by
  rw [two_pow_cast]
  exact Int.natCast_nonneg _

theorem op_add : OpR X (binaryOp .Add) (rI0 fun i j => .int (i + j)) := opI0 fun _ _ _ _ _ _ _ q => add_int q
theorem op_sub : OpR X (binaryOp .Sub) (rI0 fun i j => .int (i - j)) := opI0 fun _ _ _ _ _ _ _ q => sub_int q
theorem op_mul : OpR X (binaryOp .Mult) (rI CMul fun i j => .int (i * j)) := opI fun _ _ _ _ _ _ _ hc q => mul_int q hc.ok
/-- // by a positive divisor -/
theorem op_fdiv : OpR X (binaryOp .FloorDiv) (rI CDiv fun i j => .int (i / j)) := opI fun i j _ _ _ _ _ hc q => by
  have h1 : (0 : Int) < j := hc.1
  have h2 : j < 1073741824 := hc.2
  exact floordiv_int (by omega) (by rw [Int.fdiv_eq_ediv_of_nonneg i (by omega)]; exact q) (.inl (PyProof.noPylong_small (by omega)))
theorem op_fdivN : OpR X (binaryOp .FloorDiv) (rI CDivN fun i j => .int (i.fdiv j)) := opI fun _ _ _ _ _ _ _ hc q => floordiv_int hc.1 q (.inl (PyProof.noPylong_small hc.2))
/-- % by a positive divisor of any size -/
theorem op_mod : OpR X (binaryOp .Mod) (rI (fun _ j => 0 < j) fun i j => .int (i % j)) := opI fun i j _ _ _ _ _ hc q => by
  have h1 : (0 : Int) < j := hc
  exact mod_int' (by omega) (by rw [Int.fmod_eq_emod_of_nonneg i (by omega)]; exact q)
theorem op_modN : OpR X (binaryOp .Mod) (rI (fun _ j => j ≠ 0) fun i j => .int (i.fmod j)) := opI fun _ _ _ _ _ _ _ hc q => mod_int' hc q
theorem op_pow : OpR X (binaryOp .Pow) (rI CPow fun i j => .int (i ^ j.toNat)) := opI fun _ _ _ _ _ _ _ hc q => pow_int_small hc.1 hc.2.1 hc.2.2 q
theorem op_shl : OpR X (binaryOp .LShift) (rI CPow fun i j => .int (i * 2 ^ j.toNat)) := opI fun _ _ _ _ _ _ _ hc q => lshift_int_small hc.1 hc.2.1 hc.2.2 q
theorem op_shr : OpR X (binaryOp .RShift) (rI (fun _ j => 0 ≤ j) fun i j => .int (i / 2 ^ j.toNat)) := opI fun i j _ _ _ _ _ hc q =>
  rshift_int hc (by rw [Int.fdiv_eq_ediv_of_nonneg i (two_pow_nn _)]; exact q)
theorem op_and : OpR X (binaryOp .BitAnd) (rI0 fun i j => .int (Builtin.bitAnd i j)) := opI0 fun _ _ _ _ _ _ _ q => and_int q
theorem op_or : OpR X (binaryOp .BitOr) (rI0 fun i j => .int (Builtin.bitOr i j)) := opI0 fun _ _ _ _ _ _ _ q => or_int q
theorem op_xor : OpR X (binaryOp .BitXor) (rI0 fun i j => .int (Builtin.bitXor i j)) := opI0 fun _ _ _ _ _ _ _ q => xor_int q

theorem iop_add : OpR X (inplaceOp .Add) (rI0 fun i j => .int (i + j)) := opI0 fun _ _ _ _ _ _ _ q => iadd_int q
theorem iop_sub : OpR X (inplaceOp .Sub) (rI0 fun i j => .int (i - j)) := opI0 fun _ _ _ _ _ _ _ q => isub_int q
theorem iop_mul : OpR X (inplaceOp .Mult) (rI CMul fun i j => .int (i * j)) := opI fun _ _ _ _ _ _ _ hc q => imul_int q hc.ok
theorem iop_fdiv : OpR X (inplaceOp .FloorDiv) (rI CDiv fun i j => .int (i / j)) := opI fun i j _ _ _ _ _ hc q => by
  have h1 : (0 : Int) < j := hc.1
  have h2 : j < 1073741824 := hc.2
  exact ifloordiv_int (by omega) (by rw [Int.fdiv_eq_ediv_of_nonneg i (by omega)]; exact q) (.inl (PyProof.noPylong_small (by omega)))
theorem iop_mod : OpR X (inplaceOp .Mod) (rI (fun _ j => 0 < j) fun i j => .int (i % j)) := opI fun i j _ _ _ _ _ hc q => by
  have h1 : (0 : Int) < j := hc
  exact imod_int (by omega) (by rw [Int.fmod_eq_emod_of_nonneg i (by omega)]; exact q)
theorem iop_shl : OpR X (inplaceOp .LShift) (rI CPow fun i j => .int (i * 2 ^ j.toNat)) := opI fun _ _ _ _ _ _ _ hc q => ilshift_int_small hc.1 hc.2.1 hc.2.2 q
theorem iop_shr : OpR X (inplaceOp .RShift) (rI (fun _ j => 0 ≤ j) fun i j => .int (i / 2 ^ j.toNat)) := opI fun i j _ _ _ _ _ hc q =>
  irshift_int hc (by rw [Int.fdiv_eq_ediv_of_nonneg i (two_pow_nn _)]; exact q)
theorem iop_and : OpR X (inplaceOp .BitAnd) (rI0 fun i j => .int (Builtin.bitAnd i j)) := opI0 fun _ _ _ _ _ _ _ q => iand_int q
theorem iop_or : OpR X (inplaceOp .BitOr) (rI0 fun i j => .int (Builtin.bitOr i j)) := opI0 fun _ _ _ _ _ _ _ q => ior_int q
theorem iop_xor : OpR X (inplaceOp .BitXor) (rI0 fun i j => .int (Builtin.bitXor i j)) := opI0 fun _ _ _ _ _ _ _ q => ixor_int q

theorem unI {f : Value → Sem Value} {g : Int → Int}
    (rule : ∀ (i : Int) (t : Tok) (s : Shared) (Q : Value → Shared → Prop) (E : Value → Shared → Prop), Q (.int (g i) s.toks) { s with toks := s.toks + 1 } → wpAny (model X.prog X.w) X.A (f (.int i t)) Q E s) :
    UnR X f (rU fun i => .int (g i)) := by
  intro pins s σ H x v Q I rx h
  obtain ⟨i, rfl, q⟩ := h
  obtain ⟨t, rfl⟩ := rx
  exact rule i t s _ _ ⟨.int (g i), H, I.tok _, ⟨_, rfl⟩, q⟩
theorem un_neg : UnR X (unaryOp .USub) (rU fun i => .int (-i)) := unI fun _ _ _ _ _ q => neg_int q
theorem un_inv : UnR X (unaryOp .Invert) (rU fun i => .int (Builtin.bitNot i)) := unI fun _ _ _ _ _ q => invert_int q

/-! ### bools among ints: n += (a < b) -/
theorem op_add_ib : OpR X (binaryOp .Add) (fun x y H Q => ∃ i k, x = .int i ∧ y = .bl k ∧ Q (.int (i + b2i k)) H) := by
  intro pins s σ H x y v u Q I rx ry h
  obtain ⟨i, k, rfl, rfl, q⟩ := h
  obtain ⟨t, rfl⟩ := rx
  cases ry
  exact add_int_bool ⟨.int (i + b2i k), H, I.tok _, ⟨_, rfl⟩, q⟩
end

/-! ### comparisons -/
/-- the scalars that == tells apart as data does -/
def scal : V → V → Bool
  | .non, .non => true | .non, .int _ => true | .int _, .non => true | .non, .bl _ => true | .bl _, .non => true | .non, .str _ => true | .str _, .non => true
  | .int _, .int _ => true | .bl _, .bl _ => true | .str _, .str _ => true | .byt _, .byt _ => true
  | .int _, .str _ => true | .str _, .int _ => true | .bl _, .str _ => true | .str _, .bl _ => true
  | _, _ => false
def rEq : R2 := fun x y H Q => scal x y = true ∧ Q (.bl (decide (x = y))) H
def rNe : R2 := fun x y H Q => scal x y = true ∧ Q (.bl (!decide (x = y))) H

theorem dec_int {i j : Int} : decide (V.int i = V.int j) = (i == j) := by
  rw [Bool.eq_iff_iff]
  simp
theorem dec_bl {i j : Bool} : decide (V.bl i = V.bl j) = (i == j) := by
  rw [Bool.eq_iff_iff]
  simp
theorem dec_str {i j : Str} : decide (V.str i = V.str j) = (i == j) := by
  rw [Bool.eq_iff_iff]
  simp
theorem dec_byt {i j : Array UInt8} : decide (V.byt i = V.byt j) = (i.toList == j.toList) := by
  rw [Bool.eq_iff_iff]
  cases i
  cases j
  simp

section
variable {X : Cx} {a b c : Expr} {ta tb tc : TE} {pos : Pos}
theorem fin_bl {pins : List (Addr × Obj)} {σ : St} {H : Hp} {s : Shared} {Q : VK} {k k' : Bool} (I : Inv X pins σ H s) (q : Q (.bl k) H) (e : k = k') : EP X pins σ Q (.bool k') s := by
  subst e
  exact ⟨.bl k, H, I, rfl, q⟩
theorem op_eq : OpR X (compareOp .Eq) rEq := by
  intro pins s σ H x y v u Q I rx ry h
  obtain ⟨hs, q⟩ := h
  cases x with
  | non =>
    cases rx
    cases y with
    | non => cases ry; exact PySem.EqNone.eq_none_none (fin_bl I q (by simp))
    | bl j => cases ry; exact PySem.EqNone.eq_none_bool (fin_bl I q (by simp))
    | int j => obtain ⟨t', rfl⟩ := ry; exact PySem.EqNone.eq_none_int (fin_bl I q (by simp))
    | str j => obtain ⟨t', rfl⟩ := ry; exact PySem.EqNone.eq_none_str (fin_bl I q (by simp))
    | _ => exact absurd (show false = true from hs) Bool.false_ne_true
  | bl i =>
    cases rx
    cases y with
    | non => cases ry; exact PySem.EqNone.eq_bool_none (fin_bl I q (by simp))
    | bl j => cases ry; exact eq_bool (fin_bl I q dec_bl)
    | str j => obtain ⟨t', rfl⟩ := ry; exact PySem.EqMixed.eq_bool_str (fin_bl I q (by simp))
    | _ => exact absurd (show false = true from hs) Bool.false_ne_true
  | int i =>
    obtain ⟨t, rfl⟩ := rx
    cases y with
    | non => cases ry; exact PySem.EqNone.eq_int_none (fin_bl I q (by simp))
    | int j => obtain ⟨t', rfl⟩ := ry; exact eq_int (fin_bl I q dec_int)
    | str j => obtain ⟨t', rfl⟩ := ry; exact PySem.EqMixed.eq_int_str (fin_bl I q (by simp))
    | _ => exact absurd (show false = true from hs) Bool.false_ne_true
  | str i =>
    obtain ⟨t, rfl⟩ := rx
    cases y with
    | non => cases ry; exact PySem.EqNone.eq_str_none (fin_bl I q (by simp))
    | bl j => cases ry; exact PySem.EqMixed.eq_str_bool (fin_bl I q (by simp))
    | int j => obtain ⟨t', rfl⟩ := ry; exact PySem.EqMixed.eq_str_int (fin_bl I q (by simp))
    | str j => obtain ⟨t', rfl⟩ := ry; exact eq_str (fin_bl I q dec_str)
    | _ => exact absurd (show false = true from hs) Bool.false_ne_true
  | byt i =>
    obtain ⟨t, rfl⟩ := rx
    cases y with
    | byt j => obtain ⟨t', rfl⟩ := ry; exact PySem.W.eq_bytes (fin_bl I q dec_byt)
    | _ => exact absurd (show false = true from hs) Bool.false_ne_true
  | _ => cases y <;> exact absurd (show false = true from hs) Bool.false_ne_true
theorem op_ne : OpR X (compareOp .NotEq) rNe := by
  intro pins s σ H x y v u Q I rx ry h
  obtain ⟨hs, q⟩ := h
  cases x with
  | non =>
    cases rx
    cases y with
    | non => cases ry; exact PySem.EqNone.ne_none_none (fin_bl I q (by simp))
    | bl j => cases ry; exact PySem.EqNone.ne_none_bool (fin_bl I q (by simp))
    | int j => obtain ⟨t', rfl⟩ := ry; exact PySem.EqNone.ne_none_int (fin_bl I q (by simp))
    | str j => obtain ⟨t', rfl⟩ := ry; exact PySem.EqNone.ne_none_str (fin_bl I q (by simp))
    | _ => exact absurd (show false = true from hs) Bool.false_ne_true
  | bl i =>
    cases rx
    cases y with
    | non => cases ry; exact PySem.EqNone.ne_bool_none (fin_bl I q (by simp))
    | bl j => cases ry; exact ne_bool (fin_bl I q (congrArg not dec_bl))
    | str j => obtain ⟨t', rfl⟩ := ry; exact PySem.EqMixed.ne_bool_str (fin_bl I q (by simp))
    | _ => exact absurd (show false = true from hs) Bool.false_ne_true
  | int i =>
    obtain ⟨t, rfl⟩ := rx
    cases y with
    | non => cases ry; exact PySem.EqNone.ne_int_none (fin_bl I q (by simp))
    | int j => obtain ⟨t', rfl⟩ := ry; exact ne_int (fin_bl I q (congrArg not dec_int))
    | str j => obtain ⟨t', rfl⟩ := ry; exact PySem.EqMixed.ne_int_str (fin_bl I q (by simp))
    | _ => exact absurd (show false = true from hs) Bool.false_ne_true
  | str i =>
    obtain ⟨t, rfl⟩ := rx
    cases y with
    | non => cases ry; exact PySem.EqNone.ne_str_none (fin_bl I q (by simp))
    | bl j => cases ry; exact PySem.EqMixed.ne_str_bool (fin_bl I q (by simp))
    | int j => obtain ⟨t', rfl⟩ := ry; exact PySem.EqMixed.ne_str_int (fin_bl I q (by simp))
    | str j => obtain ⟨t', rfl⟩ := ry; exact ne_str (fin_bl I q (congrArg not dec_str))
    | _ => exact absurd (show false = true from hs) Bool.false_ne_true
  | byt i =>
    obtain ⟨t, rfl⟩ := rx
    cases y with
    | byt j => obtain ⟨t', rfl⟩ := ry; exact PySem.W.ne_bytes (fin_bl I q (congrArg not dec_byt))
    | _ => exact absurd (show false = true from hs) Bool.false_ne_true
  | _ => cases y <;> exact absurd (show false = true from hs) Bool.false_ne_true

theorem op_lt : OpR X (compareOp .Lt) (rI0 fun i j => .bl (decide (i < j))) := opB0 fun _ _ _ _ _ _ _ q => lt_int q
theorem op_le : OpR X (compareOp .LtE) (rI0 fun i j => .bl (decide (i ≤ j))) := opB0 fun _ _ _ _ _ _ _ q => le_int q
theorem op_gt : OpR X (compareOp .Gt) (rI0 fun i j => .bl (decide (j < i))) := opB0 fun _ _ _ _ _ _ _ q => gt_int q
theorem op_ge : OpR X (compareOp .GtE) (rI0 fun i j => .bl (decide (j ≤ i))) := opB0 fun _ _ _ _ _ _ _ q => ge_int q
theorem op_lt_str : OpR X (compareOp .Lt) (fun x y H Q => ∃ i j, x = .str i ∧ y = .str j ∧ Q (.bl (decide (i.cps.toList < j.cps.toList))) H) := by
  intro pins s σ H x y v u Q I rx ry h
  obtain ⟨i, j, rfl, rfl, q⟩ := h
  obtain ⟨t, rfl⟩ := rx
  obtain ⟨t', rfl⟩ := ry
  exact lt_str (fin_bl I q rfl)
/-- the one string within the other -/
theorem op_in_str : OpR X (compareOp .In) (fun x y H Q => ∃ i j, x = .str i ∧ y = .str j ∧ Q (.bl (!(Builtin.Str.occurrences j i 0 j.length 1).isEmpty)) H) := by
  intro pins s σ H x y v u Q I rx ry h
  obtain ⟨i, j, rfl, rfl, q⟩ := h
  obtain ⟨t, rfl⟩ := rx
  obtain ⟨t', rfl⟩ := ry
  exact in_str (fin_bl I q rfl)

/-- is None, is not None: the right side a value none -/
theorem op_isN : OpR X (compareOp .Is) (fun x y H Q => y = .non ∧ Q (.bl (decide (x = .non))) H) := by
  intro pins s σ H x y v u Q I rx ry h
  obtain ⟨rfl, q⟩ := h
  cases ry
  refine is_none_gen (fin_bl I q ?_)
  cases x <;> first
    | (cases rx; rfl)
    | (obtain ⟨t, rfl⟩ := rx; rfl)
theorem op_notN : OpR X (compareOp .IsNot) (fun x y H Q => y = .non ∧ Q (.bl (!decide (x = .non))) H) := by
  intro pins s σ H x y v u Q I rx ry h
  obtain ⟨rfl, q⟩ := h
  cases ry
  refine isnot_none_gen (fin_bl I q ?_)
  cases x <;> first
    | (cases rx; rfl)
    | (obtain ⟨t, rfl⟩ := rx; rfl)

theorem op_notin_str : OpR X (compareOp .NotIn) (fun x y H Q => ∃ i j, x = .str i ∧ y = .str j ∧ Q (.bl (!(!(Builtin.Str.occurrences j i 0 j.length 1).isEmpty))) H) := by
  intro pins s σ H x y v u Q I rx ry h
  obtain ⟨i, j, rfl, rfl, q⟩ := h
  obtain ⟨t, rfl⟩ := rx
  obtain ⟨t', rfl⟩ := ry
  exact notIn_str (fin_bl I q rfl)
/-- is, is not of two objects that are tracked lists or instances -/
def isObj : HO → Bool
  | .lst _ => true
  | .ins _ _ _ => true
  | _ => false
theorem obj_there {pins : List (Addr × Obj)} {s : Shared} {σ : St} {H : Hp} {a : Addr} {o : HO} (I : Inv X pins σ H s) (h : H a = some o) (p : isObj o = true) : ∃ ob, s.heap.get? a = some ob ∧ ob.cls ≠ .type "tuple" := by
  cases o with
  | lst xs =>
    obtain ⟨_, its, n, _, e⟩ : xs.length ≤ sizeLine ∧ ∃ (its : List Value) (n : Nat), Vals xs its ∧ s.heap.get? a = some { cls := .type "list", data := .seq its.toArray n } := I.hok a _ h
    exact ⟨_, e, (by show Value.type "list" ≠ .type "tuple"; decide +kernel)⟩
  | ins C dx fs =>
    have x := I.hok a _ h
    obtain ⟨_, _, _, e, _⟩ := x
    exact ⟨_, e, (by show Value.ref C ≠ .type "tuple"; exact fun z => by cases z)⟩
  | _ => exact absurd (show false = true from p) Bool.false_ne_true
theorem op_is_ref : OpR X (compareOp .Is) (fun x y H Q => ∃ a b oa ob, x = .ref a ∧ y = .ref b ∧ H a = some oa ∧ isObj oa = true ∧ H b = some ob ∧ isObj ob = true ∧ Q (.bl (decide (a = b))) H) := by
  intro pins s σ H x y v u Q I rx ry h
  obtain ⟨a, b, oa, ob, rfl, rfl, ha, pa, hb, pb, q⟩ := h
  cases rx
  cases ry
  obtain ⟨o1, e1, n1⟩ := obj_there I ha pa
  obtain ⟨o2, e2, _⟩ := obj_there I hb pb
  by_cases z : a = b
  · subst z
    exact wpAny_is_ref_self (fin_bl I q (by simp))
  · exact wpAny_is_ref_other z e1 e2 n1 (fin_bl I q (by simp [z]))
theorem op_isnot_ref : OpR X (compareOp .IsNot) (fun x y H Q => ∃ a b oa ob, x = .ref a ∧ y = .ref b ∧ H a = some oa ∧ isObj oa = true ∧ H b = some ob ∧ isObj ob = true ∧ Q (.bl (!decide (a = b))) H) := by
  intro pins s σ H x y v u Q I rx ry h
  obtain ⟨a, b, oa, ob, rfl, rfl, ha, pa, hb, pb, q⟩ := h
  cases rx
  cases ry
  obtain ⟨o1, e1, n1⟩ := obj_there I ha pa
  obtain ⟨o2, e2, _⟩ := obj_there I hb pb
  by_cases z : a = b
  · subst z
    exact wpAny_isNot_ref_self (fin_bl I q (by simp))
  · exact wpAny_isNot_ref_other z e1 e2 n1 (fin_bl I q (by simp [z]))

/-- two rules for one operation: by cases -/
theorem OpR.or {f : Value → Value → Sem Value} {r r' : R2} (h : OpR X f r) (h' : OpR X f r') : OpR X f (fun x y H Q => r x y H Q ∨ r' x y H Q) := by
  intro pins s σ H x y v u Q I rx ry q
  rcases q with q | q
  · exact h pins s σ H x y v u Q I rx ry q
  · exact h' pins s σ H x y v u Q I rx ry q

theorem nomark (b : Expr) {op : CmpOp} (h : op ≠ .In := by decide) (h2 : op ≠ .NotIn := by decide) : behindInMarks op b = false := by
  have e1 : (op == CmpOp.In) = false := by cases op <;> first | rfl | exact absurd rfl h
  have e2 : (op == CmpOp.NotIn) = false := by cases op <;> first | rfl | exact absurd rfl h2
  cases b <;> simp [behindInMarks, e1, e2]
/-- a comparison as a value; hm: nomark b, or (for in, not in) by with_unfolding_all rfl -/
theorem pe_cmpR {op : CmpOp} {r : R2} (ho : OpR X (compareOp op) r) (ha : PE X a ta) (hb : PE X b tb) (hm : behindInMarks op b = false) : PE X (.Compare a [op] [b] pos) (tOp r ta tb) := by
  intro pins s σ H Q I h
  exact wpAny_Compare1 (binT ha hb I h fun v u s2 x y H2 I2 rx ry q => ho pins s2 σ H2 x y v u Q I2 rx ry q) hm
/-- a reading of a value as a test -/
def tTest (t : TE) : TT := fun σ H Q => t σ H fun x H' => ∃ k, x = .bl k ∧ Q k H'
theorem pt_cmpR {op : CmpOp} {r : R2} (ho : OpR X (compareOp op) r) (ha : PE X a ta) (hb : PE X b tb) (hm : behindInMarks op b = false) : PT X (.Compare a [op] [b] pos) (tTest (tOp r ta tb)) := by
  intro pins s σ H Q I h
  refine wpAny_isTrue_Compare1 (thn (ha pins s σ H _ I h) fun v s1 ⟨x, H1, I1, r1, q1⟩ => thn (hb pins s1 σ H1 _ I1 q1) fun u s2 ⟨y, H2, I2, r2, q2⟩ =>
    thn (ho pins s2 σ H2 x y v u _ I2 r1 r2 q2) fun c s3 ⟨z, H3, I3, r3, k, e, q3⟩ => ?_) hm
  subst e
  cases r3
  exact wpAny_truthy_bool ⟨H3, I3, q3⟩
/-- a op1 b op2 c -/
def tChain (r r' : R2) (ta tb tc : TE) : TE := fun σ H Q => ta σ H fun x H1 => tb σ H1 fun y H2 => r x y H2 fun z H3 => ∃ k, z = .bl k ∧
  (if k = true then tc σ H3 fun w' H4 => r' y w' H4 Q else Q (.bl false) H3)
theorem pe_chain {op op' : CmpOp} {r r' : R2} (ho : OpR X (compareOp op) r) (ho' : OpR X (compareOp op') r') (ha : PE X a ta) (hb : PE X b tb) (hc : PE X c tc)
    (hm : lastMarks [op, op'] [b, c] = false := by with_unfolding_all rfl) : PE X (.Compare a [op, op'] [b, c] pos) (tChain r r' ta tb tc) := by
  intro pins s σ H Q I h
  refine Compare_chain (thn (ha pins s σ H _ I h) fun v s1 ⟨x, H1, I1, r1, q1⟩ => chain_link (thn (hb pins s1 σ H1 _ I1 q1) fun u s2 ⟨y, H2, I2, r2, q2⟩ =>
    thn (ho pins s2 σ H2 x y v u _ I2 r1 r2 q2) fun d s3 ⟨z, H3, I3, r3, k, e, q3⟩ => ?_)) hm
  subst e
  cases r3
  refine wpAny_truthy_bool ?_
  cases k with
  | false => exact ite_ff ⟨.bl false, H3, I3, rfl, q3⟩
  | true => exact ite_tt (chain_last (thn (hc pins s3 σ H3 _ I3 q3) fun w' s4 ⟨z', H4, I4, r4, q4⟩ => ho' pins s4 σ H4 y z' u w' Q I4 r2 r4 q4))
theorem pt_chain {op op' : CmpOp} {r r' : R2} (ho : OpR X (compareOp op) r) (ho' : OpR X (compareOp op') r') (ha : PE X a ta) (hb : PE X b tb) (hc : PE X c tc)
    (hm : lastMarks [op, op'] [b, c] = false := by with_unfolding_all rfl) : PT X (.Compare a [op, op'] [b, c] pos) (tTest (tChain r r' ta tb tc)) := by
  intro pins s σ H Q I h
  refine isTrue_chain (thn (ha pins s σ H _ I h) fun v s1 ⟨x, H1, I1, r1, q1⟩ => test_link (thn (hb pins s1 σ H1 _ I1 q1) fun u s2 ⟨y, H2, I2, r2, q2⟩ =>
    thn (ho pins s2 σ H2 x y v u _ I2 r1 r2 q2) fun d s3 ⟨z, H3, I3, r3, k, e, q3⟩ => ?_)) hm
  subst e
  cases r3
  refine wpAny_truthy_bool ?_
  cases k with
  | false =>
    obtain ⟨k', e', q'⟩ := q3
    cases e'
    exact ite_ff ⟨H3, I3, q'⟩
  | true =>
    refine ite_tt (test_last (thn (hc pins s3 σ H3 _ I3 q3) fun w' s4 ⟨z', H4, I4, r4, q4⟩ => thn (ho' pins s4 σ H4 y z' u w' _ I4 r2 r4 q4) fun d' s5 ⟨z2, H5, I5, r5, k2, e2, q5⟩ => ?_))
    subst e2
    cases r5
    exact wpAny_truthy_bool ⟨H5, I5, q5⟩

/-! ### truth -/
/-- a value's truth by the abstract heap -/
def TruV (K : PySem.W.Frag) (x : V) (H : Hp) (k : Bool) : Prop :=
  match x with
  | .non => k = false
  | .bl b => k = b
  | .int i => k = (i != 0)
  | .str y => y.length ≤ sizeLine ∧ k = ((y.length : Int) != 0)
  | .byt y => y.size ≤ sizeLine ∧ k = ((y.size : Int) != 0)
  | .ref p => (∃ xs, SqL K H p xs ∧ k = !xs.isEmpty) ∨ (∃ xs, SqT K H p xs ∧ k = !xs.isEmpty) ∨ ∃ kvs, H p = some (.dK kvs) ∧ k = !kvs.isEmpty
  | _ => False
theorem isEmpty_kv {κ : Type} {kvs : List (κ × V)} {vs : List (κ × Value)} (r : KV kvs vs) : (!vs.isEmpty) = !kvs.isEmpty := by
  cases r <;> rfl
theorem isEmpty_of {xs : List V} {its : List Value} (r : Vals xs its) : (!its.toArray.isEmpty) = !xs.isEmpty := by
  cases r <;> simp
theorem line63 : (sizeLine : Nat) < 2 ^ 63 := by rw [sizeLine_eq]; decide
theorem tru_ok : TruR X (fun x H Q => ∃ k, TruV X.K x H k ∧ Q k H) := by
  intro pins s σ H x v Q I rx h
  obtain ⟨k, e, q⟩ := h
  have hl := line63
  have hs : sizeLine = 16777216 := sizeLine_eq
  cases x with
  | non =>
    cases rx
    have e' : k = false := e
    subst e'
    exact truthy_none ⟨H, I, q⟩
  | bl b =>
    cases rx
    have e' : k = b := e
    subst e'
    exact wpAny_truthy_bool ⟨H, I, q⟩
  | int i =>
    obtain ⟨t, rfl⟩ := rx
    have e' : k = (i != 0) := e
    subst e'
    exact PySem.P.truthy_int ⟨H, I, q⟩
  | str y =>
    obtain ⟨t, rfl⟩ := rx
    obtain ⟨hy, e'⟩ : y.length ≤ sizeLine ∧ k = ((y.length : Int) != 0) := e
    subst e'
    exact PySem.P.truthy_str (by omega) ⟨H, I.tok _, q⟩
  | byt y =>
    obtain ⟨t, rfl⟩ := rx
    obtain ⟨hy, e'⟩ : y.size ≤ sizeLine ∧ k = ((y.size : Int) != 0) := e
    subst e'
    exact PySem.W.truthy_bytes (by omega) ⟨H, I.tok _, q⟩
  | ref p =>
    cases rx
    have e' : (∃ xs, SqL X.K H p xs ∧ k = !xs.isEmpty) ∨ (∃ xs, SqT X.K H p xs ∧ k = !xs.isEmpty) ∨ ∃ kvs, H p = some (.dK kvs) ∧ k = !kvs.isEmpty := e
    rcases e' with ⟨xs, hx, e'⟩ | ⟨xs, hx, e'⟩ | ⟨kvs, hx, e'⟩
    · subst e'
      obtain ⟨its, r, pl, hz⟩ := I.list hx
      have hlen := r.length
      exact wpAny_truthy_list pl.isList (by simp only [List.size_toArray]; omega) ⟨H, I.tok _, by rw [isEmpty_of r]; exact q⟩
    · subst e'
      obtain ⟨its, r, pl, hz⟩ := I.tuple hx
      have hlen := r.length
      exact truthy_tuple pl (by simp only [List.size_toArray]; omega) ⟨H, I.tok _, by rw [isEmpty_of r]; exact q⟩
    · subst e'
      obtain ⟨hz, hS, vs, r, m⟩ : kvs.length ≤ sizeLine ∧ (p == sysModules) = false ∧ ∃ vs, KV kvs vs ∧ s.heap.DictOf (mixKind X.prog X.w) p vs := I.hok p _ hx
      have hlen : kvs.length = vs.length := Paired.length r
      exact wpAny_truthy_dict hS m (by omega) ⟨H, I.tok _, by rw [isEmpty_kv r]; exact q⟩
  | _ => exact (show False from e).elim
/-- any expression whose test is its value's truth (a name, a call, a subscript, a field ..: he by fun _ => rfl) -/
theorem pt_truth (ha : PE X a ta) (he : ∀ whole, isTrue a X.env whole = (do let v ← whole; standAt a.pos; holding [v] (truthy v))) :
    PT X a (fun σ H Q => ta σ H fun x H' => ∃ k, TruV X.K x H' k ∧ Q k H') := by
  intro pins s σ H Q I h
  exact isTrue_plain (thn (ha pins s σ H _ I h) fun v s1 ⟨x, H1, I1, r1, q1⟩ => tru_ok pins s1 σ H1 x v Q I1 r1 q1) (he _)

/-! ### strs and bytes -/
theorem pe_byt {x : List UInt8} {k : Nat} : PE X (.Constant (.bytes x) k pos) (fun _ H Q => Q (.byt x.toArray) H) := fun _ _ _ H _ I h => PySem.W.Constant_bytes ⟨.byt x.toArray, H, I.tok _, ⟨_, rfl⟩, h⟩
theorem op_add_str : OpR X (binaryOp .Add) (fun x y H Q => ∃ i j, x = .str i ∧ y = .str j ∧ i.length + j.length ≤ sizeLine ∧ Q (.str (i ++ j)) H) := by
  intro pins s σ H x y v u Q I rx ry h
  obtain ⟨i, j, rfl, rfl, hz, q⟩ := h
  obtain ⟨t, rfl⟩ := rx
  obtain ⟨t', rfl⟩ := ry
  exact add_str (fun t' tk => ⟨.str (i ++ j), H, I.tok _, ⟨_, rfl⟩, q⟩) hz
theorem iop_add_str : OpR X (inplaceOp .Add) (fun x y H Q => ∃ i j, x = .str i ∧ y = .str j ∧ i.length + j.length ≤ sizeLine ∧ Q (.str (i ++ j)) H) := by
  intro pins s σ H x y v u Q I rx ry h
  obtain ⟨i, j, rfl, rfl, hz, q⟩ := h
  obtain ⟨t, rfl⟩ := rx
  obtain ⟨t', rfl⟩ := ry
  exact iadd_str (fun t' tk => ⟨.str (i ++ j), H, I.tok _, ⟨_, rfl⟩, q⟩) hz
theorem op_add_byt : OpR X (binaryOp .Add) (fun x y H Q => ∃ i j, x = .byt i ∧ y = .byt j ∧ i.size + j.size ≤ 16777216 ∧ Q (.byt (i ++ j)) H) := by
  intro pins s σ H x y v u Q I rx ry h
  obtain ⟨i, j, rfl, rfl, hz, q⟩ := h
  obtain ⟨t, rfl⟩ := rx
  obtain ⟨t', rfl⟩ := ry
  exact PySem.W.KBy.add_bytes hz (fun t' tk => ⟨.byt (i ++ j), H, I.tok _, ⟨_, rfl⟩, q⟩)

def PlainIxT (b : Expr) : Prop := ∀ o i, subscripted b false o i = operate [o, i] (getItem o i)
/-- s[i], 0 ≤ i < len -/
theorem pe_item_str (ha : PE X a ta) (hb : PE X b tb) (hs : PlainIxT b) :
    PE X (.Subscript a b pos) (tOp (fun x y H Q => ∃ z i c, x = .str z ∧ y = .int i ∧ 0 ≤ i ∧ i < 2 ^ 63 ∧ i < z.length ∧ z.cps[i.toNat]? = some c ∧ Q (.str ⟨#[c]⟩) H) ta tb) := by
  intro pins s σ H Q I h
  refine Subscript_ (binT ha hb I h fun v u s2 x y H2 I2 rx ry q => ?_)
  obtain ⟨z, i, c, rfl, rfl, h0, h63, h1, hc, q⟩ := q
  obtain ⟨t, rfl⟩ := rx
  obtain ⟨t', rfl⟩ := ry
  have e : seqIndex? i z.length = some i.toNat := PySem.StrLaws.seqIndex_nonneg h0 h1
  exact tail_any (typeIs_str s2 z t) slot_str_getitem.lookup (getItem_str (c := c) (by
    have e1 : decide (i < -(2 ^ 63 : Int)) = false := decide_eq_false (by omega)
    have e2 : decide (i ≥ 2 ^ 63) = false := decide_eq_false (by omega)
    rw [e1, e2] <;> rfl) (by rw [e]; exact hc) ⟨.str ⟨#[c]⟩, H2, I2.tok _, ⟨_, rfl⟩, q⟩) (hs _ _)
/-- b[i], 0 ≤ i < len -/
theorem pe_item_byt (ha : PE X a ta) (hb : PE X b tb) (hs : PlainIxT b) :
    PE X (.Subscript a b pos) (tOp (fun x y H Q => ∃ (z : List UInt8) (i : Int), x = .byt z.toArray ∧ y = .int i ∧ z.length ≤ sizeLine ∧ 0 ≤ i ∧ i < z.length ∧ Q (.int ((z.getD i.toNat 0).toNat : Nat)) H) ta tb) := by
  intro pins s σ H Q I h
  refine Subscript_ (binT ha hb I h fun v u s2 x y H2 I2 rx ry q => ?_)
  obtain ⟨z, i, rfl, rfl, hz, h0, h1, q⟩ := q
  obtain ⟨t, rfl⟩ := rx
  obtain ⟨t', rfl⟩ := ry
  have hl : sizeLine = 16777216 := sizeLine_eq
  exact tail_any (PySem.W.typeIs_bytes s2 z.toArray t) PySem.W.FB.slot_bytes_getitem.lookup (PySem.W.getItem_bytes (by omega) h0 h1 ⟨.int ((z.getD i.toNat 0).toNat : Nat), H2, I2.tok _, ⟨_, rfl⟩, q⟩) (hs _ _)

/-! ### scalar builtins, by CallR -/
theorem vals1 {x : V} {us : List Value} (r : Vals [x] us) : ∃ u, us = [u] ∧ RelV x u := by
  cases r with
  | cons r1 r2 => cases r2; exact ⟨_, rfl, r1⟩
theorem vals2 {x y : V} {us : List Value} (r : Vals [x, y] us) : ∃ u w', us = [u, w'] ∧ RelV x u ∧ RelV y w' := by
  cases r with
  | cons r1 r2 =>
    cases r2 with
    | cons r3 r4 => cases r4; exact ⟨_, _, rfl, r1, r3⟩
theorem call_abs : CallR X (.builtin "abs") (fun xs H Q => ∃ i, xs = [.int i] ∧ Q (.int (if i < 0 then -i else i)) H) := by
  intro pins s σ H xs us Q I r h
  obtain ⟨i, rfl, q⟩ := h
  obtain ⟨u, rfl, t, rfl⟩ := vals1 r
  exact call_abs_int fun u tk => ⟨.int (if i < 0 then -i else i), H, I.tok _, ⟨_, rfl⟩, q⟩
theorem call_max2 (hc : X.calm = true) : CallR X (.builtin "max") (fun xs H Q => ∃ i j, xs = [.int i, .int j] ∧ Q (.int (if j > i then j else i)) H) := by
  intro pins s σ H xs us Q I r h
  obtain ⟨i, j, rfl, q⟩ := h
  obtain ⟨u, w', rfl, ⟨t, rfl⟩, ⟨t', rfl⟩⟩ := vals2 r
  refine max_two_ints (I.ok.hd hc) fun h' tk k => ⟨_, H, I.kept k, ?_, q⟩
  by_cases hj : j > i
  · rw [if_pos hj, if_pos hj]; exact ⟨_, rfl⟩
  · rw [if_neg hj, if_neg hj]; exact ⟨_, rfl⟩
theorem call_min2 (hc : X.calm = true) : CallR X (.builtin "min") (fun xs H Q => ∃ i j, xs = [.int i, .int j] ∧ Q (.int (if j < i then j else i)) H) := by
  intro pins s σ H xs us Q I r h
  obtain ⟨i, j, rfl, q⟩ := h
  obtain ⟨u, w', rfl, ⟨t, rfl⟩, ⟨t', rfl⟩⟩ := vals2 r
  refine min_two_ints (I.ok.hd hc) fun h' tk k => ⟨_, H, I.kept k, ?_, q⟩
  by_cases hj : j < i
  · rw [if_pos hj, if_pos hj]; exact ⟨_, rfl⟩
  · rw [if_neg hj, if_neg hj]; exact ⟨_, rfl⟩
theorem call_int1 : CallR X (.type "int") (fun xs H Q => (∃ i, xs = [.int i] ∧ Q (.int i) H) ∨ ∃ k, xs = [.bl k] ∧ Q (.int (if k then 1 else 0)) H) := by
  intro pins s σ H xs us Q I r h
  rcases h with ⟨i, rfl, q⟩ | ⟨k, rfl, q⟩
  · obtain ⟨u, rfl, t, rfl⟩ := vals1 r
    exact call_int_int ⟨.int i, H, I, ⟨_, rfl⟩, q⟩
  · obtain ⟨u, rfl, r1⟩ := vals1 r
    cases r1
    exact call_int_bool ⟨.int (if k then 1 else 0), H, I.tok _, ⟨_, rfl⟩, q⟩
theorem call_bool1 : CallR X (.type "bool") (fun xs H Q => (∃ i, xs = [.int i] ∧ Q (.bl (i != 0)) H) ∨ ∃ k, xs = [.bl k] ∧ Q (.bl k) H) := by
  intro pins s σ H xs us Q I r h
  rcases h with ⟨i, rfl, q⟩ | ⟨k, rfl, q⟩
  · obtain ⟨u, rfl, t, rfl⟩ := vals1 r
    exact call_bool_int ⟨.bl (i != 0), H, I, rfl, q⟩
  · obtain ⟨u, rfl, r1⟩ := vals1 r
    cases r1
    exact call_bool_bool ⟨.bl k, H, I, rfl, q⟩
theorem call_str_int : CallR X (.type "str") (fun xs H Q => ∃ i, xs = [.int i] ∧ i.natAbs.log2 < 1920 ∧ Q (.str (toString i)) H) := by
  intro pins s σ H xs us Q I r h
  obtain ⟨i, rfl, hz, q⟩ := h
  obtain ⟨u, rfl, t, rfl⟩ := vals1 r
  exact PySem.P.str_of_int hz ⟨.str _, H, I.tok _, ⟨_, rfl⟩, q⟩
theorem call_ord : CallR X (.builtin "ord") (fun xs H Q => ∃ x, xs = [.str x] ∧ x.length = 1 ∧ Q (.int (x.cps.getD 0 0 : Nat)) H) := by
  intro pins s σ H xs us Q I r h
  obtain ⟨x, rfl, hz, q⟩ := h
  obtain ⟨u, rfl, t, rfl⟩ := vals1 r
  exact ord_of_one hz ⟨.int _, H, I.tok _, ⟨_, rfl⟩, q⟩
theorem call_chr : CallR X (.builtin "chr") (fun xs H Q => ∃ i, xs = [.int i] ∧ 0 ≤ i ∧ i ≤ 1114111 ∧ Q (.str ⟨#[i.toNat]⟩) H) := by
  intro pins s σ H xs us Q I r h
  obtain ⟨i, rfl, h0, h1, q⟩ := h
  obtain ⟨u, rfl, t, rfl⟩ := vals1 r
  exact chr_of_range h0 h1 ⟨.str _, H, I.tok _, ⟨_, rfl⟩, q⟩
/-- len of a str, a bytes, a list, a tuple -/
def LenV (K : PySem.W.Frag) (x : V) (H : Hp) (n : Nat) : Prop :=
  match x with
  | .str y => y.length ≤ sizeLine ∧ n = y.length
  | .byt y => y.size ≤ sizeLine ∧ n = y.size
  | .ref p => (∃ xs, SqL K H p xs ∧ n = xs.length) ∨ ∃ xs, SqT K H p xs ∧ n = xs.length
  | _ => False
theorem call_len : CallR X (.builtin "len") (fun xs H Q => ∃ x n, xs = [x] ∧ LenV X.K x H n ∧ Q (.int n) H) := by
  intro pins s σ H xs us Q I r h
  obtain ⟨x, n, rfl, e, q⟩ := h
  obtain ⟨u, rfl, rx⟩ := vals1 r
  have hl := line63
  have hs : sizeLine = 16777216 := sizeLine_eq
  cases x with
  | str y =>
    obtain ⟨t, rfl⟩ := rx
    obtain ⟨hy, e'⟩ : y.length ≤ sizeLine ∧ n = y.length := e
    subst e'
    exact len_str (by omega) ⟨.int _, H, I.tok _, ⟨_, rfl⟩, q⟩
  | byt y =>
    obtain ⟨t, rfl⟩ := rx
    obtain ⟨hy, e'⟩ : y.size ≤ sizeLine ∧ n = y.size := e
    subst e'
    exact PySem.W.len_bytes (by omega) ⟨.int _, H, I.tok _, ⟨_, rfl⟩, q⟩
  | ref p =>
    cases rx
    have e' : (∃ xs, SqL X.K H p xs ∧ n = xs.length) ∨ ∃ xs, SqT X.K H p xs ∧ n = xs.length := e
    rcases e' with ⟨xs, hx, e'⟩ | ⟨xs, hx, e'⟩
    · subst e'
      obtain ⟨its, r', pl, hz⟩ := I.list hx
      have hlen := r'.length
      exact Calls.call_len_list pl.isList (by simp only [List.size_toArray]; omega) ⟨.int xs.length, H, I.tok _, ⟨_, by simp only [List.size_toArray]; rw [hlen]⟩, q⟩
    · subst e'
      obtain ⟨its, r', pl, hz⟩ := I.tuple hx
      have hlen := r'.length
      exact len_tuple pl (by simp only [List.size_toArray]; omega) ⟨.int xs.length, H, I.tok _, ⟨_, by simp only [List.size_toArray]; rw [hlen]⟩, q⟩
  | _ => exact (show False from e).elim
/-- divmod: a new tuple -/
theorem call_divmod : CallR X (.builtin "divmod") (fun xs H Q => ∃ i j, xs = [.int i, .int j] ∧ CDiv i j ∧ ∀ p, H p = none → Q (.ref p) (upd H p (.tup [.int (i / j), .int (i % j)]))) := by
  intro pins s σ H xs us Q I r h
  obtain ⟨i, j, rfl, ⟨h1, h2⟩, q⟩ := h
  obtain ⟨u, w', rfl, ⟨t, rfl⟩, ⟨t', rfl⟩⟩ := vals2 r
  refine divmod_int (by omega) ?_ (.inl (PyProof.noPylong_small (by omega)))
  rw [Int.fdiv_eq_ediv_of_nonneg i (by omega), Int.fmod_eq_emod_of_nonneg i (by omega)]
  have hn : H s.heap.objs.size = none := I.hok.fresh (Nat.le_refl _)
  refine ⟨.ref s.heap.objs.size, _, ?_, rfl, q _ hn⟩
  refine I.laid (fun b o e => Heap.get?_push_of_some _ e) (Nat.le_refl _) ⟨by simp only [List.length_cons, List.length_nil]; rw [sizeLine_eq]; decide, [.int (i / j) s.toks, .int (i % j) (s.toks + 1)], .cons ⟨_, rfl⟩ (.cons ⟨_, rfl⟩ .nil), ?_⟩
  exact ⟨_, Heap.get?_push_size s.heap rfl, rfl, 0, rfl⟩
end
end L2

namespace L2
open PySem PySem.Spec PyProof.Rows

/-! ### an instance, its attributes a map -/
structure ObjM (h : Heap) (x dx C : Addr) (mA : Str → Option Value) : Prop where
  obj : h.get? x = some (PySem.W.instObj C dx)
  ns : h.Ns1 dx mA
  ne : dx ≠ x

theorem lookIn_ns {h : Heap} {dx : Addr} {mA : Str → Option Value} (n : h.Ns1 dx mA) : ∃ od, h.get? dx = some od ∧ ∀ name, PySem.W.lookIn name od = some (mA name) := by
  obtain ⟨o, es, ep, ho, hd, hk, _, hm⟩ := n
  refine ⟨o, ho, fun name => ?_⟩
  have e := hm name
  unfold nsFind findBy at e
  rw [← Array.find?_toList] at e
  unfold PySem.W.lookIn
  rw [hd]
  dsimp only
  split
  · rename_i y q
    rw [q] at e
    exact congrArg some e
  · rename_i q
    rw [q] at e
    have a : es.toList.any (·.refKey) = false := by
      rw [List.any_eq_false]
      intro y hy
      obtain ⟨z, t, hkey⟩ := hk y (Array.mem_toList_iff.mp hy)
      simp [DictEntry.refKey, hkey]
    have a' : ¬ es.toList.any (·.refKey) = true := by rw [a]; exact Bool.false_ne_true
    rw [if_neg a']
    exact congrArg some e

theorem ObjM.look {h : Heap} {x dx C : Addr} {mA : Str → Option Value} (I : ObjM h x dx C mA) : ∃ od, PySem.W.InstAt h x (PySem.W.instObj C dx) C (some od) ∧ ∀ name, PySem.W.lookIn name od = some (mA name) :=
  let ⟨od, ho, hl⟩ := lookIn_ns I.ns
  ⟨od, ⟨I.obj, rfl, rfl, ho⟩, hl⟩

section
variable {prog : Program} {w : World} {A : Around} {E : Value → Shared → Prop} {s : Shared} {K : PySem.W.Frag} {x dx C f : Addr} {mA : Str → Option Value} {name : Str} {v : Value}

theorem get_map {expr : Bool} {Q : Value → Shared → Prop} (X : K.In s.heap) (I : ObjM s.heap x dx C mA) (hg : PySem.W.plainGet K C name = true) (hh : PySem.W.hasDictIn K C = true)
    (ha : PySem.W.findIn K (.ref C) name = some none) (hv : mA name = some v) (hv' : PySem.W.handedIn v = true) (h : Q v { s with toks := s.toks + 1 }) :
    wpAny (model prog w) A (getAttr (.ref x) name expr) Q E s := by
  obtain ⟨od, J, hl⟩ := I.look
  exact PySem.W.get_value X J (PySem.W.plainGet_of hg).1 (PySem.W.findObj_own hh ha rfl (by rw [hl, hv])) hv' h

theorem get_const {expr : Bool} {a : Value} {Q : Value → Shared → Prop} (X : K.In s.heap) (I : ObjM s.heap x dx C mA) (hg : PySem.W.plainGet K C name = true) (hh : PySem.W.hasDictIn K C = true)
    (ha : PySem.W.findIn K (.ref C) name = some (some a)) (hn : PySem.W.specialIn K a "__get__" = some none) (hc : PySem.W.copiedNames.contains name = false) (hv : mA name = none) (hv' : PySem.W.handedIn a = true)
    (h : Q a { s with toks := s.toks + 1 }) : wpAny (model prog w) A (getAttr (.ref x) name expr) Q E s := by
  obtain ⟨od, J, hl⟩ := I.look
  exact PySem.W.get_value X J (PySem.W.plainGet_of hg).1 (PySem.W.findObj_cls hh ha hn hv' hc (by rw [hl, hv])) hv' h

theorem get_meth {pl : Sem Bool} {Q : Value × List Value → Shared → Prop} (X : K.In s.heap) (I : ObjM s.heap x dx C mA) (hg : PySem.W.plainGet K C name = true)
    (hf : PySem.W.findIn K (.ref C) name = some (some (.ref f))) (ht : PySem.W.isFn K (.ref f) = true) (hv : mA name = none) (h : Q (.ref f, [.ref x]) s) :
    wpAny (model prog w) A (getMethod (.ref x) name pl) Q E s := by
  obtain ⟨od, J, hl⟩ := I.look
  exact PySem.W.method_fn X J (PySem.W.plainGet_of hg).1 (PySem.W.plainGet_of hg).2 hf (beq_iff_eq.mp ht) (by show (PySem.W.lookIn name od).map (·.isSome) = some false; rw [hl, hv]; rfl) h

theorem set_map {ns : List Str} {Q : Unit → Shared → Prop} (X : K.In s.heap) (I : ObjM s.heap x dx C mA)
    (hs : PySem.W.findIn K (.ref C) "__setattr__" = some (some (.builtin "object.__setattr__"))) (hp : PySem.W.plainOver K C = true) (ht : PySem.W.takerIn K C name = some none) (hh : PySem.W.hasDictIn K C = true)
    (hw : PySem.Within mA ns) (hsz : ns.length ≤ sizeLine)
    (h : ∀ h', ObjM h' x dx C (fun y => if y = name then some v else mA y) → Heap.SameBut dx s.heap h' → Q () { s with heap := h', toks := s.toks + 2 }) :
    wpAny (model prog w) A (setAttr (.ref x) name v) Q E s := by
  obtain ⟨od, J, hl⟩ := I.look
  refine PySem.W.set_plain X J hs (PySem.W.osa_open (s := { s with toks := s.toks + 1 }) (r := none) X J hp ht fun b => ?_)
  obtain ⟨cd, hc, hd'⟩ := PySem.W.any_some hh
  have hx : s.heap.get? x = some ⟨.ref C, some dx, .plain, #[]⟩ := I.obj
  refine wpAny_bind (wpAny_pure (wpAny_bind (wpAny_bind (wpAny_loadPart hx (wpAny_bind (PySem.W.Looks.here (s := { s with toks := s.toks + 1 }) (PySem.W.looks_clsIn X hc) ?_))))))
  rw [hd']
  refine wpAny_pure (a := some dx) (wpAny_bind (wpAny_pure (wpAny_bind ?_)))
  refine wpAny_nsSet1 (s := { s with toks := s.toks + 1 }) I.ns fun h' hn2 hs2 => ?_
  obtain ⟨oD, esD, epD, hoD, hdD, hcD⟩ := hn2.count (PySem.Within.cons name v hw)
  refine wpAny_bind (wpAny_lookBehind hoD (by rw [hdD]; exact pastItsLine_dict (Nat.le_trans hcD (by rw [List.length_cons]; omega))) ?_)
  exact wpAny_pure (h _ ⟨(hs2.2 _ (Ne.symm I.ne)).trans I.obj, hn2, I.ne⟩ hs2)

/-- C(..): the dict at the heap's end, the instance behind it; then its __init__ -/
theorem make_map {R : Result → Shared → Prop} {vs : List Value} {kw : List (Str × Value)} (X : K.In s.heap) (hm : PySem.W.makesIn K C = true)
    (hi : PySem.W.findIn K (.ref C) "__init__" = some (some (.ref f))) (hf : PySem.W.typeIn K (.ref f) = some (.type "function"))
    (h : codeAny (model prog w) (A.under (.builtin "type.__call__" ⟨.ref C :: vs, kw⟩)) (.call (.ref f) ⟨.ref (s.heap.objs.size + 1) :: vs, kw⟩) (PySem.W.InitBack (s.heap.objs.size + 1) R)
      { s with heap := (s.heap.push PySem.W.emptyDict).push (PySem.W.instObj C s.heap.objs.size) }) :
    codeAny (model prog w) A (.call (.ref C) ⟨vs, kw⟩) R s := by
  obtain ⟨hh, g, d, t, os⟩ := s
  exact PySem.W.make_core (PySem.W.makes_of X hm) (PySem.W.looks_findIn X hi) (fun self => PySem.W.bind_fn X self hf) (.inl rfl) h
/-- C() where there is no __init__ but object's -/
theorem make_map0 {R : Result → Shared → Prop} (X : K.In s.heap) (hm : PySem.W.makesIn K C = true)
    (hi : PySem.W.findIn K (.ref C) "__init__" = some (some (.builtin "object.__init__")))
    (hb : ∀ self, PySem.W.Looks (model prog w) s.heap (bindSpecial (.builtin "object.__init__") self) (.builtin "object.__init__", [self]))
    (h : codeAny (model prog w) (A.under (.builtin "type.__call__" ⟨[.ref C], []⟩)) (.call (.builtin "object.__init__") ⟨[.ref (s.heap.objs.size + 1)], []⟩) (PySem.W.InitBack (s.heap.objs.size + 1) R)
      { s with heap := (s.heap.push PySem.W.emptyDict).push (PySem.W.instObj C s.heap.objs.size) }) :
    codeAny (model prog w) A (.call (.ref C) ⟨[], []⟩) R s := by
  obtain ⟨hh, g, d, t, os⟩ := s
  exact PySem.W.make_core (PySem.W.makes_of X hm) (PySem.W.looks_findIn X hi) hb (.inr ⟨rfl, rfl⟩) h
end

/-! ### the attributes as a list of pairs -/
def putF (f : Str) (v : V) : List (Str × V) → List (Str × V)
  | [] => [(f, v)]
  | (g, x) :: r => if g = f then (g, v) :: r else (g, x) :: putF f v r
theorem lookup_putF (f g : Str) (v : V) : ∀ fs : List (Str × V), (putF f v fs).lookup g = if g = f then some v else fs.lookup g
  | [] => by
    show List.lookup g [(f, v)] = _
    by_cases h : g = f
    · have hb : (g == f) = true := beq_iff_eq.mpr h
      simp only [List.lookup, hb, if_pos h]
    · have hb : (g == f) = false := beq_eq_false_iff_ne.mpr h
      simp only [List.lookup, hb, if_neg h]
  | (k, x) :: r => by
    have ih := lookup_putF f g v r
    rw [show putF f v ((k, x) :: r) = (if k = f then (k, v) :: r else (k, x) :: putF f v r) from rfl]
    by_cases hk : k = f
    · rw [if_pos hk]
      by_cases h : g = k
      · have hb : (g == k) = true := beq_iff_eq.mpr h
        simp only [List.lookup, hb, if_pos (h.trans hk)]
      · have hb : (g == k) = false := beq_eq_false_iff_ne.mpr h
        simp only [List.lookup, hb, if_neg (fun e : g = f => h (e.trans hk.symm))]
    · rw [if_neg hk]
      by_cases h : g = k
      · have hb : (g == k) = true := beq_iff_eq.mpr h
        simp only [List.lookup, hb, if_neg (fun e : g = f => hk (h.symm.trans e))]
      · have hb : (g == k) = false := beq_eq_false_iff_ne.mpr h
        simp only [List.lookup, hb]
        exact ih
theorem keys_putF (f : Str) (v : V) : ∀ fs : List (Str × V), f ∈ (putF f v fs).map (·.1) ∧ ∀ g, g ∈ fs.map (·.1) → g ∈ (putF f v fs).map (·.1)
  | [] => ⟨by simp [putF], fun g h => by simp at h⟩
  | (k, x) :: r => by
    obtain ⟨i1, i2⟩ := keys_putF f v r
    rw [show putF f v ((k, x) :: r) = (if k = f then (k, v) :: r else (k, x) :: putF f v r) from rfl]
    by_cases hk : k = f
    · rw [if_pos hk]
      subst hk
      exact ⟨by simp, fun g h => by simpa using h⟩
    · rw [if_neg hk]
      refine ⟨?_, fun g h => ?_⟩
      · rw [List.map_cons]
        exact List.mem_cons_of_mem _ i1
      · rw [List.map_cons] at h ⊢
        rcases List.mem_cons.mp h with e | e
        · exact List.mem_cons.mpr (.inl e)
        · exact List.mem_cons_of_mem _ (i2 g e)
theorem length_putF (f : Str) (v : V) : ∀ fs : List (Str × V), (putF f v fs).length ≤ fs.length + 1
  | [] => by simp [putF]
  | (k, x) :: r => by
    have ih := length_putF f v r
    rw [show putF f v ((k, x) :: r) = (if k = f then (k, v) :: r else (k, x) :: putF f v r) from rfl]
    by_cases hk : k = f
    · rw [if_pos hk, List.length_cons, List.length_cons]; omega
    · rw [if_neg hk, List.length_cons, List.length_cons]; omega

theorem RelO.some_of {v : V} {o : Option Value} (r : RelO (some v) o) : ∃ u, o = some u ∧ RelV v u := by
  cases o with
  | none => exact (show False from r).elim
  | some u => exact ⟨u, rfl, r⟩
theorem RelO.none_of {o : Option Value} (r : RelO none o) : o = none := by
  cases o with
  | none => rfl
  | some u => exact (show False from r).elim
theorem handed_of {v : V} {u : Value} (r : RelV v u) : PySem.W.handedIn u = true := by
  cases v with
  | non => cases (show u = Value.none from r); rfl
  | bl b => cases (show u = Value.bool b from r); rfl
  | int i => obtain ⟨t, e⟩ := (show ∃ t, u = Value.int i t from r); cases e; rfl
  | str x => obtain ⟨t, e⟩ := (show ∃ t, u = Value.str x t from r); cases e; rfl
  | byt b => obtain ⟨t, e⟩ := (show ∃ t, u = Value.bytes b t from r); cases e; rfl
  | flt b => obtain ⟨t, e⟩ := (show ∃ t, u = Value.float b t from r); cases e; rfl
  | ref a => cases (show u = Value.ref a from r); rfl
  | ty n => cases (show u = Value.type n from r); rfl

section
variable {P : Program} {w : World} {H H' : Hp} {h h' : Heap} {a C dx : Addr} {fs fs' : List (Str × V)}
theorem ins_get (hok : HOk P w H h) (e : H a = some (.ins C dx fs)) : ∃ mA, ObjM h a dx C mA ∧ (∀ f, RelO (fs.lookup f) (mA f)) ∧ PySem.Within mA (fs.map (·.1)) ∧ fs.length ≤ 1000 ∧ H dx = some (.own a) := by
  obtain ⟨d, z, ne, ob, mA, n, r, q⟩ := (show ObjOk P w H h a (.ins C dx fs) from hok a _ e)
  exact ⟨mA, ⟨ob, n, ne⟩, r, q, z, d⟩
end

/-! ### what of the text a class must have -/
structure Cls (K : PySem.W.Frag) (C : Addr) : Prop where
  pg : PySem.W.plainGet K C Str.empty = true
  hd : PySem.W.hasDictIn K C = true
  po : PySem.W.plainOver K C = true
  sa : PySem.W.findIn K (.ref C) "__setattr__" = some (some (.builtin "object.__setattr__"))
theorem Cls.get {K : PySem.W.Frag} {C : Addr} (c : Cls K C) (f : Str) : PySem.W.plainGet K C f = true := c.pg
/-- no class of it has the name -/
def NoAttr (K : PySem.W.Frag) (C : Addr) (f : Str) : Prop := PySem.W.findIn K (.ref C) f = some none
theorem NoAttr.taker {K : PySem.W.Frag} {C : Addr} {f : Str} (n : NoAttr K C f) : PySem.W.takerIn K C f = some none := by
  unfold PySem.W.takerIn
  rw [show PySem.W.findIn K (.ref C) f = some none from n]
  rfl
/-- a constant of the class -/
structure Con (K : PySem.W.Frag) (C : Addr) (f : Str) (v : V) (u : Value) : Prop where
  at_ : PySem.W.findIn K (.ref C) f = some (some u)
  rel : RelV v u
  get : PySem.W.specialIn K u "__get__" = some none
  cp : PySem.W.copiedNames.contains f = false
/-- a method: a plain def of the class or of one above it -/
structure Meth (K : PySem.W.Frag) (C : Addr) (m : Str) (f : Addr) : Prop where
  at_ : PySem.W.findIn K (.ref C) m = some (some (.ref f))
  fn : PySem.W.isFn K (.ref f) = true
  kp : PySem.W.keepIn K (.ref f) = true

section
variable {X : Cx} {pins : List (Addr × Obj)} {σ : St} {H : Hp} {s : Shared} {a C dx : Addr} {fs : List (Str × V)} {f : Str} {v : V} {A : Around} {E : Value → Shared → Prop}

theorem getattr_ok {b : Bool} {Q : Value → Shared → Prop} (I : Inv X pins σ H s) (e : H a = some (.ins C dx fs)) (c : Cls X.K C) (n : NoAttr X.K C f) (l : fs.lookup f = some v)
    (h : ∀ u s', Inv X pins σ H s' → RelV v u → Q u s') : wpAny (model X.prog X.w) A (getAttr (.ref a) f b) Q E s := by
  obtain ⟨mA, O, r, _, _, _⟩ := ins_get I.hok e
  obtain ⟨u, hu, ru⟩ := RelO.some_of (v := v) (o := mA f) (by rw [← l]; exact r f)
  exact get_map I.kIn O (c.get f) c.hd n hu (handed_of ru) (h u _ (I.tok _) ru)

theorem getcon_ok {b : Bool} {u : Value} {Q : Value → Shared → Prop} (I : Inv X pins σ H s) (e : H a = some (.ins C dx fs)) (c : Cls X.K C) (k : Con X.K C f v u) (l : fs.lookup f = none)
    (h : ∀ s', Inv X pins σ H s' → Q u s') : wpAny (model X.prog X.w) A (getAttr (.ref a) f b) Q E s := by
  obtain ⟨mA, O, r, _, _, _⟩ := ins_get I.hok e
  have hn : mA f = none := RelO.none_of (by rw [← l]; exact r f)
  exact get_const I.kIn O (c.get f) c.hd k.at_ k.get k.cp hn (handed_of k.rel) (h _ (I.tok _))

theorem getmeth_ok {m : Str} {g : Addr} {pl : Sem Bool} {Q : Value × List Value → Shared → Prop} (I : Inv X pins σ H s) (e : H a = some (.ins C dx fs)) (c : Cls X.K C) (k : Meth X.K C m g) (l : fs.lookup m = none)
    (h : Q (.ref g, [.ref a]) s) : wpAny (model X.prog X.w) A (getMethod (.ref a) m pl) Q E s := by
  obtain ⟨mA, O, r, _, _, _⟩ := ins_get I.hok e
  have hn : mA m = none := RelO.none_of (by rw [← l]; exact r m)
  exact get_meth I.kIn O (c.get m) k.at_ k.fn hn h

theorem setattr_ok {y : V} {u : Value} {Q : Unit → Shared → Prop} (I : Inv X pins σ H s) (e : H a = some (.ins C dx fs)) (c : Cls X.K C) (n : NoAttr X.K C f) (hl : fs.length < 1000) (ry : RelV y u)
    (h : ∀ s', Inv X pins σ (upd H a (.ins C dx (putF f y fs))) s' → Q () s') : wpAny (model X.prog X.w) A (setAttr (.ref a) f u) Q E s := by
  obtain ⟨mA, O, r, wi, _, ho⟩ := ins_get I.hok e
  have hz : (fs.map (·.1)).length ≤ sizeLine := by rw [List.length_map, sizeLine_eq]; omega
  refine set_map I.kIn O c.sa c.po n.taker c.hd wi hz fun h' O' sb => h _ ?_
  have hd : ∃ o, h'.get? dx = some o := let ⟨o, _, _, e', _⟩ := O'.ns; ⟨o, e'⟩
  refine I.write (x := a) (e := dx) (by rw [e]; exact True.intro) (.inr ho) (fun b q hb z => (sb.2 b hb).trans z) hd ?_
  refine ⟨by rw [upd_ne O.ne]; exact ho, ?_, O.ne, O'.obj, _, O'.ns, fun g => ?_, fun g hg => ?_⟩
  · have := length_putF f y fs; omega
  · show RelO ((putF f y fs).lookup g) (if g = f then some u else mA g)
    rw [lookup_putF]
    by_cases q : g = f
    · rw [if_pos q, if_pos q]; exact ry
    · rw [if_neg q, if_neg q]; exact r g
  · by_cases q : g = f
    · rw [q]; exact (keys_putF f y fs).1
    · refine (keys_putF f y fs).2 g (wi g fun z => hg ?_)
      show (if g = f then some u else mA g) = none
      rw [if_neg q]; exact z

/-- a new instance, tracked, without attributes -/
theorem Inv.made (I : Inv X pins σ H s) : Inv X pins σ (upd (upd H s.heap.objs.size (.own (s.heap.objs.size + 1))) (s.heap.objs.size + 1) (.ins C s.heap.objs.size []))
    { s with heap := (s.heap.push PySem.W.emptyDict).push (PySem.W.instObj C s.heap.objs.size) } := by
  have e1 : (s.heap.push PySem.W.emptyDict).get? s.heap.objs.size = some PySem.W.emptyDict := Heap.get?_push_size s.heap rfl
  have e2 : ((s.heap.push PySem.W.emptyDict).push (PySem.W.instObj C s.heap.objs.size)).get? (s.heap.objs.size + 1) = some (PySem.W.instObj C s.heap.objs.size) := by
    have := Heap.get?_push_size (s.heap.push PySem.W.emptyDict) (o := PySem.W.instObj C s.heap.objs.size) rfl
    rwa [Heap.size_push] at this
  have e3 : (s.heap.push PySem.W.emptyDict).Ns s.heap.objs.size (fun _ => none) := ⟨PySem.W.emptyDict, #[], _, e1, rfl, (fun e he => absurd he (by simp)), fun _ => rfl⟩
  have I1 := I.laid (a := s.heap.objs.size) (o := .own (s.heap.objs.size + 1)) (h' := s.heap.push PySem.W.emptyDict) (t' := s.toks) (fun b u q => Heap.get?_push_of_some _ q) (Nat.le_refl _) ⟨_, e1⟩
  refine I1.laid (a := s.heap.objs.size + 1) (o := .ins C s.heap.objs.size []) (t' := s.toks) (fun b u q => Heap.get?_push_of_some _ q) (Nat.le_of_eq (Heap.size_push _ _)) ?_
  have ne : s.heap.objs.size ≠ s.heap.objs.size + 1 := Nat.ne_of_lt (Nat.lt_succ_self _)
  refine ⟨by rw [upd_ne ne, upd_same], Nat.zero_le _, ne, e2, fun _ => none, (Heap.Ns1.of_empty e3).at fun o q => Heap.get?_push_of_some _ q, fun _ => True.intro, fun y hy => absurd rfl hy⟩

/-- e.f where nothing but the object is asked: through attributeBase (super) and the last hold -/
theorem attr_of {prog : Program} {w : World} {env : Env} {e : Expr} {f : Str} {pos : Pos} {s : Shared} {Q : Value → Shared → Prop} (hb : attributeBase e f env (eval e env) = eval e env)
    (h : wpAny (model prog w) A (eval e env) (fun o s₁ => wpAny (model prog w) A (getAttr o f true) Q E s₁) E s) : wpAny (model prog w) A (eval (.Attribute e f pos) env) Q E s :=
  Attribute_any_ h (by rw [arm_eval_Attribute, hb])
end

/-! ### readings and rules -/
/-- e.f, an attribute of the instance -/
def tFld (K : PySem.W.Frag) (ta : TE) (f : Str) : TE := fun σ H Q => ta σ H fun x H1 => ∃ a C dx fs v, x = .ref a ∧ H1 a = some (.ins C dx fs) ∧ Cls K C ∧ NoAttr K C f ∧ fs.lookup f = some v ∧ Q v H1
/-- e.f, a constant of the class -/
def tCon (K : PySem.W.Frag) (ta : TE) (f : Str) : TE := fun σ H Q => ta σ H fun x H1 => ∃ a C dx fs v u, x = .ref a ∧ H1 a = some (.ins C dx fs) ∧ Cls K C ∧ Con K C f v u ∧ fs.lookup f = none ∧ Q v H1
/-- e.f = value -/
def sFld (K : PySem.W.Frag) (ta tv : TE) (f : Str) : TS := fun D σ H => tv σ H fun y H1 => ta σ H1 fun x H2 => ∃ a C dx fs, x = .ref a ∧ H2 a = some (.ins C dx fs) ∧ Cls K C ∧ NoAttr K C f ∧ fs.length < 1000 ∧
  D.nx σ (upd H2 a (.ins C dx (putF f y fs)))
/-- an augmented operator on two values -/
def InOp (X : Cx) (op : Operator) (rd : V → V → Hp → VK → Prop) : Prop :=
  ∀ (pins : List (Addr × Obj)) (s : Shared) (σ : St) (H : Hp) (x y : V) (u v : Value) (Q : VK), Inv X pins σ H s → RelV x u → RelV y v → rd x y H Q → wpAny (model X.prog X.w) X.A (inplaceOp op u v) (EP X pins σ Q) X.xe s
/-- e.f op= value -/
def sFldAug (K : PySem.W.Frag) (ta tv : TE) (rd : V → V → Hp → VK → Prop) (f : Str) : TS := fun D σ H => ta σ H fun x H1 => ∃ a C dx fs v, x = .ref a ∧ H1 a = some (.ins C dx fs) ∧ Cls K C ∧ NoAttr K C f ∧ fs.lookup f = some v ∧
  tv σ H1 fun y H2 => rd v y H2 fun z H3 => ∃ dx' fs', H3 a = some (.ins C dx' fs') ∧ fs'.length < 1000 ∧ D.nx σ (upd H3 a (.ins C dx' (putF f z fs')))

section
variable {X : Cx} {o e value : Expr} {f : Str} {pos pos' tpos : Pos} {ta tv : TE}
theorem pe_fld (he : PE X e ta) (hb : attributeBase e f X.env (eval e X.env) = eval e X.env) : PE X (.Attribute e f pos) (tFld X.K ta f) := by
  intro pins s σ H Q I h
  refine attr_of hb (thn (he pins s σ H _ I h) fun u s1 ⟨x, H1, I1, rx, a, C, dx, fs, v, ex, ea, c, n, l, q⟩ => ?_)
  subst ex
  obtain rfl : u = Value.ref a := rx
  exact getattr_ok I1 ea c n l fun u' s2 I2 ru => ⟨v, H1, I2, ru, q⟩
theorem pe_con (he : PE X e ta) (hb : attributeBase e f X.env (eval e X.env) = eval e X.env) : PE X (.Attribute e f pos) (tCon X.K ta f) := by
  intro pins s σ H Q I h
  refine attr_of hb (thn (he pins s σ H _ I h) fun u s1 ⟨x, H1, I1, rx, a, C, dx, fs, v, u0, ex, ea, c, k, l, q⟩ => ?_)
  subst ex
  obtain rfl : u = Value.ref a := rx
  exact getcon_ok I1 ea c k l fun s2 I2 => ⟨v, H1, I2, k.rel, q⟩
theorem ps_fld (ha : PE X o ta) (hv : PE X value tv) (hs : swapsWith value (some (.Attribute o f pos')) pos.line X.env = pure false) : PS X (.Assign [.Attribute o f pos'] value pos) (sFld X.K ta tv f) := by
  intro pins s σ H D I h
  refine plainObj_wpAny_Assign_Attribute (thn (hv pins s σ H _ I h) fun u s1 ⟨y, H1, I1, ry, q⟩ => thn (ha pins s1 σ H1 _ I1 q) fun ov s2 ⟨x, H2, I2, rx, a, C, dx, fs, ex, ea, c, n, l, q2⟩ => ?_) hs
  subst ex
  obtain rfl : ov = Value.ref a := rx
  exact setattr_ok I2 ea c n l ry fun s3 I3 => ⟨σ, _, I3, q2⟩
theorem ps_fldaug {op : Operator} {rd : V → V → Hp → VK → Prop} (ha : PE X o ta) (hv : PE X value tv) (hop : InOp X op rd) : PS X (.AugAssign (.Attribute o f tpos) op value pos) (sFldAug X.K ta tv rd f) := by
  intro pins s σ H D I h
  refine wpAny_AugAssign_AttributeAny (thn (ha pins s σ H _ I h) fun ov s1 ⟨x, H1, I1, rx, a, C, dx, fs, v, ex, ea, c, n, l, q⟩ => ?_)
  subst ex
  obtain rfl : ov = Value.ref a := rx
  refine getattr_ok I1 ea c n l fun u s2 I2 ru => thn (hv pins s2 σ H1 _ I2 q) fun w3 s3 ⟨y, H2, I3, ry, q3⟩ => thn (hop pins s3 σ H2 v y u w3 _ I3 ru ry q3) fun w4 s4 ⟨z, H3, I4, rz, dx', fs', ea', l', q4⟩ => ?_
  exact setattr_ok I4 ea' c n l' rz fun s5 I5 => ⟨σ, _, I5, q4⟩
def rAdd : V → V → Hp → VK → Prop := fun x y H Q => ∃ i j, x = .int i ∧ y = .int j ∧ Q (.int (i + j)) H
def rSub : V → V → Hp → VK → Prop := fun x y H Q => ∃ i j, x = .int i ∧ y = .int j ∧ Q (.int (i - j)) H
theorem in_add : InOp X .Add rAdd := by
  rintro pins s σ H x y u v Q I rx ry ⟨i, j, rfl, rfl, q⟩
  obtain ⟨t, rfl⟩ := (show ∃ t, u = Value.int i t from rx)
  obtain ⟨t', rfl⟩ := (show ∃ t', v = Value.int j t' from ry)
  exact PyProof.Rows.iadd_int ⟨.int (i + j), H, I.tok _, ⟨_, rfl⟩, q⟩
theorem in_sub : InOp X .Sub rSub := by
  rintro pins s σ H x y u v Q I rx ry ⟨i, j, rfl, rfl, q⟩
  obtain ⟨t, rfl⟩ := (show ∃ t, u = Value.int i t from rx)
  obtain ⟨t', rfl⟩ := (show ∃ t', v = Value.int j t' from ry)
  exact PyProof.Rows.isub_int ⟨.int (i - j), H, I.tok _, ⟨_, rfl⟩, q⟩

/-- what is between an instance and its method: the tree of a method call -/
theorem methcall_of {pl : Sem Bool} {m : Str} {apos : Pos} {args : List Expr} {pins : List (Addr × Obj)} {s : Shared} {σ : St} {H : Hp} {Q : Value → Shared → Prop} {te : TE} (he : PE X e te) (I : Inv X pins σ H s)
    (h : te σ H fun x H1 => ∃ a C dx fs g, x = .ref a ∧ H1 a = some (.ins C dx fs) ∧ Cls X.K C ∧ Meth X.K C m g ∧ fs.lookup m = none ∧
      ∀ s1, Inv X pins σ H1 s1 → wpAny (model X.prog X.w) X.A (callWith pos (.ref g) [.ref a] (backTo pos (starEach args X.env)) (backToKw pos (keywordEach [] X.env))) Q X.xe s1)
    (ht : eval (.Call (.Attribute e m apos) args [] pos) X.env = (do
      let ov ← eval e X.env
      standAt apos.atName
      let (f, first) ← holding [ov] (getMethod ov m pl)
      callWith pos f first (backTo pos (starEach args X.env)) (backToKw pos (keywordEach [] X.env)))) :
    wpAny (model X.prog X.w) X.A (eval (.Call (.Attribute e m apos) args [] pos) X.env) Q X.xe s := by
  refine PySem.W.methodCall_KW (pl := pl) (thn (he pins s σ H _ I h) fun u s1 ⟨x, H1, I1, rx, a, C, dx, fs, g, ex, ea, c, k, l, q⟩ => ?_) ht
  subst ex
  obtain rfl : u = Value.ref a := rx
  exact getmeth_ok I1 ea c k l (q s1 I1)
end

/-! ### isinstance -/
section
variable {X : Cx} {pins : List (Addr × Obj)} {σ : St} {H : Hp} {s : Shared} {A : Around} {E : Value → Shared → Prop} {Q : Value → Shared → Prop} {c : Value} {b : Bool}
/-- the type of a value, as the fragment's deciders take it; for an instance its class -/
inductive TyOf (K : PySem.W.Frag) (H : Hp) : V → Value → Prop where
  | non : TyOf K H .non (.type "NoneType")
  | bl (x : Bool) : TyOf K H (.bl x) (.type "bool")
  | int (i : Int) : TyOf K H (.int i) (.type "int")
  | str (x : Str) : TyOf K H (.str x) (.type "str")
  | flt (x : UInt64) : TyOf K H (.flt x) (.type "float")
  | lst {a : Addr} {xs : List V} (e : H a = some (.lst xs)) : TyOf K H (.ref a) (.type "list")
  | frz {a : Addr} {o : Obj} {xs : List V} (e : H a = some (.frz o (.lst xs))) : TyOf K H (.ref a) (.type "list")
  | tup {a : Addr} {xs : List V} (e : H a = some (.tup xs)) : TyOf K H (.ref a) (.type "tuple")
  | dK {a : Addr} {kvs : List (Key × V)} (e : H a = some (.dK kvs)) : TyOf K H (.ref a) (.type "dict")
  | dT {a : Addr} {kvs : List (List Key × V)} (e : H a = some (.dT kvs)) : TyOf K H (.ref a) (.type "dict")
  | ins {a C dx : Addr} {fs : List (Str × V)} (e : H a = some (.ins C dx fs)) (cl : Cls K C) (ha : PySem.W.findIn K (.ref C) "__class__" = some (some (.builtin "object.__class__")))
      (hn : PySem.W.specialIn K (.builtin "object.__class__") "__get__" = some (some (.builtin "getset_descriptor.__get__"))) (htk : PySem.W.takesIn K (.builtin "object.__class__") = some true)
      (hm : PySem.W.mroIn K C (.type "object") = some true) : TyOf K H (.ref a) (.ref C)
/-- isinstance(x, c) for one class c, a built-in or an own one: kitOne's answer -/
theorem isinst_ok {x : V} {u t : Value} (I : Inv X pins σ H s) (rx : RelV x u) (ty : TyOf X.K H x t) (e : PySem.W.kitOne X.K t c = some b) (h : ∀ tk, Q (.bool b) { s with toks := tk }) :
    wpAny (model X.prog X.w) A (call (.builtin "isinstance") [u, c]) Q E s := by
  cases ty with
  | non => cases (show u = Value.none from rx); exact PySem.W.kia_one PySem.W.kitx_none I.kIn True.intro e (fun z => nomatch z) h
  | bl y => cases (show u = Value.bool y from rx); exact PySem.W.kia_one PySem.W.kitx_bool I.kIn True.intro e (fun z => nomatch z) h
  | int i => obtain ⟨t, q⟩ := (show ∃ t, u = Value.int i t from rx); cases q; exact PySem.W.kia_one PySem.W.kitx_int I.kIn True.intro e (fun z => nomatch z) h
  | str y => obtain ⟨t, q⟩ := (show ∃ t, u = Value.str y t from rx); cases q; exact PySem.W.kia_one PySem.W.kitx_str I.kIn True.intro e (fun z => nomatch z) h
  | flt y => obtain ⟨t, q⟩ := (show ∃ t, u = Value.float y t from rx); cases q; exact PySem.W.kia_one PySem.W.kitx_float I.kIn True.intro e (fun z => nomatch z) h
  | @lst a xs ea =>
    cases (show u = Value.ref a from rx)
    obtain ⟨_, _, n, _, h1⟩ := (show ObjOk X.prog X.w H s.heap a (.lst xs) from I.hok a _ ea)
    exact PySem.W.kia_one PySem.W.kitx_list I.kIn ⟨_, h1, rfl⟩ e (fun z => nomatch z) h
  | @frz a ob xs ea =>
    cases (show u = Value.ref a from rx)
    obtain ⟨_, _, _, n, _, h1⟩ := (show ObjOk X.prog X.w H s.heap a (.frz ob (.lst xs)) from I.hok a _ ea)
    exact PySem.W.kia_one PySem.W.kitx_list I.kIn ⟨_, h1, rfl⟩ e (fun z => nomatch z) h
  | @tup a xs ea =>
    cases (show u = Value.ref a from rx)
    obtain ⟨_, _, _, p⟩ := (show ObjOk X.prog X.w H s.heap a (.tup xs) from I.hok a _ ea)
    obtain ⟨o, h1, h2, _⟩ := p
    exact PySem.W.kia_one PySem.W.kitx_tuple I.kIn ⟨o, h1, h2⟩ e (fun z => nomatch z) h
  | @dK a kvs ea =>
    cases (show u = Value.ref a from rx)
    obtain ⟨_, _, vs, _, p⟩ := (show ObjOk X.prog X.w H s.heap a (.dK kvs) from I.hok a _ ea)
    obtain ⟨o, es, ep, h1, h2, _⟩ := p
    exact PySem.W.kia_one PySem.W.kitx_dict I.kIn ⟨o, h1, h2.1⟩ e (fun z => nomatch z) h
  | @dT a kvs ea =>
    cases (show u = Value.ref a from rx)
    obtain ⟨_, _, xs, _, o, es, ep, h1, h2, _⟩ := (show ObjOk X.prog X.w H s.heap a (.dT kvs) from I.hok a _ ea)
    exact PySem.W.kia_one PySem.W.kitx_dict I.kIn ⟨o, h1, h2.1⟩ e (fun z => nomatch z) h
  | @ins a C dx fs ea cl ha hn htk hm =>
    cases (show u = Value.ref a from rx)
    obtain ⟨mA, O, _⟩ := ins_get I.hok ea
    obtain ⟨od, J, _⟩ := O.look
    exact PySem.W.kia_one (PySem.W.kitx_own (cl.get _) cl.hd ha hn htk hm) I.kIn J e (fun z => nomatch z) h
end
end L2

namespace L2
open PySem PySem.Spec PyProof.Rows

/-! ### room -/
structure Room (k : Nat) (A : Around) : Prop where
  hd : A.handled = none
  dp : A.depth + 3 * k + 5 < recursionLimit
  un : A.units + 16 * k + 200 < cLine
theorem Room.mono {j k : Nat} {A : Around} (r : Room k A) (h : j ≤ k) : Room j A := ⟨r.hd, by have := r.dp; omega, by have := r.un; omega⟩
theorem Room.deeper {k : Nat} {A : Around} (r : Room (k + 1) A) (env : Env) : Room k (A.deeper env) :=
  ⟨r.hd, by have := r.dp; show A.depth + 1 + 3 * k + 5 < _; omega, by have := r.un; show A.units + 3 + 16 * k + 200 < _; omega⟩
theorem Room.in1 {k : Nat} {A : Around} (r : Room (k + 1) A) : Room k A.in1 :=
  ⟨r.hd, by have := r.dp; show A.depth + 3 * k + 5 < _; omega, by have := r.un; show A.units + 1 + 16 * k + 200 < _; omega⟩
theorem make_depth {A : Around} {C : Addr} {us : List Value} {kw : List (Str × Value)} : (A.under (.builtin "type.__call__" ⟨.ref C :: us, kw⟩)).depth = A.depth + 1 := by
  first | rfl | simp [Around.under, Code.weight, Code.isCreation, Code.isGuard, Code.isCaller, Code.frames, Code.isFrame, guardIds]
theorem make_units {A : Around} {C : Addr} {us : List Value} {kw : List (Str × Value)} : (A.under (.builtin "type.__call__" ⟨.ref C :: us, kw⟩)).units = A.units + 1 := by
  first | rfl | simp [Around.under, Code.cUnits, Code.frames, Code.isFrame]
theorem Room.make {k : Nat} {A : Around} (r : Room (k + 1) A) (C : Addr) (us : List Value) (kw : List (Str × Value)) : Room k (A.under (.builtin "type.__call__" ⟨.ref C :: us, kw⟩)) :=
  ⟨r.hd, by have := r.dp; rw [make_depth]; omega, by have := r.un; rw [make_units]; omega⟩
theorem Room.depth {k : Nat} {A : Around} (r : Room k A) : A.depth < recursionLimit := by have := r.dp; omega
theorem Room.units {k : Nat} {A : Around} (r : Room k A) : A.units + 64 < cLine := by have := r.un; omega
theorem Room.units0 {k : Nat} {A : Around} (r : Room k A) : A.units < cLine := by have := r.un; omega

/-! ### argument lists and displays -/
def tNil : TA := fun _ H Q => Q [] H
def tCons (ta : TE) (tr : TA) : TA := fun σ H Q => ta σ H fun x H1 => tr σ H1 fun xs H2 => Q (x :: xs) H2
section
variable {X : Cx} {e : Expr} {es : List Expr} {te : TE} {t : TA} {pos : Pos}
theorem pa_nil : PA X [] tNil := fun _ _ _ _ H Q I h => Calls.spliced_nil ⟨[], H, I, .nil, h⟩
theorem pa_cons (ha : PE X e te) (hr : PA X es t) (hs : starEach (e :: es) X.env = (false, eval e X.env) :: starEach es X.env := by rfl) : PA X (e :: es) (tCons te t) := by
  intro pos pins s σ H Q I h
  rw [hs]
  show wpAny _ _ (spliced ((false, eval e X.env) :: backTo pos (starEach es X.env))) _ _ s
  refine Calls.spliced_cons (thn (ha pins s σ H _ I h) fun u s1 ⟨x, H1, I1, r1, q1⟩ => ?_)
  exact thn (hr pos pins s1 σ H1 _ I1 q1) fun us s2 ⟨xs, H2, I2, r2, q2⟩ => ⟨x :: xs, H2, I2, .cons r1 r2, q2⟩

/-- a tuple, a list of written items -/
def tTup (t : TA) : TE := fun σ H Q => t σ H fun xs H1 => xs.length ≤ sizeLine ∧ ∀ p, H1 p = none → Q (.ref p) (upd H1 p (.tup xs))
def tLst (t : TA) : TE := fun σ H Q => t σ H fun xs H1 => xs.length ≤ sizeLine ∧ ∀ p, H1 p = none → Q (.ref p) (upd H1 p (.lst xs))
theorem pe_tup {x1} (h : PA X es t) : PE X (.Tuple es x1 pos) (tTup t) := by
  intro pins s σ H Q I hq
  refine wpAny_Tuple_spliced (thn (h pos pins s σ H _ I hq) fun us s1 ⟨xs, H1, I1, r, z, q⟩ => ⟨by rw [← r.length]; exact z, ?_⟩)
  have hf : H1 s1.heap.objs.size = none := I1.hok.fresh (Nat.le_refl _)
  refine ⟨.ref s1.heap.objs.size, upd H1 s1.heap.objs.size (.tup xs), I1.laid (t' := s1.toks) (fun b u e => Heap.get?_push_of_some _ e) (Nat.le_refl _) ?_, rfl, q _ hf⟩
  exact ⟨z, us, r, ⟨_, Heap.get?_push_size _ rfl, rfl, _, rfl⟩⟩
theorem pe_lst (h : PA X es t) : PE X (.List es pos) (tLst t) := by
  intro pins s σ H Q I hq
  refine wpAny_List_spliced (thn (h pos pins s σ H _ I hq) fun us s1 ⟨xs, H1, I1, r, z, q⟩ => ⟨by rw [← r.length]; exact z, ?_⟩)
  have hf : H1 s1.heap.objs.size = none := I1.hok.fresh (Nat.le_refl _)
  refine ⟨.ref s1.heap.objs.size, upd H1 s1.heap.objs.size (.lst xs), I1.laid (t' := s1.toks) (fun b u e => Heap.get?_push_of_some _ e) (Nat.le_refl _) ?_, rfl, q _ hf⟩
  exact ⟨z, us, 0, r, Heap.get?_push_size _ rfl⟩
end

/-! ### what a def promises -/
/-- a def's promise: the bound arguments in the parameters' order, the heap, the wanted end, the wanted exception -/
abbrev Sp := List V → Hp → VK → XK → Prop
/-- how an exception lies behind a call (file 08 gives it): the callers' frames, abstract heap and state ahead of the call, the wish, the exception, the state -/
abbrev CXT := List Env → Hp → Shared → XK → Value → Shared → Prop

/-- the state at a call -/
structure Env0 (P : Program) (w : World) (K : PySem.W.Frag) (mg : Str → Option Value) (base : Heap) (A : Around) (outer : List Env) (s : Shared) (H : Hp) : Prop where
  frames : A.frames = some outer
  mod : Mod K mg base
  bs : ∀ b o, base.get? b = some o → s.heap.get? b = some o ∧ H b = none
  bsz : base.objs.size ≤ s.heap.objs.size
  funs : s.heap.FunFrames base outer
  frf : ∀ b ∈ frs outer, H b = none
  hok : HOk P w H s.heap
  bare : AllBare s.gens
/-- a call's end -/
def CE (outer : List Env) (P : Program) (w : World) (H : Hp) (s : Shared) (Q : VK) (u : Value) (s' : Shared) : Prop :=
  ∃ v H', s'.os = s.os ∧ AllBare s'.gens ∧ Un (frs outer) [] H H' s.heap s'.heap ∧ HOk P w H' s'.heap ∧ RelV v u ∧ Q v H'
def CR (CX : CXT) (outer : List Env) (P : Program) (w : World) (H : Hp) (s : Shared) (Q : VK) (E : XK) (r : Result) (s' : Shared) : Prop :=
  match r with
  | .ok (.ret u) => CE outer P w H s Q u s'
  | .ok _ => False
  | .error e => CX outer H s E e s'
structure FnOk (P : Program) (w : World) (K : PySem.W.Frag) (mg : Str → Option Value) (base : Heap) (CX : CXT) (k : Nat) (f : Addr) (fd : FuncData) (ps : List Str) (sp : Sp) : Prop where
  len : ∀ vs H Q E, sp vs H Q E → vs.length = ps.length
  run : ∀ (A : Around) (outer : List Env) (s : Shared) (H : Hp) (args : Args) (us : List Value) (vs : List V) (Q : VK) (E : XK), Room k A → Env0 P w K mg base A outer s H → BindsTo s fd args (ps.zip us) → Vals vs us → sp vs H Q E →
    codeAny (model P w) A (.call (.ref f) args) (CR CX outer P w H s Q E) s
theorem FnOk.mono {P : Program} {w : World} {K : PySem.W.Frag} {mg : Str → Option Value} {base : Heap} {CX : CXT} {j k : Nat} {f : Addr} {fd : FuncData} {ps : List Str} {sp : Sp} (F : FnOk P w K mg base CX j f fd ps sp) (h : j ≤ k) :
    FnOk P w K mg base CX k f fd ps sp := ⟨F.len, fun A outer s H args us vs Q E hr => F.run A outer s H args us vs Q E (hr.mono h)⟩
/-- a weaker promise -/
theorem FnOk.imp {P : Program} {w : World} {K : PySem.W.Frag} {mg : Str → Option Value} {base : Heap} {CX : CXT} {k : Nat} {f : Addr} {fd : FuncData} {ps : List Str} {sp sp' : Sp} (F : FnOk P w K mg base CX k f fd ps sp)
    (h : ∀ vs H Q E, sp' vs H Q E → sp vs H Q E) : FnOk P w K mg base CX k f fd ps sp' :=
  ⟨fun vs H Q E q => F.len vs H Q E (h _ _ _ _ q), fun A outer s H args us vs Q E hr he hb hv hs => F.run A outer s H args us vs Q E hr he hb hv (h _ _ _ _ hs)⟩

theorem Env0.make {P : Program} {w : World} {K : PySem.W.Frag} {mg : Str → Option Value} {base : Heap} {A : Around} {outer : List Env} {s : Shared} {H : Hp} (e : Env0 P w K mg base A outer s H) (C : Addr) (us : List Value) (kw : List (Str × Value)) :
    Env0 P w K mg base (A.under (.builtin "type.__call__" ⟨.ref C :: us, kw⟩)) outer s H := ⟨by first | exact e.frames | (simpa [Around.under, Code.envs, Code.isFrame, pushEnvs] using e.frames), e.mod, e.bs, e.bsz, e.funs, e.frf, e.hok, e.bare⟩
theorem Env0.in1 {P : Program} {w : World} {K : PySem.W.Frag} {mg : Str → Option Value} {base : Heap} {A : Around} {outer : List Env} {s : Shared} {H : Hp} (e : Env0 P w K mg base A outer s H) :
    Env0 P w K mg base A.in1 outer s H := ⟨e.frames, e.mod, e.bs, e.bsz, e.funs, e.frf, e.hok, e.bare⟩

section
variable {X : Cx} {pins : List (Addr × Obj)} {σ : St} {H : Hp} {s s' : Shared}
/-- from a body: what a callee wants -/
theorem Inv.env0 (I : Inv X pins σ H s) : Env0 X.prog X.w X.K X.mg X.base X.A X.stack s H :=
  ⟨I.ok.frames, I.ok.mod, I.bs, Nat.le_trans I.ok.bsz I.sz, I.stack, I.stkFree, I.hok, I.bare⟩
/-- behind a call -/
theorem Inv.after {Q : VK} {u : Value} (I : Inv X pins σ H s) (h : CE X.stack X.prog X.w H s Q u s') : EP X pins σ Q u s' := by
  obtain ⟨v, H', os, bare, un, hok, r, q⟩ := h
  obtain ⟨hh, g, d, t, os'⟩ := s'
  obtain rfl : os' = s.os := os
  exact ⟨v, H', I.call (h' := hh) (g' := g) (d' := d) (t' := t) (ch := []) un hok bare (fun b z => absurd z (by simp)), r, q⟩
end

/-! ### calls -/
/-- f(..): the written arguments, then the defaults dvs; E: what is wanted of an exception -/
def tCall (sp : Sp) (dvs : List V) (E : XK) (t : TA) : TE := fun σ H Q => t σ H fun vs H1 => sp (vs ++ dvs) H1 Q E
/-- o.m(..) of an instance of the class at C -/
def tMeth (C : Addr) (m : Str) (sp : Sp) (dvs : List V) (E : XK) (ta : TE) (t : TA) : TE := fun σ H Q => ta σ H fun x H1 => ∃ a dx fs, x = .ref a ∧ H1 a = some (.ins C dx fs) ∧ fs.lookup m = none ∧
  t σ H1 fun vs H2 => sp (x :: (vs ++ dvs)) H2 Q E
/-- C(..): a new instance and its dict, then __init__ -/
def tMake (C : Addr) (sp : Sp) (dvs : List V) (E : XK) (t : TA) : TE := fun σ H Q => t σ H fun vs H1 => ∀ x dx, H1 x = none → H1 dx = none → dx ≠ x →
  sp (.ref x :: (vs ++ dvs)) (upd (upd H1 dx (.own x)) x (.ins C dx [])) (fun v H2 => v = .non ∧ Q (.ref x) H2) E

/-- how the parameters are bound: us the positional arguments, kw the keywords' values by name, ds the defaults that fill up -/
def Binds (K : PySem.W.Frag) (fd : FuncData) (ps : List Str) (ds : List Value) : Prop :=
  ∀ (s : Shared) (us : List Value), K.In s.heap → (us ++ ds).length = ps.length → BindsTo s fd ⟨us, []⟩ (ps.zip (us ++ ds))
/-- every parameter is given -/
theorem Binds.all {K : PySem.W.Frag} {fd : FuncData} {ps : List Str} (h : ∀ us : List Value, us.length = ps.length → bindArgs fd ⟨us, []⟩ = pure (ps.zip us)) : Binds K fd ps [] := fun s us _ hl => by
  rw [List.append_nil] at hl ⊢
  exact .of_eq (h us hl)

/-- an exception of a callee reaches what this body wants of exceptions -/
def Passes (CX : CXT) (X : Cx) (E : XK) : Prop := ∀ (pins : List (Addr × Obj)) (σ : St) (H : Hp) (s : Shared) (e : Value) (s' : Shared), Inv X pins σ H s → CX X.stack H s E e s' → X.xe e s'

section
variable {X : Cx} {CX : CXT} {k : Nat} {f C : Addr} {fd : FuncData} {ps : List Str} {sp : Sp} {dvs : List V} {ds : List Value} {E : XK} {x m : Str} {p pos apos : Pos} {e o : Expr} {es : List Expr} {ta : TE} {t : TA}

/-- the callee runs -/
theorem run_fn {pins : List (Addr × Obj)} {σ : St} {H : Hp} {s : Shared} {Q : VK} {us : List Value} {vs : List V} (F : FnOk X.prog X.w X.K X.mg X.base CX k f fd ps sp) (hr : Room k X.A) (hb : Binds X.K fd ps ds) (hd : Vals dvs ds) (hx : Passes CX X E)
    (I : Inv X pins σ H s) (r : Vals vs us) (h : sp (vs ++ dvs) H Q E) : wpAny (model X.prog X.w) X.A (call (.ref f) us) (EP X pins σ Q) X.xe s := by
  have r2 : Vals (vs ++ dvs) (us ++ ds) := r.append hd
  have hl : (us ++ ds).length = ps.length := by rw [← r2.length]; exact F.len _ _ _ _ h
  refine wpAny_call (codeAny_mono (F.run X.A X.stack s H ⟨us, []⟩ (us ++ ds) (vs ++ dvs) Q E hr I.env0 (hb s us I.kIn hl) r2 h) fun r s' hq => ?_)
  cases r with
  | error e => exact hx pins σ H s e s' I hq
  | ok fl =>
    cases fl with
    | ret u => exact I.after hq
    | next => exact False.elim hq
    | brk => exact False.elim hq
    | cont => exact False.elim hq

theorem pe_call (F : FnOk X.prog X.w X.K X.mg X.base CX k f fd ps sp) (hr : Room k X.A) (hg : Gl X x) (hm : X.mg x = some (.ref f)) (hk : PySem.W.keepIn X.K (.ref f) = true) (hb : Binds X.K fd ps ds) (hd : Vals dvs ds) (hx : Passes CX X E)
    (ha : PA X (e :: es) t) (hdb : (x == ("__debug__" : Str)) = false := by decide) (he : starEach (e :: es) X.env = (false, eval e X.env) :: starEach es X.env := by rfl) (hpl : (backTo pos (starEach es X.env)).any (·.1) = false := by rfl) :
    PE X (.Call (.Name x p) (e :: es) [] pos) (tCall sp dvs E t) := by
  intro pins s σ H Q I h
  refine wpAny_Call_Name_kw (ld_glob I hg hm ?_ hdb)
  refine PySem.W.callWith_K (h₀ := X.base) I.ok.mod.kin hk (thn (ha pos pins s σ H _ I h) fun us s1 ⟨vs, H1, I1, r, q⟩ => ⟨I1.kIn, ?_⟩) he hpl
  exact run_fn F hr hb hd hx I1 r q
theorem pe_call0 (F : FnOk X.prog X.w X.K X.mg X.base CX k f fd ps sp) (hr : Room k X.A) (hg : Gl X x) (hm : X.mg x = some (.ref f)) (hk : PySem.W.keepIn X.K (.ref f) = true) (hb : Binds X.K fd ps ds) (hd : Vals dvs ds) (hx : Passes CX X E)
    (hdb : (x == ("__debug__" : Str)) = false := by decide) : PE X (.Call (.Name x p) [] [] pos) (tCall sp dvs E tNil) := by
  intro pins s σ H Q I h
  refine wpAny_Call_Name_kw (ld_glob I hg hm ?_ hdb)
  exact PySem.W.callWith_K0 I.kIn hk (run_fn (us := []) F hr hb hd hx I .nil h)

/-- o.m(e, ..) -/
theorem pe_meth {pl : Sem Bool} (he : PE X o ta) (c : Cls X.K C) (hm : Meth X.K C m f) (F : FnOk X.prog X.w X.K X.mg X.base CX k f fd ps sp) (hr : Room k X.A) (hb : Binds X.K fd ps ds) (hd : Vals dvs ds) (hx : Passes CX X E) (ha : PA X (e :: es) t)
    (hst : starEach (e :: es) X.env = (false, eval e X.env) :: starEach es X.env := by rfl) (hpl : (backTo pos (starEach es X.env)).any (·.1) = false := by rfl)
    (ht : eval (.Call (.Attribute o m apos) (e :: es) [] pos) X.env = (do
      let ov ← eval o X.env
      standAt apos.atName
      let (f, first) ← holding [ov] (getMethod ov m pl)
      callWith pos f first (backTo pos (starEach (e :: es) X.env)) (backToKw pos (keywordEach [] X.env))) := by rfl) :
    PE X (.Call (.Attribute o m apos) (e :: es) [] pos) (tMeth C m sp dvs E ta t) := by
  intro pins s σ H Q I h
  refine PySem.W.methodCall_KW (pl := pl) (thn (he pins s σ H _ I h) fun u s1 ⟨x, H1, I1, rx, a, dx, fs, ex, ea, l, q⟩ => ?_) ht
  subst ex
  obtain rfl : u = Value.ref a := rx
  refine getmeth_ok I1 ea c hm l ?_
  refine PySem.W.callWith_K (first := [.ref a]) (h₀ := X.base) I.ok.mod.kin hm.kp (thn (ha pos pins s1 σ H1 _ I1 q) fun us s2 ⟨vs, H2, I2, r, q2⟩ => ⟨I2.kIn, ?_⟩) hst hpl
  exact run_fn (us := .ref a :: us) (vs := .ref a :: vs) F hr hb hd hx I2 (.cons rfl r) q2
/-- o.m() -/
theorem pe_meth0 {pl : Sem Bool} (he : PE X o ta) (c : Cls X.K C) (hm : Meth X.K C m f) (F : FnOk X.prog X.w X.K X.mg X.base CX k f fd ps sp) (hr : Room k X.A) (hb : Binds X.K fd ps ds) (hd : Vals dvs ds) (hx : Passes CX X E)
    (ht : eval (.Call (.Attribute o m apos) [] [] pos) X.env = (do
      let ov ← eval o X.env
      standAt apos.atName
      let (f, first) ← holding [ov] (getMethod ov m pl)
      callWith pos f first (backTo pos (starEach [] X.env)) (backToKw pos (keywordEach [] X.env))) := by rfl) :
    PE X (.Call (.Attribute o m apos) [] [] pos) (tMeth C m sp dvs E ta tNil) := by
  intro pins s σ H Q I h
  refine PySem.W.methodCall_KW (pl := pl) (thn (he pins s σ H _ I h) fun u s1 ⟨x, H1, I1, rx, a, dx, fs, ex, ea, l, q⟩ => ?_) ht
  subst ex
  obtain rfl : u = Value.ref a := rx
  refine getmeth_ok I1 ea c hm l ?_
  exact PySem.W.callWith_K0 (first := [.ref a]) I1.kIn hm.kp (run_fn (us := [.ref a]) (vs := [.ref a]) F hr hb hd hx I1 (.cons rfl .nil) q)

/-- what a class must have to be made -/
structure Mk (K : PySem.W.Frag) (C f : Addr) : Prop where
  makes : PySem.W.makesIn K C = true
  init : PySem.W.findIn K (.ref C) "__init__" = some (some (.ref f))
  fn : PySem.W.isFn K (.ref f) = true
  kp : PySem.W.keepIn K (.ref C) = true

theorem run_make {pins : List (Addr × Obj)} {σ : St} {H : Hp} {s : Shared} {Q : VK} {us : List Value} {vs : List V} (M : Mk X.K C f) (F : FnOk X.prog X.w X.K X.mg X.base CX k f fd ps sp) (hr : Room (k + 1) X.A) (hb : Binds X.K fd ps ds) (hd : Vals dvs ds)
    (hx : Passes CX X E) (I : Inv X pins σ H s) (r : Vals vs us)
    (h : ∀ x dx, H x = none → H dx = none → dx ≠ x → sp (.ref x :: (vs ++ dvs)) (upd (upd H dx (.own x)) x (.ins C dx [])) (fun v H2 => v = .non ∧ Q (.ref x) H2) E) :
    wpAny (model X.prog X.w) X.A (call (.ref C) us) (EP X pins σ Q) X.xe s := by
  have hq := h (s.heap.objs.size + 1) s.heap.objs.size (I.hok.fresh (Nat.le_succ _)) (I.hok.fresh (Nat.le_refl _)) (Nat.ne_of_lt (Nat.lt_succ_self _))
  have I2 := Inv.made (C := C) I
  have r2 : Vals (V.ref (s.heap.objs.size + 1) :: (vs ++ dvs)) (Value.ref (s.heap.objs.size + 1) :: (us ++ ds)) := .cons rfl (r.append hd)
  have hl : (Value.ref (s.heap.objs.size + 1) :: us ++ ds).length = ps.length := by
    have e := r2.length
    rw [F.len _ _ _ _ hq] at e
    exact e.symm
  refine wpAny_call (make_map (f := f) I.kIn M.makes M.init (beq_iff_eq.mp M.fn) (codeAny_mono (F.run _ X.stack _ _ ⟨Value.ref (s.heap.objs.size + 1) :: us, []⟩ (Value.ref (s.heap.objs.size + 1) :: (us ++ ds)) _ _ E (hr.make C us [])
    (I2.env0.make C us []) (hb _ (Value.ref (s.heap.objs.size + 1) :: us) I2.kIn hl) r2 hq) fun r s' hq' => ?_))
  cases r with
  | error e => exact hx pins σ _ _ e s' I2 hq'
  | ok fl =>
    cases fl with
    | ret u =>
      obtain ⟨v, H', I3, rv, ev, q3⟩ := I2.after hq'
      subst ev
      exact ⟨rv, ⟨V.ref (s.heap.objs.size + 1), H', I3, rfl, q3⟩⟩
    | next => exact False.elim hq'
    | brk => exact False.elim hq'
    | cont => exact False.elim hq'
theorem pe_make (M : Mk X.K C f) (F : FnOk X.prog X.w X.K X.mg X.base CX k f fd ps sp) (hr : Room (k + 1) X.A) (hg : Gl X x) (hm : X.mg x = some (.ref C)) (hb : Binds X.K fd ps ds) (hd : Vals dvs ds) (hx : Passes CX X E)
    (ha : PA X (e :: es) t) (hdb : (x == ("__debug__" : Str)) = false := by decide) (he : starEach (e :: es) X.env = (false, eval e X.env) :: starEach es X.env := by rfl) (hpl : (backTo pos (starEach es X.env)).any (·.1) = false := by rfl) :
    PE X (.Call (.Name x p) (e :: es) [] pos) (tMake C sp dvs E t) := by
  intro pins s σ H Q I h
  refine wpAny_Call_Name_kw (ld_glob I hg hm ?_ hdb)
  refine PySem.W.callWith_K (h₀ := X.base) I.ok.mod.kin M.kp (thn (ha pos pins s σ H _ I h) fun us s1 ⟨vs, H1, I1, r, q⟩ => ⟨I1.kIn, ?_⟩) he hpl
  exact run_make M F hr hb hd hx I1 r q
theorem pe_make0 (M : Mk X.K C f) (F : FnOk X.prog X.w X.K X.mg X.base CX k f fd ps sp) (hr : Room (k + 1) X.A) (hg : Gl X x) (hm : X.mg x = some (.ref C)) (hb : Binds X.K fd ps ds) (hd : Vals dvs ds) (hx : Passes CX X E)
    (hdb : (x == ("__debug__" : Str)) = false := by decide) : PE X (.Call (.Name x p) [] [] pos) (tMake C sp dvs E tNil) := by
  intro pins s σ H Q I h
  refine wpAny_Call_Name_kw (ld_glob I hg hm ?_ hdb)
  exact PySem.W.callWith_K0 I.kIn M.kp (run_make (us := []) M F hr hb hd hx I .nil h)
end

/-! ### keywords -/
/-- the values of the keywords, from the left -/
def PK (X : Cx) (kws : List Keyword) (t : TA) : Prop :=
  ∀ (pos : Pos) (pins : List (Addr × Obj)) (s : Shared) (σ : St) (H : Hp) (Q : List V → Hp → Prop), Inv X pins σ H s → t σ H Q → wpAny (model X.prog X.w) X.A (evalAll ((backToKw pos (keywordEach kws X.env)).map (·.2))) (AP X pins σ Q) X.xe s
section
variable {X : Cx} {CX : CXT} {k : Nat} {f C : Addr} {fd : FuncData} {ps ks : List Str} {sp : Sp} {E : XK} {x m : Str} {p pos apos kpos : Pos} {e o : Expr} {es : List Expr} {kws : List Keyword} {te ta : TE} {t tk : TA} {nm : Option Str}
theorem pk_nil : PK X [] tNil := fun _ _ _ _ H Q I h => wpAny_evalAll_nil ⟨[], H, I, .nil, h⟩
theorem pk_cons (ha : PE X e te) (hr : PK X kws t) : PK X (⟨nm, e, kpos⟩ :: kws) (tCons te t) := by
  intro pos pins s σ H Q I h
  show wpAny _ _ (evalAll ((do let v ← eval e X.env; standAt pos; pure v) :: (backToKw pos (keywordEach kws X.env)).map (·.2))) _ _ s
  refine wpAny_evalAll_cons (wpAny_bind (thn (ha pins s σ H _ I h) fun u s1 ⟨x, H1, I1, r1, q1⟩ => wpAny_bind (wpAny_standAt (wpAny_pure ?_))))
  exact thn (hr pos pins s1 σ H1 _ I1 q1) fun us s2 ⟨xs, H2, I2, r2, q2⟩ => ⟨x :: xs, H2, I2, .cons r1 r2, q2⟩

/-- how a call with keywords binds: g puts the positional values us and the keywords' values ws (names ks) in the parameters' order, defaults among them -/
structure KBinds (K : PySem.W.Frag) (fd : FuncData) (ps ks : List Str) (g : List Value → List Value → List Value) (gV : List V → List V → List V) : Prop where
  to : ∀ (s : Shared) (us ws : List Value), K.In s.heap → (g us ws).length = ps.length → BindsTo s fd ⟨us, ks.zip ws⟩ (ps.zip (g us ws))
  rel : ∀ {vs : List V} {us : List Value} {zs : List V} {ws : List Value}, Vals vs us → Vals zs ws → Vals (gV vs zs) (g us ws)
def tCallK (sp : Sp) (gV : List V → List V → List V) (E : XK) (t tk : TA) : TE := fun σ H Q => t σ H fun vs H1 => tk σ H1 fun zs H2 => sp (gV vs zs) H2 Q E
variable {g : List Value → List Value → List Value} {gV : List V → List V → List V}
theorem run_fnk {pins : List (Addr × Obj)} {σ : St} {H : Hp} {s : Shared} {Q : VK} {us ws : List Value} {vs zs : List V} (F : FnOk X.prog X.w X.K X.mg X.base CX k f fd ps sp) (hr : Room k X.A) (hb : KBinds X.K fd ps ks g gV) (hx : Passes CX X E)
    (I : Inv X pins σ H s) (r : Vals vs us) (rz : Vals zs ws) (h : sp (gV vs zs) H Q E) : wpAny (model X.prog X.w) X.A (call (.ref f) us (ks.zip ws)) (EP X pins σ Q) X.xe s := by
  have r2 := hb.rel r rz
  have hl : (g us ws).length = ps.length := by rw [← r2.length]; exact F.len _ _ _ _ h
  refine wpAny_call (codeAny_mono (F.run X.A X.stack s H ⟨us, ks.zip ws⟩ (g us ws) (gV vs zs) Q E hr I.env0 (hb.to s us ws I.kIn hl) r2 h) fun r s' hq => ?_)
  cases r with
  | error e => exact hx pins σ H s e s' I hq
  | ok fl =>
    cases fl with
    | ret u => exact I.after hq
    | next => exact False.elim hq
    | brk => exact False.elim hq
    | cont => exact False.elim hq
/-- f(e, .., k = v, ..) -/
theorem pe_callK (F : FnOk X.prog X.w X.K X.mg X.base CX k f fd ps sp) (hr : Room k X.A) (hg : Gl X x) (hm : X.mg x = some (.ref f)) (hk : PySem.W.keepIn X.K (.ref f) = true) (hb : KBinds X.K fd ps ks g gV) (hx : Passes CX X E)
    (ha : PA X (e :: es) t) (hkw : PK X kws tk) (hall : (backToKw pos (keywordEach kws X.env)).all (·.1.isSome) = true := by rfl) (hks : (backToKw pos (keywordEach kws X.env)).filterMap (·.1) = ks := by rfl)
    (hdb : (x == ("__debug__" : Str)) = false := by decide) (he : starEach (e :: es) X.env = (false, eval e X.env) :: starEach es X.env := by rfl)
    (hpl : ((backTo pos (starEach (e :: es) X.env)).any (·.1) || (backToKw pos (keywordEach kws X.env)).any (·.1.isNone)) = false := by rfl) :
    PE X (.Call (.Name x p) (e :: es) kws pos) (tCallK sp gV E t tk) := by
  intro pins s σ H Q I h
  refine wpAny_Call_Name_kw (ld_glob I hg hm ?_ hdb)
  refine PySem.W.callWith_KW (h₀ := X.base) I.ok.mod.kin hk hall (thn (ha pos pins s σ H _ I h) fun us s1 ⟨vs, H1, I1, r, q⟩ => ?_) hpl he
  refine thn (hkw pos pins s1 σ H1 _ I1 q) fun ws s2 ⟨zs, H2, I2, rz, q2⟩ => ⟨I2.kIn, ?_⟩
  rw [hks]
  exact run_fnk F hr hb hx I2 r rz q2
end

/-! ### a def's body keeps its promise -/
/-- names: the parameters first -/
structure FnScope (N P : List Str) (sc : Scope) : Prop where
  kind : sc.kind = .function
  co : sc.isCoroutine = false
  gen : sc.isGenerator = false
  nd : N.Nodup
  pre : N.take P.length = P
  par : ∀ x ∈ P, sc.names.lookup x = some .local ∨ sc.names.lookup x = some .cell
  nofree : ∀ y ∈ sc.names, y.2 ≠ .free

theorem bindL_out {kindOf : Str → Option NameKind} {x : Str} : ∀ {binds : List (Str × Value)} {m : Str → Option Value}, (∀ v, (x, v) ∉ binds) → bindL kindOf binds m x = m x
  | [], _, _ => rfl
  | (n, v) :: r, m, h => by
    unfold bindL
    rw [bindL_out fun w hw => h w (List.mem_cons_of_mem _ hw)]
    split
    · have : x ≠ n := by rintro rfl; exact h v List.mem_cons_self
      simp [this]
    · rfl
theorem bindC_out {kindOf : Str → Option NameKind} {x : Str} : ∀ {binds : List (Str × Value)} {m : Str → Option Value}, (∀ v, (x, v) ∉ binds) → bindC kindOf binds m x = m x
  | [], _, _ => rfl
  | (n, v) :: r, m, h => by
    unfold bindC
    rw [bindC_out fun w hw => h w (List.mem_cons_of_mem _ hw)]
    split
    · rfl
    · have : x ≠ n := by rintro rfl; exact h v List.mem_cons_self
      simp [this]
theorem bindL_get {kindOf : Str → Option NameKind} {x : Str} {v : Value} : ∀ {P : List Str} {vs : List Value} {i : Nat} {m : Str → Option Value}, P.Nodup → P[i]? = some x → vs[i]? = some v → kindOf x = some .local →
    bindL kindOf (P.zip vs) m x = some v
  | [], _, _, _, _, h, _, _ => by simp at h
  | _ :: _, [], _, _, _, _, h, _ => by simp at h
  | p :: P, w :: vs, 0, m, nd, h1, h2, hk => by
    simp at h1 h2; subst h1; subst h2
    show bindL kindOf ((p, w) :: P.zip vs) m p = _
    unfold bindL
    rw [bindL_out fun v hv => (List.nodup_cons.mp nd).1 (List.of_mem_zip hv).1, if_pos hk]
    simp
  | p :: P, w :: vs, i + 1, m, nd, h1, h2, hk => by
    show bindL kindOf ((p, w) :: P.zip vs) m x = _
    unfold bindL
    exact bindL_get (i := i) (List.nodup_cons.mp nd).2 (by simpa using h1) (by simpa using h2) hk
theorem bindC_get {kindOf : Str → Option NameKind} {x : Str} {v : Value} : ∀ {P : List Str} {vs : List Value} {i : Nat} {m : Str → Option Value}, P.Nodup → P[i]? = some x → vs[i]? = some v → kindOf x ≠ some .local →
    bindC kindOf (P.zip vs) m x = some v
  | [], _, _, _, _, h, _, _ => by simp at h
  | _ :: _, [], _, _, _, _, h, _ => by simp at h
  | p :: P, w :: vs, 0, m, nd, h1, h2, hk => by
    simp at h1 h2; subst h1; subst h2
    show bindC kindOf ((p, w) :: P.zip vs) m p = _
    unfold bindC
    rw [bindC_out fun v hv => (List.nodup_cons.mp nd).1 (List.of_mem_zip hv).1, if_neg hk]
    simp
  | p :: P, w :: vs, i + 1, m, nd, h1, h2, hk => by
    show bindC kindOf ((p, w) :: P.zip vs) m x = _
    unfold bindC
    exact bindC_get (i := i) (List.nodup_cons.mp nd).2 (by simpa using h1) (by simpa using h2) hk

/-- the names' values at the entry -/
def start (N : List Str) (vs : List V) : St := vs.map some ++ List.replicate (N.length - vs.length) none

/-- the context of a def's body, at its entry; an exception leaves the frame, then lies as CX says -/
def cxOf (CX : CXT) (P : Program) (w : World) (K : PySem.W.Frag) (mg : Str → Option Value) (base : Heap) (N : List Str) (qual : Str) (scope : Scope) (f : Addr) (cd : Value) (A : Around) (outer : List Env) (s : Shared) (H : Hp) (E : XK) : Cx where
  prog := P
  w := w
  K := K
  mg := mg
  base := base
  A := A.deeper (envOfC qual scope s.heap.objs.size f cd)
  N := N
  s₀ := s
  H₀ := H
  env := envOfC qual scope s.heap.objs.size f cd
  outer := outer
  stack := envOfC qual scope s.heap.objs.size f cd :: outer
  ex := []
  calm := true
  fn := fun _ => true
  pn := []
  xe := fun e s' => wpAny (model P w) (A.deeper (envOfC qual scope s.heap.objs.size f cd)) (leaving (envOfC qual scope s.heap.objs.size f cd) e) (fun _ s'' => CX outer H s E e s'') (fun e' s'' => CX outer H s E e' s'') s'

theorem cell_has {sc : Scope} {n : Nat} {x : Str} (h : sc.names.lookup x = some .cell) : ∃ c, (cellsFrom n sc.names []).lookup x = some c := by
  have q := PySem.W.cellsFrom_some sc.names n [] (.inl h)
  exact Option.isSome_iff_exists.mp q

theorem inv_start {CX : CXT} {P : Program} {w : World} {K : PySem.W.Frag} {mg : Str → Option Value} {base : Heap} {N ps : List Str} {qual : Str} {scope : Scope} {f : Addr} {cd : Value} {A : Around} {outer : List Env} {s s1 : Shared} {H : Hp} {E : XK} {us : List Value} {vs : List V}
    (S : FnScope N ps scope) (hd : A.handled = none) (e0 : Env0 P w K mg base A outer s H) (hl : vs.length = ps.length) (r : Vals vs us)
    (x : InCallC s s.heap.objs.size (bindL (envOfC qual scope s.heap.objs.size f cd).kindOf (ps.zip us) fun _ => none) (cellsFrom (s.heap.objs.size + 1) scope.names []) (bindC (envOfC qual scope s.heap.objs.size f cd).kindOf (ps.zip us) fun _ => none) s1) :
    Inv (cxOf CX P w K mg base N qual scope f cd A outer s H E) [] (start N vs) H s1 := by
  have hpl : ps.length ≤ N.length := by have := congrArg List.length S.pre; rw [List.length_take] at this; omega
  obtain ⟨h1, tk, rfl, hk⟩ := x.done
  have noA : ∀ b : Addr, b ∉ (cxOf CX P w K mg base N qual scope f cd A outer s H E).ex := fun b z => absurd (show b ∈ ([] : List Addr) from z) (by simp)
  refine ⟨⟨e0.mod, S.kind, rfl, rfl, Nat.le_refl _, fun y z c h1 h2 => ?_, fun y hy => ?_, fun y c _ h => ?_, fun _ => hd, Around.frames_deeper e0.frames, .inr ⟨rfl, rfl⟩, fun b z => absurd z (noA b), e0.bs, e0.bsz, fun b _ _ => noA b, fun b z => absurd z (noA b), e0.funs, e0.frf⟩,
    rfl, e0.bare, Un.kept hk, ⟨_, x.toInCall.ns, fun i y v h1 h2 h3 => ?_⟩, fun y c h => ⟨_, x.cell y c h⟩, e0.hok.fresh (Nat.le_refl _), fun y c h => ?_, fun p hp => absurd (show p ∈ ([] : List (Addr × Obj)) from hp) (by simp), e0.hok.kept hk, ?_⟩
  · exact name_of_addr x.apart (PySem.mem_of_lookup h1) (PySem.mem_of_lookup h2)
  · have hy : scope.names.lookup y = some .cell ∨ scope.names.lookup y = some .free := hy
    rcases hy with hy | hy
    · exact cell_has hy
    · exact absurd rfl (S.nofree _ (PySem.mem_of_lookup hy))
  · exact Nat.le_of_lt (x.above y c (PySem.mem_of_lookup h))
  · have hi : i < vs.length := by
      unfold start at h2
      by_cases hi : i < vs.length
      · exact hi
      · rw [List.getElem?_append_right (by simpa using hi)] at h2
        rw [List.getElem?_replicate] at h2
        split at h2 <;> cases h2
    have ha : vs[i]? = some v := by
      unfold start at h2
      rw [List.getElem?_append_left (by simpa using hi), List.getElem?_map] at h2
      cases e : vs[i]? with
      | none => rw [e] at h2; cases h2
      | some a => rw [e] at h2; cases h2; rfl
    obtain ⟨u, hu, rv⟩ := r.get ha
    have hp : ps[i]? = some y := by
      rw [← S.pre, List.getElem?_take_of_lt (by omega)]; exact h1
    have ndP : ps.Nodup := by rw [← S.pre]; exact S.nd.sublist (List.take_sublist _ _)
    refine ⟨u, rv, ?_⟩
    rcases S.par y (List.mem_of_getElem? hp) with k | k
    · exact .inl ⟨k, bindL_get ndP hp hu k⟩
    · obtain ⟨c, e⟩ := cell_has (n := s.heap.objs.size + 1) k
      refine .inr ⟨.inl k, c, e, ?_⟩
      have q := x.cell y c e
      rw [bindC_get ndP hp hu (by show scope.names.lookup y ≠ _; rw [k]; decide)] at q
      exact q
  · exact e0.hok.fresh (Nat.le_of_lt (x.above y c (PySem.mem_of_lookup h)))
  · unfold start
    show _ = N.length
    rw [List.length_append, List.length_map, List.length_replicate]
    omega

/-- THE RULE: a def (or a method) of the text, by its body. The body's reading t is chosen for each entry; it is run at the parameters' values -/
theorem fn_of {CX : CXT} {P : Program} {w : World} {K : PySem.W.Frag} {mg : Str → Option Value} {base : Heap} {k : Nat} {f : Addr} {name qual : Str} {params : Arguments} {body : List Stmt} {scope : Scope} {dV kV doc pm cdv ct oc : Value} {an od : Option Addr}
    {osl : Array (Option Value)} {N ps : List Str} {sp : Sp} (lk : K.lookup f = some ⟨oc, od, .func (PySem.W.fnOf name qual params body scope dV kV doc pm an cdv ct), osl⟩) (hcd : PySem.W.codeIn K cdv qual = true) (S : FnScope N ps scope)
    (len : ∀ vs H Q E, sp vs H Q E → vs.length = ps.length)
    (hbody : ∀ (A : Around) (outer : List Env) (s : Shared) (H : Hp) (vs : List V) (Q : VK) (E : XK), Room k (A.deeper (envOfC qual scope s.heap.objs.size f cdv)) → sp vs H Q E →
      ∃ t, PSs (cxOf CX P w K mg base N qual scope f cdv A outer s H E) body t ∧ t { nx := fun _ H' => Q .non H', rt := Q } (start N vs) H) :
    FnOk P w K mg base CX (k + 1) f (PySem.W.fnOf name qual params body scope dV kV doc pm an cdv ct) ps sp := by
  refine ⟨len, fun A outer s H args us vs Q E hr e0 hb r hsp => ?_⟩
  have hl := len _ _ _ _ hsp
  have KX : K.In s.heap := e0.mod.kin.keeps fun b o e => (e0.bs b o e).1
  have lim : s.heap.NoLimit := e0.mod.nolimit.keeps fun b o e => (e0.bs b o e).1
  have hkind : ∀ y ∈ ps.zip us, scope.names.lookup y.1 = some .local ∨ (scope.names.lookup y.1 = some .cell ∧ ((cellsFrom (s.heap.objs.size + 1) scope.names []).lookup y.1).isSome = true) := fun ⟨n, v⟩ hy => by
    rcases S.par n (List.of_mem_zip hy).1 with q | q
    · exact .inl q
    · exact .inr ⟨q, PySem.W.cellsFrom_some _ _ _ (.inl q)⟩
  refine codeAny_call_function hr.depth (KX _ _ lk) rfl S.co S.gen rfl (PySem.W.codeRec_of KX hcd) (hb _ _ _ _ ?_)
  refine wpAny_newFunctionEnv_cells S.kind hkind fun env he s1 x => ?_
  subst he
  refine ⟨lim.keeps x.toInCall.keep, codeAny_func ?_⟩
  obtain ⟨t, ht, hq⟩ := hbody A outer s H vs Q E (hr.deeper _) hsp
  have I : Inv (cxOf CX P w K mg base N qual scope f cdv A outer s H E) [] (start N vs) H s1 := inv_start S hr.hd e0 hl r x
  refine wpAny_mono (ht [] s1 (start N vs) H _ I hq) (fun fl s' hs => ?_) fun e s' hs => hs
  have fin : ∀ {σ' : St} {H' : Hp} {v : V} {u : Value}, Inv (cxOf CX P w K mg base N qual scope f cdv A outer s H E) [] σ' H' s' → RelV v u → Q v H' → CE outer P w H s Q u s' :=
    fun {σ' H' v u} J rv q => ⟨v, H', J.os, J.bare, J.base, J.hok, rv, q⟩
  cases fl with
  | ret u =>
    obtain ⟨v, σ', H', J, rv, q⟩ := hs
    exact fin J rv q
  | next =>
    obtain ⟨σ', H', J, q⟩ := hs
    exact fin (v := V.non) (u := Value.none) J rfl q
  | brk =>
    obtain ⟨_, _, _, q⟩ := hs
    exact False.elim q
  | cont =>
    obtain ⟨_, _, _, q⟩ := hs
    exact False.elim q
end L2

namespace L2
open PySem PySem.Spec PyProof.Rows
section
variable {X : Cx} {x : Str} {p pos : Pos} {e : Expr} {es : List Expr} {t : TA} {id T : String} {r : List V → Hp → VK → Prop}

def tCB (r : List V → Hp → VK → Prop) (t : TA) : TE := fun σ H Q => t σ H fun vs H1 => r vs H1 Q
/-- f(e, ..), f a built-in function -/
theorem pe_callB (hc : CallR X (.builtin id) r) (hg : Gl X x) (hm : X.mg x = none) (hv : bootBuiltins x = some (.builtin id)) (ha : PA X (e :: es) t) (hn : x ≠ "__name__" := by decide) (hdb : (x == ("__debug__" : Str)) = false := by decide)
    (he : starEach (e :: es) X.env = (false, eval e X.env) :: starEach es X.env := by rfl) (hpl : (backTo pos (starEach es X.env)).any (·.1) = false := by rfl) : PE X (.Call (.Name x p) (e :: es) [] pos) (tCB r t) := by
  intro pins s σ H Q I h
  refine wpAny_Call_Name_kw (ld_blt I hg hm hv ?_ hn hdb)
  exact PyProof.Rows.callWith_builtin1 (thn (ha pos pins s σ H _ I h) fun us s1 ⟨vs, H1, I1, r1, q1⟩ => hc pins s1 σ H1 vs us Q I1 r1 q1) he hpl
/-- T(e, ..), T a built-in type -/
theorem pe_callTy (hc : CallR X (.type T) r) (hg : Gl X x) (hm : X.mg x = none) (hv : bootBuiltins x = some (.type T)) (ha : PA X (e :: es) t) (hn : x ≠ "__name__" := by decide) (hdb : (x == ("__debug__" : Str)) = false := by decide)
    (he : starEach (e :: es) X.env = (false, eval e X.env) :: starEach es X.env := by rfl) (hpl : (backTo pos (starEach es X.env)).any (·.1) = false := by rfl) : PE X (.Call (.Name x p) (e :: es) [] pos) (tCB r t) := by
  intro pins s σ H Q I h
  refine wpAny_Call_Name_kw (ld_blt I hg hm hv ?_ hn hdb)
  exact PyProof.Rows.callWith_type1 (thn (ha pos pins s σ H _ I h) fun us s1 ⟨vs, H1, I1, r1, q1⟩ => hc pins s1 σ H1 vs us Q I1 r1 q1) he hpl
/-- T() -/
theorem pe_callTy0 (hc : CallR X (.type T) r) (hg : Gl X x) (hm : X.mg x = none) (hv : bootBuiltins x = some (.type T)) (hn : x ≠ "__name__" := by decide) (hdb : (x == ("__debug__" : Str)) = false := by decide) :
    PE X (.Call (.Name x p) [] [] pos) (tCB r tNil) := by
  intro pins s σ H Q I h
  refine wpAny_Call_Name_kw (ld_blt I hg hm hv ?_ hn hdb)
  exact PyProof.Rows.callWith_type0 (hc pins s σ H [] [] Q I .nil h)
end
end L2

namespace HT
open PySem PyProof.Rows

/-- t < u of tuples of ints -/
def lexLt : List Int → List Int → Bool
  | [], [] => false
  | [], _ :: _ => true
  | _ :: _, [] => false
  | x :: xs, y :: ys => if x = y then lexLt xs ys else decide (x < y)
theorem lexLt_cons (x y : Int) (xs ys : List Int) : lexLt (x :: xs) (y :: ys) = if x = y then lexLt xs ys else decide (x < y) := rfl
theorem lexLt_nil_nil : lexLt [] [] = false := rfl
theorem lexLt_nil_cons (y : Int) (ys : List Int) : lexLt [] (y :: ys) = true := rfl
theorem lexLt_cons_nil (x : Int) (xs : List Int) : lexLt (x :: xs) [] = false := rfl

theorem eqAt_int (A : Around) (s : Shared) (a : Int) (t : Tok) (c : Int) (u : Tok) : ∃ e, SeqAt.EqAt A s (.int a t) (.int c u) e ∧ (e = true ↔ a = c) :=
  ⟨(a == c), SeqAt.EqAt.int_int a t c u, by simp⟩
theorem rcLt_int (A : Around) (s : Shared) (a : Int) (t : Tok) (c : Int) (u : Tok) (prog : Program) (w : World) (E : Value → Shared → Prop) (Q : Value → Shared → Prop) (h : Q (.bool (decide (a < c))) s) :
    wpAny (model prog w) A (richCompare .Lt (.int a t) (.int c u)) Q E s :=
  (PyProof.Rows.lt_int h : wpAny (model prog w) A (compareOp .Lt (.int a t) (.int c u)) Q E s)

section
open PySem.SeqAt
open PySem.AutoSeq1 (wpAny_loadPart')
open PySem.MeetsSeq PySem.MeetsSeq2 PySem.MeetsSeq3

theorem tuple_lt_ints (l b : Addr) (items items2 : Array Value) (n n2 : Nat) (dd dd2 : Option Addr) (sl sl2 : Array (Option Value)) (ns ms : List Int) (hi : IntsAre items.toList ns) (hj : IntsAre items2.toList ms) :
    Meets (Builtin.«tuple.__lt__» ⟨[.ref l, .ref b], []⟩)
      (fun _ R s => s.heap.get? l = some { cls := .type "tuple", dict := dd, data := .seq items n, slots := sl } ∧ s.heap.get? b = some { cls := .type "tuple", dict := dd2, data := .seq items2 n2, slots := sl2 } ∧
        R (.ok (.ret (.bool (lexLt ns ms)))) s) :=
  .of_wp fun prog w A R s h => by
    obtain ⟨hp, g, d, tk, os⟩ := s; obtain ⟨hl, hb, h⟩ := h
    have f2 := AutoSeq1.sub_tuple_tuple
    have z1 : items.size = ns.length := by rw [← hi.length]; simp
    have z2 : items2.size = ms.length := by rw [← hj.length]; simp
    wp_walk using wpAny_loadPart' hl, wpAny_loadPart' hb, wpAny_forIn_list _ (fun rest b s' => b.1 = none ∧ s' = ⟨hp, g, d, tk, os⟩ ∧ ∃ (vs ws : List Value) (ns' ms' : List Int), rest = vs.zip ws ∧
      IntsAre vs ns' ∧ IntsAre ws ms' ∧ ns'.length + items2.size = ms'.length + items.size ∧ R (.ok (.ret (.bool (lexLt ns' ms')))) ⟨hp, g, d, tk, os⟩) _
    case turn =>
      rintro ⟨y, x⟩ rest b s' ⟨hb', rfl, vs, ws, ns', ms', hz, hvi, hwi, hlen, hR⟩
      cases hvi with
      | nil => rw [List.zip_nil_left] at hz; cases hz
      | cons a t hvi' =>
        cases hwi with
        | nil => rw [List.zip_nil_right] at hz; cases hz
        | cons c u hwi' =>
          rw [List.zip_cons_cons] at hz
          injection hz with hyx hrest
          injection hyx with hy hx
          subst hy hx
          rw [lexLt_cons] at hR
          simp only [List.length_cons] at hlen
          obtain ⟨e, he, hiff⟩ := eqAt_int A.in1 ⟨hp, g, d, tk, os⟩ a t c u
          refine wpAny_bind (he prog w _ _ ?_)
          cases e with
          | true =>
            rw [if_pos (hiff.mp rfl)] at hR
            wp_walk
            exact ⟨rfl, rfl, _, _, _, _, hrest, hvi', hwi', by omega, hR⟩
          | false =>
            rw [if_neg (fun q => absurd (hiff.mpr q) Bool.false_ne_true)] at hR
            have hri := rcLt_int A.in1 ⟨hp, g, d, tk, os⟩ a t c u prog w
            wp_walk using hri
            exact ⟨_, rfl, by simpa using hR⟩
    case fin =>
      rintro ⟨b1, b2⟩ s' ⟨hb', rfl, vs, ws, ns', ms', hz, hvi, hwi, hlen, hR⟩
      simp only at hb'
      subst hb'
      have hv : lexLt ns' ms' = decide (items.size < items2.size) := by
        cases hvi with
        | nil =>
          cases hwi with
          | nil =>
            simp only [List.length_nil] at hlen
            rw [lexLt_nil_nil]
            exact (decide_eq_false (by omega)).symm
          | cons c u hw =>
            simp only [List.length_nil, List.length_cons] at hlen
            rw [lexLt_nil_cons]
            exact (decide_eq_true (by omega)).symm
        | cons a t hv =>
          cases hwi with
          | nil =>
            simp only [List.length_nil, List.length_cons] at hlen
            rw [lexLt_cons_nil]
            exact (decide_eq_false (by omega)).symm
          | cons c u hw =>
            rw [List.zip_cons_cons] at hz
            cases hz
      rw [hv] at hR
      wp_walk
      exact ⟨_, rfl, by simpa [Builtin.Tuple.tupleCompareSizes] using hR⟩
    case h =>
      exact ⟨rfl, rfl, items.toList, items2.toList, ns, ms, rfl, hi, hj, by omega, h⟩
end

section
variable {prog : Program} {w : World} {A : Around} {E : Value → Shared → Prop} {s : Shared}

theorem lt_tupInts {l b : Addr} {items items2 : Array Value} {ns ms : List Int} {Q : Value → Shared → Prop} (hl : IsTup s.heap l items) (hb : IsTup s.heap b items2) (hi : IntsAre items.toList ns) (hj : IntsAre items2.toList ms)
    (hu : A.units < cLine) (h : Q (.bool (lexLt ns ms)) s) : wpAny (model prog w) A (compareOp .Lt (.ref l) (.ref b)) Q E s := by
  obtain ⟨⟨cls, dd, data, sl⟩, ho, hc, n, hd⟩ := id hl
  obtain ⟨⟨cls2, dd2, data2, sl2⟩, ho2, hc2, n2, hd2⟩ := id hb
  simp only at hc hd hc2 hd2
  subst hc hd hc2 hd2
  exact richCompare_meets_room (op := .Lt) ⟨_, ho, rfl⟩ ⟨_, ho2, rfl⟩ PySem.F.slot_tuple_lt PySem.F.entry_tuple_lt (PySem.F.args_tuple_lt_2 _ _) (tuple_lt_ints l b items items2 n n2 dd dd2 sl sl2 ns ms hi hj)
    ⟨ho, ho2, show Value.bool (lexLt ns ms) ≠ Value.notImplemented ∧ Q (.bool (lexLt ns ms)) s from ⟨(fun x => nomatch x), h⟩⟩ hu

/-- t + u, t not empty -/
theorem cat_tup {t b : Addr} {vs ws : List Value} {Q : Value → Shared → Prop} (ht : IsTup s.heap t vs.toArray) (hb : IsTup s.heap b ws.toArray) (hv : vs ≠ [])
    (h1 : ws = [] → Q (.ref t) s) (h2 : ws ≠ [] → Q (.ref s.heap.objs.size) { s with heap := s.heap.push { cls := .type "tuple", data := .seq (vs ++ ws).toArray } })
    (hsz : vs.length + ws.length ≤ sizeLine) : wpAny (model prog w) A (binaryOp .Add (.ref t) (.ref b)) Q E s := by
  obtain ⟨⟨cls, dd, data, sl⟩, ho, hc, n, hd⟩ := id ht
  obtain ⟨⟨cls2, dd2, data2, sl2⟩, ho2, hc2, n2, hd2⟩ := id hb
  simp only at hc hd hc2 hd2
  subst hc hd hc2 hd2
  have e : vs.toArray ++ ws.toArray = (vs ++ ws).toArray := by simp
  by_cases hw : ws = []
  · exact concat_meets ⟨_, ho, rfl⟩ ⟨_, ho2, rfl⟩ noFill_tuple_add seq_tuple_add PySem.F.slot_tuple_add PySem.F.entry_tuple_add (PySem.F.args_tuple_add_2 _ _)
      (tuple_addW1 t b vs.toArray ws.toArray n n2 dd dd2 sl sl2 (by simpa using hv) (by simp [hw])) ⟨ho, ho2, h1 hw⟩
  · refine concat_meets ⟨_, ho, rfl⟩ ⟨_, ho2, rfl⟩ noFill_tuple_add seq_tuple_add PySem.F.slot_tuple_add PySem.F.entry_tuple_add (PySem.F.args_tuple_add_2 _ _)
      (tuple_addW2 t b vs.toArray ws.toArray n n2 dd dd2 sl sl2 (by simpa using hv) (by simpa using hw) (by rw [List.size_toArray, List.size_toArray]; exact hsz)) ⟨ho, ho2, ?_⟩
    rw [e]
    exact h2 hw

/-! ### t[a:b], not the whole -/
/-- a slice's bound as a place among n (d where it is left out) -/
def sIx (n d : Nat) : Option Int → Nat
  | none => d
  | some v => if v < 0 then (v + (n : Int)).toNat else min v.toNat n
theorem sIx_none (n d : Nat) : sIx n d none = d := rfl
theorem sIx_nat (n d k : Nat) : sIx n d (some (k : Int)) = min k n := by
  show (if (k : Int) < 0 then ((k : Int) + (n : Int)).toNat else min (k : Int).toNat n) = min k n
  rw [if_neg (by omega), Int.toNat_natCast]
theorem sIx_le (n d : Nat) (hd : d ≤ n) (o : Option Int) : sIx n d o ≤ n := by
  cases o with
  | none => exact hd
  | some v =>
    show (if v < 0 then (v + (n : Int)).toNat else min v.toNat n) ≤ n
    by_cases hv : v < 0
    · rw [if_pos hv]; omega
    · rw [if_neg hv]; exact Nat.min_le_right _ _
theorem clip_eq (v : Int) (n d : Nat) : (if v < 0 then max (v + (n : Int)) 0 else min v (n : Int)) = ((sIx n d (some v) : Nat) : Int) := by
  show (if v < 0 then max (v + (n : Int)) 0 else min v (n : Int)) = (((if v < 0 then (v + (n : Int)).toNat else min v.toNat n) : Nat) : Int)
  by_cases hv : v < 0
  · simp only [if_pos hv]; omega
  · simp only [if_neg hv]; omega
theorem adjust_gen (lo hi : Option Int) (n : Nat) : Builtin.Slice.sliceAdjust lo hi 1 (n : Int) = (((sIx n 0 lo : Nat) : Int), ((sIx n n hi : Nat) : Int)) := by
  have h1 : ¬ ((1 : Int) < 0) := by omega
  unfold Builtin.Slice.sliceAdjust
  simp only [h1, if_false]
  refine Prod.ext ?_ ?_
  · cases lo with
    | none => rfl
    | some v => exact clip_eq v n 0
  · cases hi with
    | none => rfl
    | some v => exact clip_eq v n n
theorem places_gen (i j : Nat) : Builtin.Slice.slicePlaces (i : Int) (j : Int) 1 = j - i := by
  unfold Builtin.Slice.slicePlaces
  have h1 : (1 : Int) > 0 := by omega
  simp only [h1, if_true, Int.ediv_one]
  split <;> omega
theorem slicePart_ {v : Value} {o : Option Int} {Q : Option Int → Shared → Prop} (p : IsPart v o) (h : Q o s) : wpAny (model prog w) A (Builtin.Slice.slicePartIndex v) Q E s := by
  cases p with
  | none => exact slicePart_none h
  | int i t => exact slicePart_int h
theorem sliceApplied_gen {sl : Addr} {vl vu : Value} {lo hi : Option Int} {n : Nat} {Q : Int × Int × Nat → Shared → Prop} (hs : s.heap.IsSliceOf sl vl vu .none) (pl : IsPart vl lo) (pu : IsPart vu hi)
    (h : Q (((sIx n 0 lo : Nat) : Int), 1, sIx n n hi - sIx n 0 lo) s) : wpAny (model prog w) A (Builtin.Slice.sliceApplied (.ref sl) (pure (n : Int))) Q E s := by
  obtain ⟨os, hos, hcs, hds⟩ := id hs
  unfold Builtin.Slice.sliceApplied Builtin.Slice.sliceFields
  refine wpAny_bind (wpAny_bind (wpAny_field hos hds (x := vl) rfl (wpAny_bind (wpAny_field hos hds (x := vu) rfl (wpAny_bind (wpAny_field hos hds (x := .none) rfl (wpAny_pure ?_)))))))
  refine wpAny_bind (slicePart_none ?_)
  show wpAny _ _ (if ((1 : Int) == 0) = true then _ else _) _ _ s
  rw [if_neg (by decide)]
  refine wpAny_bind (slicePart_ pl (wpAny_bind (slicePart_ pu (wpAny_bind (wpAny_pure ?_)))))
  show wpAny _ _ (match Builtin.Slice.sliceAdjust lo hi 1 (n : Int) with | (lo, hi) => pure (lo, (1 : Int), Builtin.Slice.slicePlaces lo hi 1)) _ _ s
  rw [adjust_gen lo hi n]
  show wpAny _ _ (pure (((sIx n 0 lo : Nat) : Int), (1 : Int), Builtin.Slice.slicePlaces ((sIx n 0 lo : Nat) : Int) ((sIx n n hi : Nat) : Int) 1)) _ _ s
  rw [places_gen]
  exact wpAny_pure h
theorem pick_gen (xs : Array Value) (i k : Nat) : ((List.range k).filterMap fun (m : Nat) => xs[((i : Int) + (m : Int) * 1).toNat]?).toArray = ((xs.toList.drop i).take k).toArray := by
  have e : (fun (m : Nat) => xs[((i : Int) + (m : Int) * 1).toNat]?) = fun m => xs[i + m]? := by
    funext m
    have : ((i : Int) + (m : Int) * 1).toNat = i + m := by omega
    rw [this]
  rw [e]
  have := pick_run xs i k
  rw [List.filterMap_map] at this
  have e2 : ((fun x => xs[x]?) ∘ fun x => i + x) = fun m => xs[i + m]? := rfl
  rw [e2] at this
  rw [this]

theorem getItem_tuple_cut {t sl : Addr} {items : Array Value} {vl vu : Value} {lo hi : Option Int} {Q : Value → Shared → Prop} (ht : IsTup s.heap t items) (hs : s.heap.IsSliceOf sl vl vu .none) (pl : IsPart vl lo) (pu : IsPart vu hi)
    (hw : ¬ (sIx items.size 0 lo = 0 ∧ sIx items.size items.size hi = items.size))
    (h : Q (.ref s.heap.objs.size) { s with heap := s.heap.push { cls := .type "tuple", data := .seq ((items.toList.drop (sIx items.size 0 lo)).take (sIx items.size items.size hi - sIx items.size 0 lo)).toArray } })
    (hsz : items.size ≤ sizeLine) : wpAny (model prog w) A (getItem (.ref t) (.ref sl)) Q E s := by
  have htake : sizeOk (.seq ((items.toList.drop (sIx items.size 0 lo)).take (sIx items.size items.size hi - sIx items.size 0 lo)).toArray) := by
    show ((items.toList.drop (sIx items.size 0 lo)).take (sIx items.size items.size hi - sIx items.size 0 lo)).toArray.size ≤ sizeLine
    rw [List.size_toArray, List.length_take, List.length_drop, Array.length_toList]
    omega
  have hj : sIx items.size items.size hi ≤ items.size := sIx_le _ _ (Nat.le_refl _) hi
  obtain ⟨os, hos, hcs, hds⟩ := id hs
  have hTs : s.TypeIs (.ref sl) "slice" := ⟨os, hos, hcs⟩
  unfold getItem
  try with_reducible refine wpAny_holding ?_
  first | refine wpAny_bind (wpAny_pure ?_) | skip
  refine wpAny_bind (wpAny_sequenceKey ht.typeIs (by decide) ?_)
  refine wpAny_bind (wpAny_callSpecial?_slot (name := Str.ofString "__getitem__") ht.typeIs PyProof.Rows.slot_tuple_getitem
    (wpAny_call_entry PyProof.Rows.slot_tuple_getitem ht.typeIs entry_tuple_getitem ?_ (args_tuple_getitem _ _)))
  show wpAny _ _ (Builtin.Tuple.tupleItemsOf (.ref t) >>= _) _ _ s
  refine wpAny_bind (tupleItemsOf_ ht ?_)
  refine wpAny_bind (wpAny_typeOf hTs ?_)
  rw [if_pos (by decide)]
  refine wpAny_bind (sliceApplied_gen hs pl pu ?_)
  have hno : ¬ ((((sIx items.size 0 lo : Nat) : Int) == 0 && (1 : Int) == 1 && (sIx items.size items.size hi - sIx items.size 0 lo) == items.size) = true) := by
    intro q
    rw [Bool.and_eq_true, Bool.and_eq_true] at q
    have q1 : ((sIx items.size 0 lo : Nat) : Int) = 0 := eq_of_beq q.1.1
    have q2 : sIx items.size items.size hi - sIx items.size 0 lo = items.size := eq_of_beq q.2
    exact hw ⟨by omega, by omega⟩
  show wpAny _ _ (if (((sIx items.size 0 lo : Nat) : Int) == 0 && (1 : Int) == 1 && (sIx items.size items.size hi - sIx items.size 0 lo) == items.size) = true then _ else _) _ _ s
  rw [if_neg hno, pick_gen]
  first
    | exact wpAny_bind (m := Builtin.Tuple.tupleExact _) (wpAny_newObj_type (wpAny_pure ⟨_, rfl, wpAny_pure h⟩) htake)
    | exact wpAny_bind (m := Builtin.Tuple.tupleExact _) (wpAny_newObj_type (wpAny_bind (wpAny_pure (wpAny_pure ⟨_, rfl, wpAny_pure h⟩))) htake)
    | exact wpAny_bind (wpAny_bind (m := Builtin.Tuple.tupleExact _) (wpAny_newObj_type (wpAny_pure (wpAny_pure ⟨_, rfl, wpAny_pure h⟩)) htake))
    | exact wpAny_bind (wpAny_bind (m := Builtin.Tuple.tupleExact _) (wpAny_newObj_type (wpAny_pure ⟨_, rfl, wpAny_pure h⟩) htake))
end
end HT

namespace L2
open PySem PySem.Spec PyProof.Rows

/-! ### the parts of a slice -/
abbrev TO := St → Hp → (Option Int → Hp → Prop) → Prop
/-- a slice's part (left out, or an int) -/
def PO (X : Cx) (e : Option Expr) (t : TO) : Prop :=
  ∀ (pins : List (Addr × Obj)) (s : Shared) (σ : St) (H : Hp) (Q : Option Int → Hp → Prop), Inv X pins σ H s → t σ H Q →
    wpAny (model X.prog X.w) X.A (evalPart e X.env) (fun u s' => ∃ o H', Inv X pins σ H' s' ∧ IsPart u o ∧ Q o H') X.xe s
def tNoPart : TO := fun _ H Q => Q none H
def tPart (t : TE) : TO := fun σ H Q => t σ H fun x H1 => ∃ i, x = .int i ∧ Q (some i) H1

theorem intsAre_of {ns : List Int} : ∀ {us : List Value}, Vals (ns.map V.int) us → IntsAre us ns := by
  induction ns with
  | nil => intro us r; rw [List.map_nil] at r; cases r; exact .nil
  | cons n ns ih =>
    intro us r
    rw [List.map_cons] at r
    cases r with
    | cons r1 r2 =>
      obtain ⟨t, e⟩ := r1
      subst e
      exact .cons n t (ih r2)

section
variable {X : Cx} {e : Expr} {te : TE} {lo hi : Option Expr} {tl th : TO} {pos p2 : Pos}

theorem po_none : PO X none tNoPart := by
  intro pins s σ H Q I h
  rw [evalPart_none]
  exact wpAny_pure ⟨none, H, I, .none, h⟩
theorem po_some (h : PE X e te) : PO X (some e) (tPart te) := by
  intro pins s σ H Q I hw
  rw [evalPart_some]
  refine thn (h pins s σ H _ I hw) fun u s1 ⟨x, H1, I1, r1, q1⟩ => ?_
  obtain ⟨i, rfl, q⟩ := q1
  obtain ⟨t, rfl⟩ := r1
  exact ⟨some i, H1, I1, .int i t, q⟩

/-- what a slice of a value is, by values: the slice object stands at sl -/
def SlR (X : Cx) (r : V → Option Int → Option Int → Hp → VK → Prop) : Prop :=
  ∀ (pins : List (Addr × Obj)) (s : Shared) (σ : St) (H : Hp) (x : V) (v vl vu : Value) (lo hi : Option Int) (sl : Addr) (Q : VK), Inv X pins σ H s → RelV x v → s.heap.IsSliceOf sl vl vu .none → IsPart vl lo → IsPart vu hi → r x lo hi H Q →
    ∃ T id, typeLookup (.type T) "__getitem__" = pure (some (.builtin id)) ∧ s.TypeIs v T ∧ wpAny (model X.prog X.w) X.A (getItem v (.ref sl)) (EP X pins σ Q) X.xe s
theorem SlR.or {r r' : V → Option Int → Option Int → Hp → VK → Prop} (h : SlR X r) (h' : SlR X r') : SlR X (fun x lo hi H Q => r x lo hi H Q ∨ r' x lo hi H Q) := by
  intro pins s σ H x v vl vu lo hi sl Q I rx hs pl pu q
  rcases q with q | q
  · exact h pins s σ H x v vl vu lo hi sl Q I rx hs pl pu q
  · exact h' pins s σ H x v vl vu lo hi sl Q I rx hs pl pu q
def tSl (r : V → Option Int → Option Int → Hp → VK → Prop) (te : TE) (tl th : TO) : TE := fun σ H Q => te σ H fun x H1 => tl σ H1 fun l H2 => th σ H2 fun u H3 => r x l u H3 Q
/-- a[lo:hi], any a -/
theorem pe_slice {r : V → Option Int → Option Int → Hp → VK → Prop} (hr : SlR X r) (he : PE X e te) (hl : PO X lo tl) (hu : PO X hi th) : PE X (.Subscript e (.Slice lo hi none p2) pos) (tSl r te tl th) := by
  intro pins s σ H Q I h
  refine Subscript_ (thn (he pins s σ H _ I h) fun v s1 ⟨x, H1, I1, r1, q1⟩ => ?_)
  refine wpAny_Slice (thn (hl pins s1 σ H1 _ I1 q1) fun vl s2 ⟨l, H2, I2, pl, q2⟩ => thn (hu pins s2 σ H2 _ I2 q2) fun vu s3 ⟨u, H3, I3, pu, q3⟩ => ?_)
  rw [evalPart_none]
  refine wpAny_pure ?_
  have I4 : Inv X pins σ H3 { s3 with heap := s3.heap.push { cls := .type "slice", data := .fields #[vl, vu, .none] } } := I3.kept (t' := s3.toks) fun b ob q => Heap.get?_push_of_some _ q
  obtain ⟨T, id, hT, ht, hg⟩ := hr pins { s3 with heap := s3.heap.push { cls := .type "slice", data := .fields #[vl, vu, .none] } } σ H3 x v vl vu l u s3.heap.objs.size Q I4 r1 (Heap.IsSliceOf.new ..) pl pu q3
  show wpAny (model X.prog X.w) X.A (subscriptTail e (.Slice lo hi none p2) v (.ref s3.heap.objs.size)) (EP X pins σ Q) X.xe { s3 with heap := s3.heap.push { cls := .type "slice", data := .fields #[vl, vu, .none] } }
  exact tail_any (ops := [.ref s3.heap.objs.size, v]) ht hT hg (by with_unfolding_all rfl)

/-- the items of xs[lo:hi] -/
def cutV (xs : List V) (lo hi : Option Int) : List V := (xs.drop (HT.sIx xs.length 0 lo)).take (HT.sIx xs.length xs.length hi - HT.sIx xs.length 0 lo)
theorem cutV_length (xs : List V) (lo hi : Option Int) : (cutV xs lo hi).length ≤ xs.length := by
  unfold cutV
  rw [List.length_take, List.length_drop]
  omega
/-- t[lo:hi], not the whole of it (the whole would be t itself) -/
def rSlT (K : PySem.W.Frag) : V → Option Int → Option Int → Hp → VK → Prop := fun x lo hi H Q => ∃ a xs, x = .ref a ∧ SqT K H a xs ∧
  ¬ (HT.sIx xs.length 0 lo = 0 ∧ HT.sIx xs.length xs.length hi = xs.length) ∧ ∀ p, H p = none → Q (.ref p) (upd H p (.tup (cutV xs lo hi)))
theorem sl_tup : SlR X (rSlT X.K) := by
  intro pins s σ H x v vl vu lo hi sl Q I rx hs pl pu h
  obtain ⟨a, xs, rfl, hx, hw, q⟩ := h
  cases rx
  obtain ⟨its, r, ht, hz⟩ := I.tuple hx
  have hlen : its.toArray.size = xs.length := by rw [List.size_toArray]; exact r.length.symm
  refine ⟨"tuple", _, PyProof.Rows.slot_tuple_getitem.lookup, ht.typeIs, ?_⟩
  refine HT.getItem_tuple_cut ht hs pl pu (by rw [hlen]; exact hw) ?_ (by rw [hlen]; exact hz)
  rw [hlen]
  refine ⟨.ref s.heap.objs.size, _, I.laid (t' := s.toks) (o := .tup (cutV xs lo hi)) (fun b ob q => Heap.get?_push_of_some _ q) (Nat.le_refl _) ?_, rfl, q _ (I.hok.fresh (Nat.le_refl _))⟩
  exact ⟨Nat.le_trans (cutV_length xs lo hi) hz, _, (r.drop (HT.sIx xs.length 0 lo)).take (HT.sIx xs.length xs.length hi - HT.sIx xs.length 0 lo), IsTup.new _ _⟩

/-! ### t < u, t + u -/
def rLtT (K : PySem.W.Frag) : R2 := fun x y H Q => ∃ a b ns ms, x = .ref a ∧ y = .ref b ∧ SqT K H a (ns.map V.int) ∧ SqT K H b (ms.map V.int) ∧ Q (.bl (HT.lexLt ns ms)) H
theorem op_ltT (hu : X.A.units < cLine) : OpR X (compareOp .Lt) (rLtT X.K) := by
  intro pins s σ H x y v u Q I rx ry h
  obtain ⟨a, b, ns, ms, rfl, rfl, ha, hb, q⟩ := h
  cases rx
  cases ry
  obtain ⟨its, r1, p1, _⟩ := I.tuple ha
  obtain ⟨its2, r2, p2, _⟩ := I.tuple hb
  have i1 : IntsAre its.toArray.toList ns := intsAre_of r1
  have i2 : IntsAre its2.toArray.toList ms := intsAre_of r2
  exact HT.lt_tupInts p1 p2 i1 i2 hu ⟨.bl (HT.lexLt ns ms), H, I, rfl, q⟩
/-- t + u, t not empty: u empty gives t itself -/
def rCatT (K : PySem.W.Frag) : R2 := fun x y H Q => ∃ a b xs ys, x = .ref a ∧ y = .ref b ∧ SqT K H a xs ∧ SqT K H b ys ∧ xs ≠ [] ∧ xs.length + ys.length ≤ sizeLine ∧
  (ys = [] → Q (.ref a) H) ∧ (ys ≠ [] → ∀ p, H p = none → Q (.ref p) (upd H p (.tup (xs ++ ys))))
theorem Vals.nil_iff {xs : List V} {us : List Value} (r : Vals xs us) : us = [] ↔ xs = [] := by
  cases r with
  | nil => simp
  | cons _ _ => simp
theorem op_catT : OpR X (binaryOp .Add) (rCatT X.K) := by
  intro pins s σ H x y v u Q I rx ry h
  obtain ⟨a, b, xs, ys, rfl, rfl, ha, hb, hx, hz, q1, q2⟩ := h
  cases rx
  cases ry
  obtain ⟨its, r1, p1, _⟩ := I.tuple ha
  obtain ⟨its2, r2, p2, _⟩ := I.tuple hb
  refine HT.cat_tup p1 p2 (fun z => hx (r1.nil_iff.mp z)) (fun z => ⟨.ref a, H, I, rfl, q1 (r2.nil_iff.mp z)⟩) (fun z => ?_) (by rw [← r1.length, ← r2.length]; exact hz)
  refine ⟨.ref s.heap.objs.size, _, I.laid (t' := s.toks) (o := .tup (xs ++ ys)) (fun b ob q => Heap.get?_push_of_some _ q) (Nat.le_refl _) ?_, rfl, q2 (fun w => z (r2.nil_iff.mpr w)) _ (I.hok.fresh (Nat.le_refl _))⟩
  exact ⟨by rw [List.length_append]; exact hz, _, r1.append r2, IsTup.new _ _⟩
/-- tuple(t) -/
theorem call_tupleT : CallR X (.type "tuple") (fun xs H Q => ∃ a ys, xs = [.ref a] ∧ SqT X.K H a ys ∧ Q (.ref a) H) := by
  intro pins s σ H xs us Q I r h
  obtain ⟨a, ys, rfl, ha, q⟩ := h
  obtain ⟨u, rfl, ru⟩ := vals1 r
  cases ru
  obtain ⟨its, _, p1, _⟩ := I.tuple ha
  exact call_tuple_same (items := its.toArray) p1 ⟨.ref a, H, I, rfl, q⟩
end
end L2

namespace L2
open PySem PySem.Spec PyProof.Rows

/-! ### places -/
/-- the place that an index of any sign means -/
def ixN (n : Nat) (i : Int) : Option Nat := if 0 ≤ i then (if i < n then some i.toNat else none) else if -(n : Int) ≤ i then some (i + n).toNat else none
def atI {α : Type} (xs : List α) (i : Int) : Option α := (ixN xs.length i).bind fun j => xs[j]?
theorem ixN_seq {n : Nat} {i : Int} {j : Nat} (h : ixN n i = some j) : seqIndex? i n = some j ∧ j < n ∧ -(n : Int) ≤ i ∧ i < n := by
  unfold ixN at h
  by_cases h0 : 0 ≤ i
  · rw [if_pos h0] at h
    by_cases h1 : i < n
    · rw [if_pos h1] at h
      have e : i.toNat = j := Option.some.inj h
      exact ⟨by rw [seqIndex_of h0 h1, e], by omega, by omega, h1⟩
    · rw [if_neg h1] at h; cases h
  · rw [if_neg h0] at h
    by_cases h1 : -(n : Int) ≤ i
    · rw [if_pos h1] at h
      have e : (i + n).toNat = j := Option.some.inj h
      exact ⟨by rw [seqIndex_neg (by omega) h1, e], by omega, h1, by omega⟩
    · rw [if_neg h1] at h; cases h
theorem atI_get {α : Type} {xs : List α} {i : Int} {v : α} (h : atI xs i = some v) : ∃ j, seqIndex? i xs.length = some j ∧ xs[j]? = some v ∧ j < xs.length ∧ -(xs.length : Int) ≤ i ∧ i < xs.length := by
  unfold atI at h
  cases e : ixN xs.length i with
  | none => rw [e] at h; cases h
  | some j =>
    rw [e] at h
    obtain ⟨h1, h2, h3, h4⟩ := ixN_seq e
    exact ⟨j, h1, h, h2, h3, h4⟩
theorem atI_nat {α : Type} {xs : List α} {j : Nat} {v : α} (h : xs[j]? = some v) : atI xs (j : Int) = some v := by
  have hj : j < xs.length := (List.getElem?_eq_some_iff.mp h).1
  have e : ixN xs.length (j : Int) = some j := by
    unfold ixN
    rw [if_pos (by omega), if_pos (by omega)]; simp
  unfold atI; rw [e]; exact h
theorem atI_last {α : Type} (xs : List α) (v : α) : atI (xs ++ [v]) (-1) = some v := by
  have hl : (xs ++ [v]).length = xs.length + 1 := by simp
  have e : ixN (xs ++ [v]).length (-1) = some xs.length := by
    unfold ixN
    rw [hl, if_neg (by decide), if_pos (by omega)]
    congr 1
    omega
  unfold atI
  rw [e]
  show (xs ++ [v])[xs.length]? = some v
  simp

/-! ### what may be subscripted -/
/-- what stands as an index of a plain subscript -/
def PlainIx (b : Expr) : Prop := ∀ o i, subscripted b false o i = operate [o, i] (getItem o i)
/-- a subscript by values -/
def IxR (X : Cx) (r : R2) : Prop :=
  ∀ (value slice : Expr) (pins : List (Addr × Obj)) (s : Shared) (σ : St) (H : Hp) (x y : V) (v u : Value) (Q : VK), Inv X pins σ H s → RelV x v → RelV y u → r x y H Q →
    subscripted slice false v u = operate [v, u] (getItem v u) → wpAny (model X.prog X.w) X.A (subscriptTail value slice v u) (EP X pins σ Q) X.xe s
/-- a call of a builtin's method by values: the receiver, the arguments -/
def MtR (X : Cx) (id : String) (r : V → List V → Hp → VK → Prop) : Prop :=
  ∀ (pins : List (Addr × Obj)) (s : Shared) (σ : St) (H : Hp) (x : V) (xs : List V) (v : Value) (us : List Value) (Q : VK), Inv X pins σ H s → RelV x v → Vals xs us → r x xs H Q →
    wpAny (model X.prog X.w) X.A (call (.builtin id) (v :: us)) (EP X pins σ Q) X.xe s
section
variable {X : Cx} {a b : Expr} {ta tb : TE} {pos : Pos}
theorem IxR.or {r r' : R2} (h : IxR X r) (h' : IxR X r') : IxR X (fun x y H Q => r x y H Q ∨ r' x y H Q) := by
  intro value slice pins s σ H x y v u Q I rx ry q hs
  rcases q with q | q
  · exact h value slice pins s σ H x y v u Q I rx ry q hs
  · exact h' value slice pins s σ H x y v u Q I rx ry q hs
theorem MtR.or {id : String} {r r' : V → List V → Hp → VK → Prop} (h : MtR X id r) (h' : MtR X id r') : MtR X id (fun x xs H Q => r x xs H Q ∨ r' x xs H Q) := by
  intro pins s σ H x xs v us Q I rx rs q
  rcases q with q | q
  · exact h pins s σ H x xs v us Q I rx rs q
  · exact h' pins s σ H x xs v us Q I rx rs q
/-- a[b] -/
theorem pe_ix {r : R2} (hr : IxR X r) (ha : PE X a ta) (hb : PE X b tb) (hs : PlainIx b) : PE X (.Subscript a b pos) (tOp r ta tb) := by
  intro pins s σ H Q I h
  exact Subscript_ (binT ha hb I h fun v u s2 x y H2 I2 rx ry q => hr a b pins s2 σ H2 x y v u Q I2 rx ry q (hs _ _))

def rIxL (K : PySem.W.Frag) : R2 := fun x y H Q => ∃ p xs i v, x = .ref p ∧ y = .int i ∧ SqL K H p xs ∧ atI xs i = some v ∧ Q v H
def rIxT (K : PySem.W.Frag) : R2 := fun x y H Q => ∃ p xs i v, x = .ref p ∧ y = .int i ∧ SqT K H p xs ∧ atI xs i = some v ∧ Q v H
def rIxS : R2 := fun x y H Q => ∃ z i c, x = .str z ∧ y = .int i ∧ z.length ≤ sizeLine ∧ atI z.cps.toList i = some c ∧ Q (.str ⟨#[c]⟩) H
theorem ix_list : IxR X (rIxL X.K) := by
  intro value slice pins s σ H x y v u Q I rx ry h hs
  obtain ⟨p, xs, i, z, rfl, rfl, hq, he, q⟩ := h
  cases rx
  obtain ⟨t, rfl⟩ := ry
  obtain ⟨its, r, pl, hz⟩ := I.list hq
  obtain ⟨j, h1, h2, h3, h4, h5⟩ := atI_get he
  obtain ⟨w, ew, rw'⟩ := r.get h2
  have hl := r.length
  have hn := line63
  have fin : EP X pins σ Q w s := ⟨z, H, I, rw', q⟩
  by_cases h0 : 0 ≤ i
  · have hj : i.toNat = j := by
      rw [seqIndex_of h0 h5] at h1
      exact Option.some.inj h1
    exact item_listR pl.isList h0 (by omega) (by rw [hj]; simpa using ew) fin hs
  · have hj : (i + (its.toArray.size : Int)).toNat = j := by
      rw [seqIndex_neg (by omega) h4] at h1
      rw [List.size_toArray, ← hl]
      exact Option.some.inj h1
    exact subscriptTail_builtinR (x := w) pl.isList.typeIs slot_list_getitem.lookup
      (wpAny_getItem_list_neg (Q := fun r s' => r = w ∧ EP X pins σ Q r s') pl.isList (by omega) (by rw [List.size_toArray] <;> omega) (by omega) (by rw [hj]; simpa using ew) ⟨rfl, fin⟩) hs
theorem ix_tup : IxR X (rIxT X.K) := by
  intro value slice pins s σ H x y v u Q I rx ry h hs
  obtain ⟨p, xs, i, z, rfl, rfl, hq, he, q⟩ := h
  cases rx
  obtain ⟨t, rfl⟩ := ry
  obtain ⟨its, r, pl, hz⟩ := I.tuple hq
  obtain ⟨j, h1, h2, h3, h4, h5⟩ := atI_get he
  obtain ⟨w, ew, rw'⟩ := r.get h2
  have hl := r.length
  have hn := line63
  have fin : EP X pins σ Q w s := ⟨z, H, I, rw', q⟩
  exact subscriptTail_builtinR (x := w) pl.typeIs slot_tuple_getitem.lookup
    (getItem_tuple (j := j) (Q := fun r s' => r = w ∧ EP X pins σ Q r s') pl (by omega) (by omega) (by rw [List.size_toArray, ← hl]; exact h1) (by simpa using ew) ⟨rfl, fin⟩) hs
theorem ix_str : IxR X rIxS := by
  intro value slice pins s σ H x y v u Q I rx ry h hs
  obtain ⟨z, i, c, rfl, rfl, hz, he, q⟩ := h
  obtain ⟨t, rfl⟩ := rx
  obtain ⟨t', rfl⟩ := ry
  obtain ⟨j, h1, h2, h3, h4, h5⟩ := atI_get he
  have hl : z.cps.toList.length = z.length := by simp [Str.length]
  rw [hl] at h1 h4 h5
  have hn := line63
  exact tail_any (typeIs_str s z t) slot_str_getitem.lookup (getItem_str (c := c) (by
    have e1 : decide (i < -(2 ^ 63 : Int)) = false := decide_eq_false (by omega)
    have e2 : decide (i ≥ 2 ^ 63) = false := decide_eq_false (by omega)
    rw [e1, e2, Bool.or_false]) (by rw [h1]; simpa using h2) ⟨.str ⟨#[c]⟩, H, I.tok _, ⟨_, rfl⟩, q⟩) hs
/-- list, tuple or str -/
def rIx (K : PySem.W.Frag) : R2 := fun x y H Q => rIxL K x y H Q ∨ rIxT K x y H Q ∨ rIxS x y H Q
theorem ix_seq : IxR X (rIx X.K) := ix_list.or (ix_tup.or ix_str)

/-! ### xs[i] = v, any sign -/
/-- the list's object behind a store -/
theorem mapSeq_set (its : List Value) (n j : Nat) (u : Value) : Obj.mapSeq (·.setIfInBounds j u) { cls := .type "list", data := .seq its.toArray n } = { cls := .type "list", data := .seq (its.set j u).toArray n } := by
  simp [Obj.mapSeq]
theorem Inv.lst {pins : List (Addr × Obj)} {σ : St} {H : Hp} {s : Shared} {p : Addr} {xs : List V} (I : Inv X pins σ H s) (h : H p = some (.lst xs)) :
    ∃ (its : List Value) (n : Nat), Vals xs its ∧ s.heap.get? p = some { cls := .type "list", data := .seq its.toArray n } ∧ xs.length ≤ sizeLine := by
  obtain ⟨z, its, n, r, e⟩ := I.hok p _ h
  exact ⟨its, n, r, e, z⟩
/-- the list at p is written by an update of its object -/
theorem Inv.lstUpd {pins : List (Addr × Obj)} {σ : St} {H : Hp} {s : Shared} {p : Addr} {xs ys : List V} {its its' : List Value} {n n' : Nat} {f : Obj → Obj} (I : Inv X pins σ H s) (h : H p = some (.lst xs))
    (ho : s.heap.get? p = some { cls := .type "list", data := .seq its.toArray n }) (hf : f { cls := .type "list", data := .seq its.toArray n } = { cls := .type "list", data := .seq its'.toArray n' }) (r : Vals ys its') (hz : ys.length ≤ sizeLine) (t : Nat) :
    Inv X pins σ (upd H p (.lst ys)) { s with heap := s.heap.update p f, toks := t } := by
  have e : (s.heap.update p f).get? p = some { cls := .type "list", data := .seq its'.toArray n' } := by
    rw [Heap.get?_update_self f ho (by rw [hf] <;> rfl), hf]
  refine I.write (x := p) (e := p) (by rw [h]; trivial) (.inl rfl) (fun b u hb q => (Heap.get?_update_other _ _ (Ne.symm hb)).trans q) ⟨_, e⟩ ?_
  exact ⟨hz, its', n', r, e⟩
def rSetL : V → V → V → Hp → (Hp → Prop) → Prop := fun o i v H Q => ∃ p xs k j, o = .ref p ∧ i = .int k ∧ H p = some (.lst xs) ∧ ixN xs.length k = some j ∧ Q (upd H p (.lst (xs.set j v)))
theorem set_list : PSet X rSetL := by
  intro pins s σ H o i v ov iv u Q I ro ri rv h
  obtain ⟨p, xs, k, j, rfl, rfl, hp, hj, q⟩ := h
  cases ro
  obtain ⟨t, rfl⟩ := ri
  obtain ⟨its, n, r, ho, hz⟩ := I.lst hp
  obtain ⟨h1, h2, h3, h4⟩ := ixN_seq hj
  have hl := r.length
  have hn := line63
  have I' : Inv X pins σ (upd H p (.lst (xs.set j v))) { s with heap := s.heap.update p (Obj.mapSeq (·.setIfInBounds j u)) } :=
    I.lstUpd hp ho (mapSeq_set its n j u) (r.set rv j) (by rw [List.length_set]; exact hz) s.toks
  by_cases h0 : 0 ≤ k
  · have hk : k.toNat = j := by
      rw [seqIndex_of h0 h4] at h1
      exact Option.some.inj h1
    exact PySem.W.ki_setAt ho h0 (by omega) (by rw [List.size_toArray, ← hl]; exact h4) (by rw [hk]; exact ⟨_, I', q⟩)
  · have hk : (k + (its.toArray.size : Int)).toNat = j := by
      rw [seqIndex_neg (by omega) h3] at h1
      rw [List.size_toArray, ← hl]
      exact Option.some.inj h1
    exact PySem.W.ki_setBack ho (by omega) (by rw [List.size_toArray, ← hl]; exact h3) (by omega) (by rw [hk]; exact ⟨_, I', q⟩)

/-! ### slices -/
theorem slice_bounds (lo hi : Option Int) (n : Nat) : (sliceBounds lo hi none n).1 = ((HT.sIx n 0 lo : Nat) : Int) ∧ (sliceBounds lo hi none n).2.1 = ((HT.sIx n n hi : Nat) : Int) ∧ (sliceBounds lo hi none n).2.2 = 1 := by
  refine ⟨?_, ?_, rfl⟩
  · cases lo with
    | none => simp [sliceBounds, HT.sIx]
    | some i =>
      simp only [sliceBounds, HT.sIx, Option.getD_none, show (1 : Int) > 0 by decide, if_true]
      by_cases h : i < 0
      · simp only [h, if_true] <;> omega
      · simp only [h, if_false] <;> omega
  · cases hi with
    | none => simp [sliceBounds, HT.sIx]
    | some i =>
      simp only [sliceBounds, HT.sIx, Option.getD_none, show (1 : Int) > 0 by decide, if_true]
      by_cases h : i < 0
      · simp only [h, if_true] <;> omega
      · simp only [h, if_false] <;> omega
theorem slicePick_cut (its : List Value) (lo hi : Option Int) : slicePick its.toArray lo hi none = ((its.drop (HT.sIx its.length 0 lo)).take (HT.sIx its.length its.length hi - HT.sIx its.length 0 lo)).toArray := by
  obtain ⟨h1, h2, h3⟩ := slice_bounds lo hi its.toArray.size
  unfold slicePick
  rw [h1, h2, h3]
  simp only [sliceRange_one, pick_run, List.size_toArray] <;> rfl
/-- xs[lo:hi] of a list: a new list -/
def rSlL (K : PySem.W.Frag) : V → Option Int → Option Int → Hp → VK → Prop := fun x lo hi H Q => ∃ a xs, x = .ref a ∧ SqL K H a xs ∧ ∀ p, H p = none → Q (.ref p) (upd H p (.lst (cutV xs lo hi)))
theorem sl_list : SlR X (rSlL X.K) := by
  intro pins s σ H x v vl vu lo hi sl Q I rx hs pl pu h
  obtain ⟨a, xs, rfl, hx, q⟩ := h
  cases rx
  obtain ⟨its, r, ht, hz⟩ := I.list hx
  have hlen := r.length
  refine ⟨"list", _, slot_list_getitem.lookup, ht.isList.typeIs, ?_⟩
  refine wpAny_getItem_list_slice ht.isList hs pl pu .none (by simp) ?_ (by rw [List.size_toArray] <;> omega)
  rw [slicePick_cut, ← hlen]
  refine ⟨.ref s.heap.objs.size, _, I.laid (t' := s.toks) (o := .lst (cutV xs lo hi)) (fun b ob q => Heap.get?_push_of_some _ q) (Nat.le_refl _) ?_, rfl, q _ (I.hok.fresh (Nat.le_refl _))⟩
  exact ⟨Nat.le_trans (cutV_length xs lo hi) hz, _, 0, (r.drop (HT.sIx xs.length 0 lo)).take (HT.sIx xs.length xs.length hi - HT.sIx xs.length 0 lo), Heap.get?_push_size _ rfl⟩

/-! ### in, not in: flat items -/
def flatV : V → Bool
  | .non => true
  | .bl _ => true
  | .int _ => true
  | .str _ => true
  | _ => false
/-- == of flat values -/
def eqV : V → V → Bool
  | .non, .non => true
  | .bl a, .bl b => a == b
  | .bl a, .int b => (if a then 1 else 0) == b
  | .int a, .bl b => a == (if b then 1 else 0)
  | .int a, .int b => a == b
  | .str a, .str b => a == b
  | _, _ => false
theorem eqAt_V {A : Around} {s : Shared} {y x : V} {u v : Value} (ry : RelV y u) (rx : RelV x v) (fy : flatV y = true) (fx : flatV x = true) : SeqAt.EqAt A s u v (eqV y x) := by
  cases y with
  | non =>
    cases ry
    cases x with
    | non => cases rx; exact SeqAt.EqAt.same _
    | bl b => cases rx; exact SeqAt.EqAt.none_bool b
    | int b => obtain ⟨t, rfl⟩ := rx; exact SeqAt.EqAt.none_int b t
    | str b => obtain ⟨t, rfl⟩ := rx; exact SeqAt.EqAt.none_str b t
    | _ => exact absurd (show false = true from fx) Bool.false_ne_true
  | bl a =>
    cases ry
    cases x with
    | non => cases rx; exact SeqAt.EqAt.bool_none a
    | bl b => cases rx; exact SeqAt.EqAt.bool_bool a b
    | int b => obtain ⟨t, rfl⟩ := rx; exact SeqAt.EqAt.bool_int a b t
    | str b => obtain ⟨t, rfl⟩ := rx; exact SeqAt.EqAt.bool_str a b t
    | _ => exact absurd (show false = true from fx) Bool.false_ne_true
  | int a =>
    obtain ⟨t', rfl⟩ := ry
    cases x with
    | non => cases rx; exact SeqAt.EqAt.int_none a t'
    | bl b => cases rx; exact SeqAt.EqAt.int_bool a t' b
    | int b => obtain ⟨t, rfl⟩ := rx; exact SeqAt.EqAt.int_int a t' b t
    | str b => obtain ⟨t, rfl⟩ := rx; exact SeqAt.EqAt.int_str a t' b t
    | _ => exact absurd (show false = true from fx) Bool.false_ne_true
  | str a =>
    obtain ⟨t', rfl⟩ := ry
    cases x with
    | non => cases rx; exact SeqAt.EqAt.str_none a t'
    | bl b => cases rx; exact SeqAt.EqAt.str_bool a t' b
    | int b => obtain ⟨t, rfl⟩ := rx; exact SeqAt.EqAt.str_int a t' b t
    | str b => obtain ⟨t, rfl⟩ := rx; exact SeqAt.EqAt.str_str a t' b t
    | _ => exact absurd (show false = true from fx) Bool.false_ne_true
  | _ => exact absurd (show false = true from fy) Bool.false_ne_true
/-- the items' answers, read off the values (a value's own answer does not lean on its token) -/
def eqU (x : V) (u : Value) : Bool := match u with
  | .none => eqV .non x
  | .bool b => eqV (.bl b) x
  | .int i _ => eqV (.int i) x
  | .str z _ => eqV (.str z) x
  | _ => false
theorem eqU_of {x y : V} {u : Value} (r : RelV y u) (f : flatV y = true) : eqU x u = eqV y x := by
  cases y with
  | non => cases r; rfl
  | bl b => cases r; rfl
  | int i => obtain ⟨t, rfl⟩ := r; rfl
  | str z => obtain ⟨t, rfl⟩ := r; rfl
  | _ => exact absurd (show false = true from f) Bool.false_ne_true
theorem any_eqU {x : V} : ∀ {xs : List V} {us : List Value}, Vals xs us → xs.all flatV = true → us.any (eqU x) = xs.any fun y => eqV y x
  | _, _, .nil, _ => rfl
  | y :: xs, u :: us, .cons r t, f => by
    rw [List.all_cons, Bool.and_eq_true] at f
    rw [List.any_cons, List.any_cons, eqU_of r f.1, any_eqU t f.2]
theorem mem_eqAt {A : Around} {s : Shared} {x : V} {v : Value} (rx : RelV x v) (fx : flatV x = true) : ∀ {xs : List V} {us : List Value}, Vals xs us → xs.all flatV = true → ∀ u ∈ us, SeqAt.EqAt A s u v (eqU x u)
  | _, _, .nil, _ => fun u hu => by cases hu
  | y :: xs, u :: us, .cons r t, f => fun u' hu => by
    rw [List.all_cons, Bool.and_eq_true] at f
    rcases List.mem_cons.mp hu with rfl | hu
    · rw [eqU_of r f.1]; exact eqAt_V r rx f.1 fx
    · exact mem_eqAt rx fx t f.2 u' hu
def inV (x : V) (xs : List V) : Bool := xs.any fun y => eqV y x
/-- x in a list or tuple of flat items -/
def rIn (K : PySem.W.Frag) (neg : Bool) : R2 := fun x y H Q => ∃ p xs, y = .ref p ∧ (SqL K H p xs ∨ SqT K H p xs) ∧ flatV x = true ∧ xs.all flatV = true ∧ Q (.bl (if neg then !inV x xs else inV x xs)) H
theorem op_in_seq : OpR X (compareOp .In) (rIn X.K false) := by
  intro pins s σ H x y v u Q I rx ry h
  obtain ⟨p, xs, rfl, hq, fx, fs, q⟩ := h
  cases ry
  rcases hq with hq | hq
  · obtain ⟨its, r, pl, hz⟩ := I.list hq
    refine SeqAt.in_listAt (eqU x) pl.isList (fun w hw => mem_eqAt rx fx r fs w (by simpa using hw)) ⟨.bl _, H, I, rfl, ?_⟩
    rw [show its.toArray.any (eqU x) = its.any (eqU x) by simp, any_eqU r fs]
    exact q
  · obtain ⟨its, r, pl, hz⟩ := I.tuple hq
    refine SeqAt.in_tupleAt (eqU x) pl (fun w hw => mem_eqAt rx fx r fs w (by simpa using hw)) ⟨.bl _, H, I, rfl, ?_⟩
    rw [show its.toArray.any (eqU x) = its.any (eqU x) by simp, any_eqU r fs]
    exact q
theorem op_notIn_seq : OpR X (compareOp .NotIn) (rIn X.K true) := by
  intro pins s σ H x y v u Q I rx ry h
  obtain ⟨p, xs, rfl, hq, fx, fs, q⟩ := h
  cases ry
  rcases hq with hq | hq
  · obtain ⟨its, r, pl, hz⟩ := I.list hq
    refine SeqAt.notIn_listAt (eqU x) pl.isList (fun w hw => mem_eqAt rx fx r fs w (by simpa using hw)) ⟨.bl _, H, I, rfl, ?_⟩
    rw [show its.toArray.any (eqU x) = its.any (eqU x) by simp, any_eqU r fs]
    exact q
  · obtain ⟨its, r, pl, hz⟩ := I.tuple hq
    refine SeqAt.notIn_tupleAt (eqU x) pl (fun w hw => mem_eqAt rx fx r fs w (by simpa using hw)) ⟨.bl _, H, I, rfl, ?_⟩
    rw [show its.toArray.any (eqU x) = its.any (eqU x) by simp, any_eqU r fs]
    exact q
theorem op_notIn_str : OpR X (compareOp .NotIn) (fun x y H Q => ∃ i j, x = .str i ∧ y = .str j ∧ Q (.bl (!(!(Builtin.Str.occurrences j i 0 j.length 1).isEmpty))) H) := by
  intro pins s σ H x y v u Q I rx ry h
  obtain ⟨i, j, rfl, rfl, q⟩ := h
  obtain ⟨t, rfl⟩ := rx
  obtain ⟨t', rfl⟩ := ry
  exact notIn_str ⟨.bl _, H, I, rfl, q⟩

/-! ### len, list(x), tuple(x) of any list or tuple that is read -/
theorem call_len_seq : CallR X (.builtin "len") (fun xs H Q => ∃ p ys, xs = [.ref p] ∧ (SqL X.K H p ys ∨ SqT X.K H p ys) ∧ Q (.int ys.length) H) := by
  intro pins s σ H xs us Q I r h
  obtain ⟨p, ys, rfl, hq, q⟩ := h
  obtain ⟨u, rfl, rx⟩ := vals1 r
  cases rx
  have hn := line63
  rcases hq with hq | hq
  · obtain ⟨its, r', pl, hz⟩ := I.list hq
    have hlen := r'.length
    exact Calls.call_len_list pl.isList (by simp only [List.size_toArray] <;> omega) ⟨.int ys.length, H, I.tok _, ⟨s.toks + 1, by rw [List.size_toArray, hlen]⟩, q⟩
  · obtain ⟨its, r', pl, hz⟩ := I.tuple hq
    have hlen := r'.length
    exact len_tuple pl (by simp only [List.size_toArray] <;> omega) ⟨.int ys.length, H, I.tok _, ⟨s.toks + 1, by rw [List.size_toArray, hlen]⟩, q⟩
theorem call_len_str : CallR X (.builtin "len") (fun xs H Q => ∃ z, xs = [.str z] ∧ z.length ≤ sizeLine ∧ Q (.int z.length) H) := by
  intro pins s σ H xs us Q I r h
  obtain ⟨z, rfl, hz, q⟩ := h
  obtain ⟨u, rfl, t, rfl⟩ := vals1 r
  have hn := line63
  exact len_str (by omega) ⟨.int z.length, H, I.tok _, ⟨_, rfl⟩, q⟩
theorem CallR.or {f : Value} {r r' : List V → Hp → VK → Prop} (h : CallR X f r) (h' : CallR X f r') : CallR X f (fun xs H Q => r xs H Q ∨ r' xs H Q) := by
  intro pins s σ H xs us Q I rs q
  rcases q with q | q
  · exact h pins s σ H xs us Q I rs q
  · exact h' pins s σ H xs us Q I rs q
theorem call_list_of : CallR X (.type "list") (fun xs H Q => ∃ p ys, xs = [.ref p] ∧ (SqL X.K H p ys ∨ SqT X.K H p ys) ∧ ∀ l, H l = none → Q (.ref l) (upd H l (.lst ys))) := by
  intro pins s σ H xs us Q I r h
  obtain ⟨p, ys, rfl, hq, q⟩ := h
  obtain ⟨u, rfl, rx⟩ := vals1 r
  cases rx
  have fin : ∀ (its : List Value), Vals ys its → ys.length ≤ sizeLine → ∀ (h' : Heap) (c' : Nat), (∀ b o', s.heap.get? b = some o' → h'.get? b = some o') →
      h'.get? s.heap.objs.size = some { cls := .type "list", dict := none, data := .seq its.toArray c', slots := #[] } → EP X pins σ Q (.ref s.heap.objs.size) { s with heap := h' } := fun its r' hz h' c' kp e =>
    ⟨.ref s.heap.objs.size, _, I.laid (t' := s.toks) kp (Nat.le_refl _) (show ObjOk X.prog X.w _ h' _ (.lst ys) from ⟨hz, its, c', r', e⟩), rfl, q _ (I.hok.fresh (Nat.le_refl _))⟩
  rcases hq with hq | hq
  · obtain ⟨its, r', pl, hz⟩ := I.list hq
    have hlen := r'.length
    obtain ⟨o, ho, hc, n, hd⟩ := pl.isList
    exact call_list_seq p (.inl rfl) ho hc hd (fun h' c' kp e => fin its r' hz h' c' kp e) (by simp only [List.size_toArray] <;> omega)
  · obtain ⟨its, r', pl, hz⟩ := I.tuple hq
    have hlen := r'.length
    obtain ⟨o, ho, hc, n, hd⟩ := pl
    exact call_list_seq p (.inr rfl) ho hc hd (fun h' c' kp e => fin its r' hz h' c' kp e) (by simp only [List.size_toArray] <;> omega)
theorem call_tuple_of : CallR X (.type "tuple") (fun xs H Q => ∃ p ys, xs = [.ref p] ∧ ((SqL X.K H p ys ∧ ∀ l, H l = none → Q (.ref l) (upd H l (.tup ys))) ∨ (SqT X.K H p ys ∧ Q (.ref p) H))) := by
  intro pins s σ H xs us Q I r h
  obtain ⟨p, ys, rfl, h⟩ := h
  obtain ⟨u, rfl, rx⟩ := vals1 r
  cases rx
  rcases h with ⟨hq, q⟩ | ⟨hq, q⟩
  · obtain ⟨its, r', pl, hz⟩ := I.list hq
    have hlen := r'.length
    refine call_tuple_list pl.isList (fun h' kp => ?_) (by simp only [List.size_toArray] <;> omega)
    have I1 : Inv X pins σ H { s with heap := h' } := I.kept (t' := s.toks) kp
    have I2 : Inv X pins σ (upd H h'.objs.size (.tup ys)) { s with heap := h'.push { cls := .type "tuple", data := .seq its.toArray } } :=
      I1.laid (t' := s.toks) (fun b o e => Heap.get?_push_of_some _ e) (Nat.le_refl _) (show ObjOk X.prog X.w _ _ _ (.tup ys) from ⟨hz, its, r', IsTup.new _ _⟩)
    exact ⟨.ref h'.objs.size, _, I2, rfl, q _ (I1.hok.fresh (Nat.le_refl _))⟩
  · obtain ⟨its, r', pl, hz⟩ := I.tuple hq
    exact call_tuple_same pl ⟨.ref p, H, I, rfl, q⟩

/-! ### the call of a builtin's method: o.m(..) -/
/-- the value is of that builtin type -/
def tyV (K : PySem.W.Frag) (T : String) (x : V) (H : Hp) : Prop := match x with
  | .str _ => T = "str"
  | .int _ => T = "int"
  | .ref p => (T = "list" ∧ ∃ xs, SqL K H p xs) ∨ (T = "tuple" ∧ ∃ o, K.lookup p = some o ∧ o.cls = .type "tuple" ∧ o.dict = none) ∨
      (T = "dict" ∧ ((∃ kvs, H p = some (.dK kvs)) ∨ ∃ kvs, H p = some (.dT kvs))) ∨ (T = "set" ∧ ∃ S n, H p = some (.set S n))
  | _ => False
theorem tyV_is {pins : List (Addr × Obj)} {σ : St} {H : Hp} {s : Shared} {T : String} {x : V} {v : Value} (I : Inv X pins σ H s) (r : RelV x v) (ty : tyV X.K T x H) :
    s.TypeIs v T ∧ ∀ a, v = .ref a → ∃ ob, s.heap.get? a = some ob ∧ ob.dict = none := by
  cases x with
  | str z =>
    obtain ⟨t, rfl⟩ := r
    cases (show T = "str" from ty)
    exact ⟨typeIs_str s z t, fun _ e => nomatch e⟩
  | int i =>
    obtain ⟨t, rfl⟩ := r
    cases (show T = "int" from ty)
    exact ⟨typeIs_int s i t, fun _ e => nomatch e⟩
  | ref p =>
    cases r
    rcases ty with ⟨rfl, xs, hq⟩ | ⟨rfl, o, hk, hc, hd⟩ | ⟨rfl, hk⟩ | ⟨rfl, S, n, hk⟩
    · obtain ⟨its, _, pl, _⟩ := I.list hq
      refine ⟨pl.isList.typeIs, fun a e => ?_⟩
      cases e
      obtain ⟨o, n, e, c, hd, _⟩ := pl
      exact ⟨o, e, hd⟩
    · refine ⟨⟨o, I.kIn p o hk, hc⟩, fun a e => ?_⟩
      cases e
      exact ⟨o, I.kIn _ o hk, hd⟩
    · have z : ∃ o, s.heap.get? p = some o ∧ o.ExactDict := by
        rcases hk with ⟨kvs, hk⟩ | ⟨kvs, hk⟩
        · obtain ⟨_, _, _, _, o, _, _, e, ex, _⟩ := I.hok p _ hk
          exact ⟨o, e, ex⟩
        · obtain ⟨_, _, _, _, o, _, _, e, ex, _⟩ := I.hok p _ hk
          exact ⟨o, e, ex⟩
      obtain ⟨o, e, ex⟩ := z
      refine ⟨⟨o, e, ex.1⟩, fun a e2 => ?_⟩
      cases e2
      exact ⟨o, e, ex.2.1⟩
    · obtain ⟨o, _, _, _, e, ex, _⟩ := I.hok p _ hk
      refine ⟨⟨o, e, ex.1⟩, fun a e2 => ?_⟩
      cases e2
      exact ⟨o, e, ex.2.1⟩
  | _ => exact False.elim ty
def tBM0 (K : PySem.W.Frag) (T : String) (r : V → List V → Hp → VK → Prop) (to : TE) : TE := fun σ H Q => to σ H fun x H1 => tyV K T x H1 ∧ r x [] H1 Q
def tBM (K : PySem.W.Frag) (T : String) (r : V → List V → Hp → VK → Prop) (to : TE) (t : TA) : TE := fun σ H Q => to σ H fun x H1 => tyV K T x H1 ∧ t σ H1 fun xs H2 => r x xs H2 Q
variable {o e : Expr} {es : List Expr} {to : TE} {t : TA} {name : Str} {apos cpos : Pos} {T id : String} {r : V → List V → Hp → VK → Prop}
theorem pe_bm0 (pa : PlainAttrs T) (slot : Slot T name id) (hty : typeOf (.builtin id) = pure (.type "method_descriptor")) (hm : MtR X id r) (ho : PE X o to)
    (hbase : attributeBase o name X.env (eval o X.env) = eval o X.env := by rfl) (hline : (apos.endLine == cpos.line) = true := by rfl) : PE X (.Call (.Attribute o name apos) [] [] cpos) (tBM0 X.K T r to) := by
  intro pins s σ H Q I h
  refine wpAny_Call_method0_late hbase hline (thn (ho pins s σ H _ I h) fun v s1 ⟨x, H1, I1, r1, ty, q1⟩ => ?_)
  obtain ⟨h1, h2⟩ := tyV_is I1 r1 ty
  exact ⟨T, id, pa, slot, hty, h1, h2, Calls.callWith_builtin rfl (PySem.evalArgs_none (hm pins s1 σ H1 x [] v [] Q I1 r1 .nil q1))⟩
theorem pe_bm (pa : PlainAttrs T) (slot : Slot T name id) (hty : typeOf (.builtin id) = pure (.type "method_descriptor")) (hm : MtR X id r) (ho : PE X o to) (ha : PA X (e :: es) t)
    (hbase : attributeBase o name X.env (eval o X.env) = eval o X.env := by rfl)
    (hfew : ((backTo cpos (starEach (e :: es) X.env)).all (fun x => !x.1) && (backToKw cpos (keywordEach [] X.env)).all (fun x => x.1.isSome)
      && decide ((e :: es).length + ([] : List Keyword).length + (if ([] : List Keyword).isEmpty then 0 else 1) < 30)) = true := by rfl)
    (hline : (apos.endLine == cpos.line) = true := by rfl) (hs : starEach (e :: es) X.env = (false, eval e X.env) :: starEach es X.env := by rfl) (hplain : (backTo cpos (starEach es X.env)).any (·.1) = false := by rfl) :
    PE X (.Call (.Attribute o name apos) (e :: es) [] cpos) (tBM X.K T r to t) := by
  intro pins s σ H Q I h
  refine wpAny_Call_method_late hbase hfew hline rfl (thn (ho pins s σ H _ I h) fun v s1 ⟨x, H1, I1, r1, ty, q1⟩ => ?_)
  obtain ⟨h1, h2⟩ := tyV_is I1 r1 ty
  refine ⟨T, id, pa, slot, hty, h1, h2, ?_⟩
  have hA := ha cpos pins s1 σ H1 _ I1 q1
  rw [hs] at hA ⊢
  refine Calls.callWith_builtin (by show (false || (backTo cpos (starEach es X.env)).any (·.1)) = false; rw [hplain] <;> rfl) (Calls.evalArgs_plain ?_)
  exact thn hA fun us s2 ⟨vs, H2, I2, r2, q2⟩ => hm pins s2 σ H2 x vs v us Q I2 r1 r2 q2
/- xs.append(e), list.index on a module's tuple .. are MtR facts of 06m -/
end
end L2

namespace L2
open PySem PySem.Spec PyProof.Rows

def MtM (X : Cx) (id : String) (r : V → List V → Hp → VK → Prop) : Prop :=
  ∀ (pins : List (Addr × Obj)) (s : Shared) (σ : St) (H : Hp) (x : V) (xs : List V) (v : Value) (us : List Value) (Q : VK), Inv X pins σ H s → RelV x v → Vals xs us → r x xs H Q →
    wpAny (model X.prog X.w) X.A (call (.builtin id) (v :: us)) (EP X pins σ Q) X.xe s

/-! ### lists of values -/
theorem Vals.one : ∀ {x : V} {us : List Value}, Vals [x] us → ∃ u, us = [u] ∧ RelV x u
  | _, _, .cons r .nil => ⟨_, rfl, r⟩
theorem Vals.two : ∀ {x y : V} {us : List Value}, Vals [x, y] us → ∃ u v, us = [u, v] ∧ RelV x u ∧ RelV y v
  | _, _, _, .cons r (.cons q .nil) => ⟨_, _, rfl, r, q⟩
theorem Vals.zero : ∀ {us : List Value}, Vals [] us → us = []
  | _, .nil => rfl
theorem Vals.dropLast {xs : List V} {us : List Value} (h : Vals xs us) : Vals xs.dropLast us.dropLast := by
  induction h with
  | nil => exact .nil
  | cons r t ih =>
    cases t with
    | nil => exact .nil
    | cons q t' => exact .cons r ih
theorem Vals.eraseIdx : ∀ {xs : List V} {us : List Value} (i : Nat), Vals xs us → Vals (xs.eraseIdx i) (us.eraseIdx i)
  | _, _, _, .nil => .nil
  | _, _, 0, .cons _ t => t
  | _, _, i + 1, .cons r t => .cons r (Vals.eraseIdx i t)
theorem Vals.reverse {xs : List V} {us : List Value} (h : Vals xs us) : Vals xs.reverse us.reverse := by
  induction h with
  | nil => exact .nil
  | cons r t ih => rw [List.reverse_cons, List.reverse_cons]; exact Vals.append ih (.cons r .nil)
theorem Vals.rep {xs : List V} {us : List Value} (h : Vals xs us) : ∀ k : Nat, Vals (List.replicate k xs).flatten (List.replicate k us).flatten
  | 0 => .nil
  | k + 1 => by
    rw [List.replicate_succ, List.replicate_succ, List.flatten_cons, List.flatten_cons]
    exact Vals.append h (Vals.rep h k)
theorem erase_last {α : Type} (l : List α) : l.eraseIdx (l.length - 1) = l.dropLast := by
  induction l with
  | nil => rfl
  | cons a r ih =>
    cases r with
    | nil => rfl
    | cons b r =>
      have e : (a :: b :: r).length - 1 = ((b :: r).length - 1) + 1 := by
        have h1 : (a :: b :: r).length = r.length + 2 := rfl
        have h2 : (b :: r).length = r.length + 1 := rfl
        omega
      rw [e, List.eraseIdx_cons_succ, ih]
      all_goals rfl
theorem len_erase {α : Type} : ∀ (l : List α) (i : Nat), (l.eraseIdx i).length ≤ l.length
  | [], _ => Nat.le_refl _
  | _ :: _, 0 => Nat.le_succ _
  | _ :: r, i + 1 => Nat.succ_le_succ (len_erase r i)
theorem foldl_rep (its : List Value) : ∀ (k : Nat) (acc : List Value),
    List.foldl (fun x1 x2 => x1 ++ x2) acc.toArray (List.replicate k its.toArray) = (acc ++ (List.replicate k its).flatten).toArray
  | 0, acc => by simp
  | k + 1, acc => by
    have e : acc.toArray ++ its.toArray = (acc ++ its).toArray := by simp
    have e2 : (acc ++ its) ++ (List.replicate k its).flatten = acc ++ (List.replicate (k + 1) its).flatten := by
      rw [List.replicate_succ, List.flatten_cons, List.append_assoc]
    rw [← e2, ← foldl_rep its k (acc ++ its), ← e, List.replicate_succ, List.foldl_cons]

section
variable {X : Cx} {pins : List (Addr × Obj)} {σ : St} {H : Hp} {s : Shared} {l b : Addr} {xs ys zs : List V}

/-! ### the two steps: a tracked list is rewritten, a new list is laid -/
theorem Inv.lset {its its' : List Value} {n : Nat} {f : Array Value → Array Value} {t' : Nat} (I : Inv X pins σ H s) (hH : H l = some (.lst xs))
    (e : s.heap.get? l = some { cls := .type "list", data := .seq its.toArray n }) (hf : f its.toArray = its'.toArray) (hv : Vals ys its') (hz : ys.length ≤ sizeLine) :
    Inv X pins σ (upd H l (.lst ys)) { s with heap := s.heap.update l (Obj.mapSeq f), toks := t' } := by
  have q := PySem.IsL.update e f
  rw [hf] at q
  refine I.write (x := l) (e := l) (by rw [hH]; exact trivial) (.inl rfl) (fun b' u hb hu => (Heap.get?_update_other s.heap (Obj.mapSeq f) (Ne.symm hb)).trans hu) ⟨_, q⟩ ?_
  exact ⟨hz, its', _, hv, q⟩
theorem Inv.lnew {its : List Value} {t' : Nat} (I : Inv X pins σ H s) (hv : Vals ys its) (hz : ys.length ≤ sizeLine) :
    Inv X pins σ (upd H s.heap.objs.size (.lst ys)) { s with heap := s.heap.push { cls := .type "list", data := .seq its.toArray }, toks := t' } :=
  I.laid (fun _ _ q => Heap.get?_push_of_some _ q) (Nat.le_refl _) ⟨hz, its, 0, hv, Heap.get?_push_size _ rfl⟩
theorem Inv.fresh (I : Inv X pins σ H s) : H s.heap.objs.size = none := I.hok.fresh (Nat.le_refl _)
theorem Inv.lstM (I : Inv X pins σ H s) (hH : H l = some (.lst xs)) : xs.length ≤ sizeLine ∧ ∃ (its : List Value) (n : Nat), Vals xs its ∧ xs.length = its.length ∧ s.heap.get? l = some { cls := .type "list", data := .seq its.toArray n } := by
  obtain ⟨z, its, n, r, e⟩ := I.hok l _ hH
  exact ⟨z, its, n, r, r.length, e⟩

theorem notLongL {n : Nat} (h : n ≤ sizeLine) : Builtin.List.listTooLong n = false := by
  unfold Builtin.List.listTooLong
  exact decide_eq_false (by omega)
end

section
variable {X : Cx}

/-! ### methods -/
def rAppend : V → List V → Hp → VK → Prop := fun x vs H Q => ∃ l xs y, x = .ref l ∧ vs = [y] ∧ H l = some (.lst xs) ∧ xs.length < sizeLine ∧ Q .non (upd H l (.lst (xs ++ [y])))
theorem mt_append : MtM X "list.append" rAppend := by
  intro pins s σ H x vs v us Q I rx rv h
  obtain ⟨l, xs, y, rfl, rfl, hH, hz, q⟩ := h
  cases rx
  obtain ⟨u, rfl, ru⟩ := rv.one
  obtain ⟨z, its, n, r, hl, e⟩ := I.lstM hH
  refine call_meets F.slot_list_append ⟨_, e, rfl⟩ F.entry_list_append (F.args_list_append_2 _ _) (PySem.list_append l its.toArray n u (by rw [List.size_toArray]; omega)) ⟨e, ?_⟩
  refine ⟨.non, _, I.lset (its' := its ++ [u]) hH e (by simp) (r.append (.cons ru .nil)) ?_, rfl, q⟩
  rw [List.length_append, List.length_singleton]
  omega

def rExtend : V → List V → Hp → VK → Prop := fun x vs H Q => ∃ l b xs zs, x = .ref l ∧ vs = [.ref b] ∧ H l = some (.lst xs) ∧ H b = some (.lst zs) ∧ xs.length + zs.length ≤ sizeLine ∧ Q .non (upd H l (.lst (xs ++ zs)))
theorem mt_extend : MtM X "list.extend" rExtend := by
  intro pins s σ H x vs v us Q I rx rv h
  obtain ⟨l, b, xs, zs, rfl, rfl, hH, hB, hz, q⟩ := h
  cases rx
  obtain ⟨u, rfl, ru⟩ := rv.one
  cases ru
  obtain ⟨z, its, n, r, hl, e⟩ := I.lstM hH
  obtain ⟨z2, its2, n2, r2, hl2, e2⟩ := I.lstM hB
  have hsz : its.toArray.size + its2.toArray.size ≤ sizeLine := by rw [List.size_toArray, List.size_toArray]; omega
  have hlong : ¬ (!its.toArray.isEmpty && Builtin.List.listTooLong (its.toArray.size + its2.toArray.size)) = true := by
    rw [notLongL hsz, Bool.and_false]
    exact Bool.false_ne_true
  refine call_meets F.slot_list_extend ⟨_, e, rfl⟩ F.entry_list_extend (F.args_list_extend_2 _ _)
    (AutoSeq1.list_extend_list_list_0 l its.toArray n b its2.toArray n2 hlong (by rw [List.size_toArray]; omega) (by omega)) ⟨e, e2, ?_⟩
  refine ⟨.non, _, I.lset (its' := its ++ its2) hH e (by simp) (r.append r2) ?_, rfl, q⟩
  rw [List.length_append]
  omega

def rPop : V → List V → Hp → VK → Prop := fun x vs H Q => ∃ l xs y, x = .ref l ∧ vs = [] ∧ H l = some (.lst xs) ∧ xs[xs.length - 1]? = some y ∧ Q y (upd H l (.lst xs.dropLast))
theorem mt_pop : MtM X "list.pop" rPop := by
  intro pins s σ H x vs v us Q I rx rv h
  obtain ⟨l, xs, y, rfl, rfl, hH, hy, q⟩ := h
  cases rx
  have hus := rv.zero
  subst hus
  obtain ⟨z, its, n, r, hl, e⟩ := I.lstM hH
  obtain ⟨u, hu, ru⟩ := r.get hy
  have hy' : its.toArray[its.toArray.size - 1]? = some u := by
    show its.toArray[its.length - 1]? = some u
    rw [← Array.getElem?_toList, ← hl]
    exact hu
  refine call_meets F.slot_list_pop ⟨_, e, rfl⟩ F.entry_list_pop (F.args_list_pop_1 _) (MeetsSeq.list_pop_last l its.toArray n u hy' (by rw [List.size_toArray]; omega)) ⟨e, ?_⟩
  refine ⟨y, _, I.lset (its' := its.dropLast) hH e ?_ r.dropLast ?_, ru, q⟩
  · show its.toArray.eraseIdxIfInBounds (its.toArray.size - 1) = its.dropLast.toArray
    rw [List.size_toArray, List.eraseIdxIfInBounds_toArray, erase_last]
  · rw [List.length_dropLast]
    omega

def rPopAt : V → List V → Hp → VK → Prop := fun x vs H Q => ∃ l xs i k y, x = .ref l ∧ vs = [.int i] ∧ H l = some (.lst xs) ∧ -(2 ^ 63) ≤ i ∧ i < 2 ^ 63 ∧ seqIndex? i xs.length = some k ∧ xs[k]? = some y ∧ Q y (upd H l (.lst (xs.eraseIdx k)))
theorem mt_popAt : MtM X "list.pop" rPopAt := by
  intro pins s σ H x vs v us Q I rx rv h
  obtain ⟨l, xs, i, k, y, rfl, rfl, hH, h1, h2, hk, hy, q⟩ := h
  cases rx
  obtain ⟨u, rfl, ru⟩ := rv.one
  obtain ⟨t, rfl⟩ := ru
  obtain ⟨z, its, n, r, hl, e⟩ := I.lstM hH
  obtain ⟨w, hw, rw'⟩ := r.get hy
  refine call_meets F.slot_list_pop ⟨_, e, rfl⟩ F.entry_list_pop (F.args_list_pop_2 _ _)
    (MeetsSeq.list_pop_at l its.toArray n i t k w (fitsIndex_both h1 h2) (by rw [List.size_toArray, ← hl]; exact hk) (by rw [← Array.getElem?_toList]; exact hw) (by rw [List.size_toArray]; omega)) ⟨e, ?_⟩
  refine ⟨y, _, I.lset (its' := its.eraseIdx k) hH e ?_ (r.eraseIdx k) ?_, rw', q⟩
  · show its.toArray.eraseIdxIfInBounds k = (its.eraseIdx k).toArray
    rw [List.eraseIdxIfInBounds_toArray]
  · have := len_erase xs k
    omega

def rReverse : V → List V → Hp → VK → Prop := fun x vs H Q => ∃ l xs, x = .ref l ∧ vs = [] ∧ H l = some (.lst xs) ∧ Q .non (upd H l (.lst xs.reverse))
theorem mt_reverse : MtM X "list.reverse" rReverse := by
  intro pins s σ H x vs v us Q I rx rv h
  obtain ⟨l, xs, rfl, rfl, hH, q⟩ := h
  cases rx
  have hus := rv.zero
  subst hus
  obtain ⟨z, its, n, r, hl, e⟩ := I.lstM hH
  refine call_meets F.slot_list_reverse ⟨_, e, rfl⟩ F.entry_list_reverse (F.args_list_reverse_1 _) (AutoSeq1.list_reverse_list_0 l its.toArray n (by rw [List.size_toArray]; omega)) ⟨e, ?_⟩
  refine ⟨.non, _, I.lset (its' := its.reverse) hH e (by simp) r.reverse ?_, rfl, q⟩
  rw [List.length_reverse]
  omega

def rClear : V → List V → Hp → VK → Prop := fun x vs H Q => ∃ l xs, x = .ref l ∧ vs = [] ∧ H l = some (.lst xs) ∧ Q .non (upd H l (.lst []))
theorem mt_clear : MtM X "list.clear" rClear := by
  intro pins s σ H x vs v us Q I rx rv h
  obtain ⟨l, xs, rfl, rfl, hH, q⟩ := h
  cases rx
  have hus := rv.zero
  subst hus
  obtain ⟨z, its, n, r, hl, e⟩ := I.lstM hH
  refine call_meets F.slot_list_clear ⟨_, e, rfl⟩ F.entry_list_clear (F.args_list_clear_1 _) (AutoSeq1.list_clear_list_0 l its.toArray n (by rw [List.size_toArray]; omega)) ⟨e, ?_⟩
  exact ⟨.non, _, I.lset (its' := []) (ys := []) hH e rfl .nil (Nat.zero_le _), rfl, q⟩

/-! ### list + list, list += list, list * int -/
def rCat : R2 := fun x y H Q => ∃ l b xs zs, x = .ref l ∧ y = .ref b ∧ H l = some (.lst xs) ∧ H b = some (.lst zs) ∧ xs.length + zs.length ≤ sizeLine ∧ ∀ p, H p = none → Q (.ref p) (upd H p (.lst (xs ++ zs)))
theorem op_cat : OpR X (binaryOp .Add) rCat := by
  intro pins s σ H x y v u Q I rx ry h
  obtain ⟨l, b, xs, zs, rfl, rfl, hH, hB, hz, q⟩ := h
  cases rx
  cases ry
  obtain ⟨z, its, n, r, hl, e⟩ := I.lstM hH
  obtain ⟨z2, its2, n2, r2, hl2, e2⟩ := I.lstM hB
  refine PySem.P.add_list e e2 ?_ (by rw [List.size_toArray, List.size_toArray]; omega)
  have ea : its.toArray ++ its2.toArray = (its ++ its2).toArray := by simp
  rw [ea]
  exact ⟨.ref _, _, I.lnew (t' := s.toks) (r.append r2) (by rw [List.length_append]; omega), rfl, q _ I.fresh⟩
/-- a list times an int (a negative one is nothing) -/
def rRep : R2 := fun x y H Q => ∃ l k xs, x = .ref l ∧ y = .int k ∧ H l = some (.lst xs) ∧ -(2 ^ 63) ≤ k ∧ k < 2 ^ 63 ∧ xs.length * k.toNat ≤ sizeLine ∧
  ∀ p, H p = none → Q (.ref p) (upd H p (.lst (List.replicate k.toNat xs).flatten))
theorem len_rep {α : Type} (xs : List α) (k : Nat) : (List.replicate k xs).flatten.length = k * xs.length := by
  induction k with
  | zero => simp
  | succ k ih => rw [List.replicate_succ, List.flatten_cons, List.length_append, ih, Nat.succ_mul, Nat.add_comm]
theorem op_rep : OpR X (binaryOp .Mult) rRep := by
  intro pins s σ H x y v u Q I rx ry h
  obtain ⟨l, k, xs, rfl, rfl, hH, h1, h2, hz, q⟩ := h
  cases rx
  obtain ⟨t, rfl⟩ := ry
  obtain ⟨z, its, n, r, hl, e⟩ := I.lstM hH
  have hlen : its.toArray.size * k.toNat ≤ sizeLine := by rw [List.size_toArray, ← hl]; exact hz
  have hcap : ¬ its.toArray.size * k.toNat > (2 ^ 63 - 1) / 8 := by
    have : (sizeLine : Nat) ≤ (2 ^ 63 - 1) / 8 := by decide
    omega
  have hfit : ¬ (!Builtin.List.listFitsIndex k) = true := by
    rw [fitsIndex_both h1 h2]
    exact Bool.false_ne_true
  have hlong : ¬ Builtin.List.listTooLong (its.toArray.size * k.toNat) = true := by
    rw [notLongL hlen]
    exact Bool.false_ne_true
  have hnew : List.foldl (fun x1 x2 => x1 ++ x2) #[] (List.replicate (if its.toArray.isEmpty = true then 0 else k.toNat) its.toArray) = (List.replicate k.toNat its).flatten.toArray := by
    have f0 : ∀ m : Nat, List.foldl (fun x1 x2 => x1 ++ x2) #[] (List.replicate m its.toArray) = (List.replicate m its).flatten.toArray := fun m => by
      have := foldl_rep its m []
      rw [List.nil_append] at this
      exact this
    rw [f0]
    cases its with
    | nil => simp
    | cons a r' => rw [if_neg (by simp)]
  refine wpAny_binaryOp_repeat_ref (T := "list") (U := "int") (by decide) ⟨_, e, rfl⟩ (fun s' => typeIs_int s' k t) noFill_list_mul F.fills_int_mul F.slot_int_rmul repeat_list F.slot_int_index.lookup
    (call_meets F.slot_int_rmul (typeIs_int s k t) F.entry_int_rmul (F.args_int_rmul_2 _ _) (int___rmul___int_list k t l its.toArray n)
      ⟨e, rfl, ⟨_, e, rfl⟩, call_meets F.slot_list_mul ⟨_, e, rfl⟩ F.entry_list_mul (F.args_list_mul_2 _ _) (AutoListH.list___mul___list_int_3 l its.toArray n k t hfit hcap hlong) ⟨e, ?_⟩⟩)
  rw [hnew]
  exact ⟨.ref _, _, I.lnew (t' := s.toks) (r.rep k.toNat) (by rw [len_rep, Nat.mul_comm]; exact hz), rfl, q _ I.fresh⟩

/-! ### del xs[i] -/
theorem del_list {pins : List (Addr × Obj)} {s : Shared} {σ : St} {H : Hp} {l : Addr} {xs : List V} {i : Int} {t : Tok} {k : Nat} {Q : Unit → Shared → Prop} (I : Inv X pins σ H s) (hH : H l = some (.lst xs))
    (h1 : -(2 ^ 63) ≤ i) (h2 : i < 2 ^ 63) (hk : seqIndex? i xs.length = some k) (h : ∀ s', Inv X pins σ (upd H l (.lst (xs.eraseIdx k))) s' → Q () s') :
    wpAny (model X.prog X.w) X.A (delItem (.ref l) (.int i t)) Q X.xe s := by
  obtain ⟨z, its, n, r, hl, e⟩ := I.lstM hH
  refine PySem.P.delItem_list (k := k) e (fitsIndex_both h1 h2) (by rw [List.size_toArray, ← hl]; exact hk) (h _ ?_) (by rw [List.size_toArray]; omega)
  refine I.lset (its' := its.eraseIdx k) (t' := s.toks) hH e ?_ (r.eraseIdx k) ?_
  · show its.toArray.eraseIdxIfInBounds k = (its.eraseIdx k).toArray
    rw [List.eraseIdxIfInBounds_toArray]
  · have := len_erase xs k
    omega
end

/-! ### xs[a:b] = ys -/
section
variable {prog : Program} {w : World} {A : Around} {E : Value → Shared → Prop} {s : Shared}
theorem splice_eq (its its2 : List Value) (a c : Nat) : its.toArray.extract 0 a ++ its2.toArray ++ its.toArray.extract c its.toArray.size = (its.take a ++ its2 ++ its.drop c).toArray := by
  apply Array.toList_inj.mp
  first
    | (simp
       exact List.take_of_length_le (by simp))
    | simp [List.take_of_length_le]
    | simp
theorem bounds_run {a c n : Nat} (hac : a ≤ c) (hc : c ≤ n) : sliceBounds (some (a : Int)) (some (c : Int)) none n = ((a : Int), (c : Int), 1) := by
  simp only [sliceBounds, Option.getD_none]
  have h1 : ¬ ((a : Int) < 0) := by omega
  have h2 : ¬ ((c : Int) < 0) := by omega
  simp only [h1, h2, if_false, show (1 : Int) > 0 by decide, if_true]
  congr 1
  · omega
  · congr 1; omega
set_option maxRecDepth 100000 in
/-- list.__setitem__ with a slice of step one and another list -/
theorem setItem_slice {l b sl : Addr} {items new : Array Value} {n n2 : Nat} {vl vu : Value} {a c : Nat} {Q : Unit → Shared → Prop}
    (e : s.heap.get? l = some { cls := .type "list", data := .seq items n }) (e2 : s.heap.get? b = some { cls := .type "list", data := .seq new n2 }) (hne : l ≠ b)
    (hs : s.heap.IsSliceOf sl vl vu .none) (pl : IsPart vl (some (a : Int))) (pu : IsPart vu (some (c : Int))) (hac : a ≤ c) (hc : c ≤ items.size)
    (hsz : items.size + new.size ≤ sizeLine) (h : Q () { s with heap := s.heap.update l (Obj.mapSeq fun xs => xs.extract 0 a ++ new ++ xs.extract c xs.size) }) :
    wpAny (model prog w) A (setItem (.ref l) (.ref sl) (.ref b)) Q E s := by
  have hl : s.heap.IsList l items := PySem.IsL.isList e
  have hb : s.heap.IsList b new := PySem.IsL.isList e2
  obtain ⟨os, hos, hcs, hds⟩ := id hs
  have hTs : s.TypeIs (.ref sl) "slice" := ⟨os, hos, hcs⟩
  have hstep : ¬ ((rawPart none == rawInt 0) = true) := Bool.false_ne_true
  have hsame : Builtin.List.listSameRef (.ref l) (.ref b) = false := by
    unfold Builtin.List.listSameRef
    exact beq_eq_false_iff_ne.mpr hne
  have hmax : (max (a : Int) (c : Int)).toNat = c := by omega
  have hz' : ((fun xs : Array Value => xs.extract 0 a ++ new ++ xs.extract c xs.size) items).size ≤ sizeLine + 1 := by
    simp only [Array.size_append, Array.size_extract]
    omega
  unfold setItem
  try with_reducible refine wpAny_holding ?_
  first | refine wpAny_bind (wpAny_pure ?_) | skip
  refine wpAny_bind (wpAny_sequenceKey hl.typeIs (by decide) ?_)
  refine wpAny_bind (wpAny_callSpecial?_slot (name := Str.ofString "__setitem__") hl.typeIs slot_list_setitem
    (wpAny_call_entry slot_list_setitem hl.typeIs entry_list_setitem ?_ (args_list_setitem _ _ _)))
  show wpAny _ _ (Builtin.List.listSubscript? (.ref sl) >>= _) _ _ s
  refine wpAny_bind ?_
  unfold Builtin.List.listSubscript?
  refine wpAny_bind (wpAny_specialOf hTs slice_no_index ?_)
  simp only [Option.isNone_none, if_true]
  refine wpAny_pure ?_
  show wpAny _ _ (typeOf (.ref sl) >>= _) _ _ s
  refine wpAny_bind (wpAny_typeOf hTs ?_)
  first
    | rw [if_neg (by decide)]
    | refine PySem.W.KFB.if_not (by decide) ?_
  rw [listSliceParts_eq]
  refine wpAny_bind (wpAny_bind (wpAny_field hos hds (x := .none) rfl (wpAny_bind (wpAny_listPart .none ?_))))
  rw [if_neg hstep]
  refine wpAny_bind (wpAny_field hos hds (x := vl) rfl (wpAny_bind (wpAny_listPart pl ?_)))
  refine wpAny_bind (wpAny_field hos hds (x := vu) rfl (wpAny_bind (wpAny_listPart pu (wpAny_pure ?_))))
  first
    | simp only [hsame, Bool.false_eq_true, if_false]
    | refine PySem.W.KFB.if_not hsame ?_
    | (dsimp only
       rw [if_neg (by rw [hsame]; exact Bool.false_ne_true)])
  refine wpAny_bind (m := Builtin.List.listAllItems (.ref b) "must assign iterable to extended slice") ?_
  unfold Builtin.List.listAllItems
  refine wpAny_bind (wpAny_typeOf hb.typeIs ?_)
  first
    | refine PySem.W.KFB.if_so (by decide) ?_
    | rw [if_pos (by decide)]
    | simp only [beq_self_eq_true, Bool.true_or, if_true]
  unfold Builtin.List.listItems
  refine wpAny_bind (wpAny_seqItems e2 rfl (wpAny_pure ?_))
  refine wpAny_bind (wpAny_bind (wpAny_seqItems e rfl (wpAny_pure ?_)))
  refine wpAny_bind (wpAny_of_eq ((sliceIndices_raw (some (a : Int)) (some (c : Int)) none items.size (by simp)).trans (congrArg (pure : Int × Int × Int → Sem (Int × Int × Int)) (bounds_run hac hc))) ?_)
  show wpAny _ _ (if ((1 : Int) == 1) = true then _ else _) _ _ s
  rw [if_pos (by decide)]
  refine wpAny_bind (wpAny_rule ?_)
  first
    | simp only [notLongL hsz, Bool.false_eq_true, if_false]
    | refine PySem.W.KFB.if_not (notLongL hsz) ?_
  first | refine wpAny_bind (wpAny_pure ?_) | skip
  show wpAny _ _ (updateSeq l (fun xs => xs.extract 0 ((a : Int)).toNat ++ new ++ xs.extract (max (a : Int) (c : Int)).toNat xs.size) >>= _) _ _ s
  rw [hmax, Int.toNat_natCast]
  refine wpAny_bind (wpAny_updateSeq (hz := Nat.le_trans (Nat.le_add_right _ _) hsz) (_hz' := hz') e rfl ?_)
  refine wpAny_bind (wpAny_letGo ?_)
  first
    | exact wpAny_bind (wpAny_pure (wpAny_pure ⟨.none, rfl, wpAny_pure h⟩))
    | exact wpAny_pure ⟨.none, rfl, wpAny_pure h⟩
end

section
variable {X : Cx}
/-- xs[a:c] = ys of another list, at the value level: sl is the slice object that was just made -/
theorem set_slice {pins : List (Addr × Obj)} {s : Shared} {σ : St} {H : Hp} {l b sl : Addr} {xs ys : List V} {a c : Int} {vl vu : Value} {Q : Unit → Shared → Prop} (I : Inv X pins σ H s)
    (hH : H l = some (.lst xs)) (hB : H b = some (.lst ys)) (hne : l ≠ b) (hs : s.heap.IsSliceOf sl vl vu .none) (ra : RelV (.int a) vl) (rc : RelV (.int c) vu) (h0 : 0 ≤ a) (hac : a ≤ c) (hc : c ≤ xs.length)
    (hz : xs.length + ys.length ≤ sizeLine) (h : ∀ s', Inv X pins σ (upd H l (.lst (xs.take a.toNat ++ ys ++ xs.drop c.toNat))) s' → Q () s') :
    wpAny (model X.prog X.w) X.A (setItem (.ref l) (.ref sl) (.ref b)) Q X.xe s := by
  obtain ⟨ta, rfl⟩ := ra
  obtain ⟨tc, rfl⟩ := rc
  obtain ⟨z, its, n, r, hl, e⟩ := I.lstM hH
  obtain ⟨z2, its2, n2, r2, hl2, e2⟩ := I.lstM hB
  obtain ⟨a', rfl⟩ := Int.eq_ofNat_of_zero_le h0
  obtain ⟨c', rfl⟩ := Int.eq_ofNat_of_zero_le (Int.le_trans h0 hac)
  simp only [Int.toNat_natCast] at h
  refine setItem_slice (a := a') (c := c') e e2 hne hs (.int _ _) (.int _ _) (by omega) (by rw [List.size_toArray]; omega) (by rw [List.size_toArray, List.size_toArray]; omega) (h _ ?_)
  refine I.lset (its' := its.take a' ++ its2 ++ its.drop c') (t' := s.toks) hH e ?_ (Vals.append (Vals.append (r.take _) r2) (r.drop _)) ?_
  · exact splice_eq its its2 a' c'
  · rw [List.length_append, List.length_append, List.length_take, List.length_drop]
    omega
end
end L2

namespace Att
open PySem PySem.W PySem.Calls PyProof.Rows

/-! ### the script -/
theorem ints_of_wellAll {P : Params} {h : Heap} : ∀ (ns : List Int) (vs : List Value), WellAll P h vs (ns.map WData.int) → IntsAre vs ns := by
  intro ns
  induction ns with
  | nil =>
    intro vs w
    rw [List.map_nil] at w
    cases w
    exact .nil
  | cons n ns ih =>
    intro vs w
    rw [List.map_cons] at w
    cases w with
    | cons a b =>
      cases a
      exact .cons _ _ (ih _ b)

theorem script_of {l : OpenLaw} {n : Nat} (hn : l.most = some n) {P : Params} {h : Heap} {args : List WData} {vals : List Value}
    (hpre : l.row.toRowW.claim.pre args = true) (hwl : WellAll P h vals args) :
    ∃ a vs ns, vals = [Value.ref a] ∧ args = [WData.list (ns.map WData.int)] ∧ h.get? a = some { cls := .type "list", data := .seq vs.toArray } ∧ IntsAre vs ns ∧ ns.length ≤ n := by
  have hsh : WShape.hasAll [] args [.list .int] = true := (pre_splitW hpre).1
  have hc : l.pre.holds [] { args := args } = true := (pre_splitW hpre).2
  obtain ⟨d, r, rfl, h1, h2⟩ := hasAllW_cons hsh
  obtain rfl := hasAllW_nil h2
  obtain ⟨xs, rfl, h3⟩ := hasW_list h1
  obtain ⟨ns, rfl⟩ := items_int h3
  have hlen : ns.length ≤ n := by
    unfold OpenLaw.pre at hc
    have h4 : (WTm.not (.lt (.lit (.int (n : Int))) (.len (.arg 0)))).holds [] { args := [.list (ns.map .int)] } = true := by
      have h4 := (holds_andW hc).1
      rw [hn] at h4
      exact h4
    have h5 := condW_of h4 (w_not (w_lt w_lit (w_len_list (w_arg rfl))))
    rw [List.length_map] at h5
    refine Nat.le_of_not_lt fun q => ?_
    have q' : (n : Int) < ((ns.length : Nat) : Int) := by omega
    first
      | (rw [decide_eq_true q'] at h5; exact absurd h5 (by decide))
      | (simp at h5; omega)
  cases hwl with
  | cons w1 w2 =>
    cases w2
    cases w1 with
    | list ho hall => exact ⟨_, _, ns, rfl, rfl, ho, ints_of_wellAll ns _ hall, hlen⟩

theorem post_true (l : OpenLaw) (args : List WData) : l.row.toRowW.claim.post args (.bool true) args = true :=
  postW_of (r := l.row.toRowW) (X := (true == true))
    (show WShape.has [] (.bool true) .bool = true by first | rfl | decide | simp [WShape.has, WShape.arms, WShape.armsAll])
    (show (WTm.eq .res (.lit (.bool true))).value [] { args := args, res := some (.bool true), after := args } = some (.bool (true == true)) from w_eq_bool (w_res rfl) w_lit) rfl

/-! ### the attachment: holds_open's last premise (the goal 'hc' behind k_head) from a wpAny of the law's body -/
theorem attach {l : OpenLaw} {n : Nat} {q : Program} {loose : List Str} {XP : (Str → Option Value) → Heap → Prop} {YP : World → Heap → Prop} {d : DefRec} {x : Str}
    (hn : l.most = some n) (hdf : d.params.defaults = [])
    (hbind : ∀ pm cd doc v : Value, bindArgs (docDef d.name d.params d.body d.scope pm cd doc) ⟨[v], []⟩ = pure [(x, v)])
    (hx : d.scope.names.lookup x = some .local ∨ d.scope.names.lookup x = some .cell)
    (hk : d.scope.kind = .function) (hco : d.scope.isCoroutine = false) (hgen : d.scope.isGenerator = false)
    (body : ∀ (w : World) (s₀ s₁ s : Shared) (mg mb : Str → Option Value) (fa : Addr) (o : Obj) (pm cd doc : Value) (a : Addr) (vs : List Value) (ns : List Int),
      Ground q loose [] XP w s₀ mg mb s₁.heap → YP w s₁.heap →
      s₁.heap.get? fa = some o → o.data = .func (docDef d.name d.params d.body d.scope pm cd doc) → s₁.heap.CodeRec cd d.name → mg d.name = some (.ref fa) →
      s₁.heap.get? a = some { cls := .type "list", data := .seq vs.toArray } → IntsAre vs ns → ns.length ≤ n →
      s.gens = #[] → s.os = s₁.os →
      Fr s₁.heap s₁.heap.objs.size s.heap (bindL (envOfC d.name d.scope s₁.heap.objs.size fa cd).kindOf [(x, .ref a)] fun _ => none) →
      Cl s₁.heap.objs.size (cellsFrom (s₁.heap.objs.size + 1) d.scope.names []) s.heap (bindC (envOfC d.name d.scope s₁.heap.objs.size fa cd).kindOf [(x, .ref a)] fun _ => none) →
      wpAny (model l.prog w) (callerA.deeper (envOfC d.name d.scope s₁.heap.objs.size fa cd)) (execs d.body (envOfC d.name d.scope s₁.heap.objs.size fa cd))
        (fun f s' => f = .ret (.bool true) ∧ OldK s₁.heap s'.heap ∧ s'.os = s₁.os ∧ AllBare s'.gens) (fun _ _ => False) s) :
    WalkO q loose XP YP l.row.toRowW d [] (fun f vs => PySem.call f vs) := by
  intro w s₀ s₁ mg mb G Y fa o pm cd doc dV kV ho hd hcd hD hmg hg args vals as hpre hlay hrd hwl hlo
  obtain rfl : dV = .none := Dflts.none hD hdf
  obtain rfl : kV = .none := Dflts.noKw hD
  obtain ⟨a, vs, ns, rfl, rfl, hobj, hints, hlen⟩ := script_of hn hpre hwl
  refine enter_call ?_
  refine call_cells_ret (o := o) (by rw [depth_caller]; decide) ho (fd_plain hd) G.T.nolimit hcd (hbind pm cd doc (.ref a)) (fun y hy => ?_) (fun h₁ tk F X => ?_) hco hgen hk
  · obtain rfl : y = (x, Value.ref a) := List.mem_singleton.mp hy
    rcases hx with e | e
    · exact .inl e
    · exact .inr ⟨e, cellsFrom_some _ _ _ (.inl e)⟩
  · refine wpAny_mono (body w s₀ s₁ { s₁ with heap := h₁, toks := tk } mg mb fa o pm cd doc a vs ns G Y ho (fd_plain hd) hcd hmg hobj hints hlen hg rfl F X) (fun f s' hq => ?_) (fun _ _ hq => hq)
    obtain ⟨rfl, h2, h3, h4⟩ := hq
    exact ⟨.inl ⟨.bool true, .bool true, [], rfl, fun _ => rfl, .bool true, post_true l _, fun _ => ⟨List.Pairwise.nil, fun _ hm => (nomatch hm)⟩⟩, h2, h3, h4⟩

/-- the same from a codeAny of the CALL (for a layer whose function contracts speak of calls) -/
theorem attach_call {l : OpenLaw} {n : Nat} {q : Program} {loose : List Str} {XP : (Str → Option Value) → Heap → Prop} {YP : World → Heap → Prop} {d : DefRec}
    (hn : l.most = some n) (hdf : d.params.defaults = [])
    (call : ∀ (w : World) (s₀ s₁ : Shared) (mg mb : Str → Option Value) (fa : Addr) (o : Obj) (pm cd doc : Value) (a : Addr) (vs : List Value) (ns : List Int),
      Ground q loose [] XP w s₀ mg mb s₁.heap → YP w s₁.heap →
      s₁.heap.get? fa = some o → o.data = .func (docDef d.name d.params d.body d.scope pm cd doc) → s₁.heap.CodeRec cd d.name → mg d.name = some (.ref fa) →
      s₁.heap.get? a = some { cls := .type "list", data := .seq vs.toArray } → IntsAre vs ns → ns.length ≤ n → s₁.gens = #[] →
      codeAny (model l.prog w) callerA (.call (.ref fa) ⟨[.ref a], []⟩) (fun r s' => r = .ok (.ret (.bool true)) ∧ OldK s₁.heap s'.heap ∧ s'.os = s₁.os ∧ AllBare s'.gens) s₁) :
    WalkO q loose XP YP l.row.toRowW d [] (fun f vs => PySem.call f vs) := by
  intro w s₀ s₁ mg mb G Y fa o pm cd doc dV kV ho hd hcd hD hmg hg args vals as hpre hlay hrd hwl hlo
  obtain rfl : dV = .none := Dflts.none hD hdf
  obtain rfl : kV = .none := Dflts.noKw hD
  obtain ⟨a, vs, ns, rfl, rfl, hobj, hints, hlen⟩ := script_of hn hpre hwl
  refine enter_call (codeAny_mono (call w s₀ s₁ mg mb fa o pm cd doc a vs ns G Y ho (fd_plain hd) hcd hmg hobj hints hlen hg) fun r s' hq => ?_)
  obtain ⟨rfl, h2, h3, h4⟩ := hq
  exact ⟨.inl ⟨.bool true, .bool true, [], rfl, fun _ => rfl, .bool true, post_true l _, fun _ => ⟨List.Pairwise.nil, fun _ hm => (nomatch hm)⟩⟩, h2, h3, h4⟩

/-- the same where the top left finished generators (o_head chose holds_openN): nothing may have changed at all and no generator may be left -/
theorem attachN {l : OpenLaw} {n : Nat} {q : Program} {loose : List Str} {XP : (Str → Option Value) → Heap → Prop} {YP : World → Heap → Prop} {d : DefRec} {x : Str}
    (hn : l.most = some n) (hdf : d.params.defaults = [])
    (hbind : ∀ pm cd doc v : Value, bindArgs (docDef d.name d.params d.body d.scope pm cd doc) ⟨[v], []⟩ = pure [(x, v)])
    (hx : d.scope.names.lookup x = some .local ∨ d.scope.names.lookup x = some .cell)
    (hk : d.scope.kind = .function) (hco : d.scope.isCoroutine = false) (hgen : d.scope.isGenerator = false)
    (body : ∀ (w : World) (s₀ s₁ s : Shared) (mg mb : Str → Option Value) (fa : Addr) (o : Obj) (pm cd doc : Value) (a : Addr) (vs : List Value) (ns : List Int),
      Ground q loose [] XP w s₀ mg mb s₁.heap → YP w s₁.heap →
      s₁.heap.get? fa = some o → o.data = .func (docDef d.name d.params d.body d.scope pm cd doc) → s₁.heap.CodeRec cd d.name → mg d.name = some (.ref fa) →
      s₁.heap.get? a = some { cls := .type "list", data := .seq vs.toArray } → IntsAre vs ns → ns.length ≤ n →
      s.gens = #[] → s.os = s₁.os →
      Fr s₁.heap s₁.heap.objs.size s.heap (bindL (envOfC d.name d.scope s₁.heap.objs.size fa cd).kindOf [(x, .ref a)] fun _ => none) →
      Cl s₁.heap.objs.size (cellsFrom (s₁.heap.objs.size + 1) d.scope.names []) s.heap (bindC (envOfC d.name d.scope s₁.heap.objs.size fa cd).kindOf [(x, .ref a)] fun _ => none) →
      wpAny (model l.prog w) (callerA.deeper (envOfC d.name d.scope s₁.heap.objs.size fa cd)) (execs d.body (envOfC d.name d.scope s₁.heap.objs.size fa cd))
        (fun f s' => f = .ret (.bool true) ∧ (∀ b o, s₁.heap.get? b = some o → s'.heap.get? b = some o) ∧ s'.os = s₁.os ∧ s'.gens = #[]) (fun _ _ => False) s) :
    WalkN q loose XP YP l.row.toRowW d [] (fun f vs => PySem.call f vs) := by
  intro w s₀ s₁ mg mb G Y fa o pm cd doc dV kV ho hd hcd hD hmg hg args vals as hpre hlay hrd hwl hlo
  obtain rfl : dV = .none := Dflts.none hD hdf
  obtain rfl : kV = .none := Dflts.noKw hD
  obtain ⟨a, vs, ns, rfl, rfl, hobj, hints, hlen⟩ := script_of hn hpre hwl
  refine enter_callW ?_
  refine call_cells_ret (o := o) (by rw [depth_caller]; decide) ho (fd_plain hd) G.T.nolimit hcd (hbind pm cd doc (.ref a)) (fun y hy => ?_) (fun h₁ tk F X => ?_) hco hgen hk
  · obtain rfl : y = (x, Value.ref a) := List.mem_singleton.mp hy
    rcases hx with e | e
    · exact .inl e
    · exact .inr ⟨e, cellsFrom_some _ _ _ (.inl e)⟩
  · refine wpAny_mono (body w s₀ s₁ { s₁ with heap := h₁, toks := tk } mg mb fa o pm cd doc a vs ns G Y ho (fd_plain hd) hcd hmg hobj hints hlen hg rfl F X) (fun f s' hq => ?_) (fun _ _ hq => hq)
    obtain ⟨rfl, h2, h3, h4⟩ := hq
    exact ⟨.inl ⟨.bool true, .bool true, [], rfl, fun _ => rfl, .bool true, post_true l _, fun _ => ⟨List.Pairwise.nil, fun _ hm => (nomatch hm)⟩⟩, h2, h3, h4⟩

/-! ### rules over ANY heap (no ledger) from facts about the written part K: the library's own take a ledger (News) for what they write -/
section
variable {prog : Program} {w : World} {A : Around} {E : Value → Shared → Prop} {s : Shared} {K : Frag}

/-- a def of the module, or a method (qual 'C.m'), entered: the frame is the next address; cells behind it -/
theorem call_fn {R : Result → Shared → Prop} {name qual : Str} {params : Arguments} {body : List Stmt} {scope : Scope} {dV kV doc pm cdv ct oc : Value} {an od : Option Addr} {osl : Array (Option Value)} {f : Addr} {args : Args} {binds : List (Str × Value)}
    (X : K.In s.heap) (hlim : s.heap.NoLimit) (ho : K.lookup f = some ⟨oc, od, .func (fnOf name qual params body scope dV kV doc pm an cdv ct), osl⟩) (hcd : codeIn K cdv qual = true) (hroom : A.depth < recursionLimit)
    (hbind : BindsTo s (fnOf name qual params body scope dV kV doc pm an cdv ct) args binds)
    (hkind : (binds.all fun y => scope.names.lookup y.1 == some .local || scope.names.lookup y.1 == some .cell) = true)
    (h : ∀ s₁, InCallC s s.heap.objs.size (bindL (envOfC qual scope s.heap.objs.size f cdv).kindOf binds fun _ => none) (cellsFrom (s.heap.objs.size + 1) scope.names [])
        (bindC (envOfC qual scope s.heap.objs.size f cdv).kindOf binds fun _ => none) s₁ →
      wpAny (model prog w) (A.deeper (envOfC qual scope s.heap.objs.size f cdv)) (execs body (envOfC qual scope s.heap.objs.size f cdv))
        (fun fl s' => R (.ok (.ret (match fl with | .ret v => v | _ => .none))) s')
        (fun e s' => wpAny (model prog w) (A.deeper (envOfC qual scope s.heap.objs.size f cdv)) (leaving (envOfC qual scope s.heap.objs.size f cdv) e) (fun _ s'' => R (.error e) s'') (fun e' s'' => R (.error e') s'') s') s₁)
    (hco : scope.isCoroutine = false) (hgen : scope.isGenerator = false) (hk : scope.kind = .function) : codeAny (model prog w) A (.call (.ref f) args) R s := by
  refine codeAny_call_function hroom (X _ _ ho) rfl hco hgen rfl (codeRec_of X hcd) (hbind _ _ _ _ ?_)
  refine wpAny_newFunctionEnv_cells hk (kindsX hkind _) fun env he s₁ x => ?_
  subst he
  exact ⟨hlim.keeps x.toInCall.keep, codeAny_func (h s₁ x)⟩

/-- C(..): dict at size, instance at size + 1, then __init__ -/
theorem make_obj {R : Result → Shared → Prop} {C fI : Addr} {rest : List Value} {kw : List (Str × Value)}
    (X : K.In s.heap) (hm : makesIn K C = true) (hi : findIn K (.ref C) "__init__" = some (some (.ref fI))) (hf : isFn K (.ref fI) = true)
    (h : codeAny (model prog w) (A.under (.builtin "type.__call__" ⟨.ref C :: rest, kw⟩)) (.call (.ref fI) ⟨.ref (s.heap.objs.size + 1) :: rest, kw⟩) (InitBack (s.heap.objs.size + 1) R)
      { s with heap := (s.heap.push emptyDict).push (instObj C s.heap.objs.size) }) : codeAny (model prog w) A (.call (.ref C) ⟨rest, kw⟩) R s := by
  obtain ⟨hh, g, d, t, os⟩ := s
  exact make_core (makes_of X hm) (looks_findIn X hi) (fun self => bind_fn X self (beq_iff_eq.mp hf)) (.inl rfl) h

/-- x.name where the instance's dict holds the name and the class does not -/
theorem get_field {x C : Addr} {ox : Obj} {es : List DictEntry} {n : Nat} {name : Str} {expr : Bool} {v : Value} {Q : Value → Shared → Prop}
    (X : K.In s.heap) (I : PySem.W.InstAt s.heap x ox C (some (dictOf es n))) (hg : plainGet K C name = true) (hh : hasDictIn K C = true) (ha : findIn K (.ref C) name = some none)
    (hl : getL name es = some (some v)) (hv : handedIn v = true) (h : Q v { s with toks := s.toks + 1 }) : wpAny (model prog w) A (getAttr (.ref x) name expr) Q E s :=
  get_value X I (plainGet_of hg).1 (findObj_own hh ha rfl hl) hv h

/-- x.m(..): the method found in the class -/
theorem get_method {x C f : Addr} {ox : Obj} {es : List DictEntry} {n : Nat} {name : Str} {pl : Sem Bool} {Q : Value × List Value → Shared → Prop}
    (X : K.In s.heap) (I : PySem.W.InstAt s.heap x ox C (some (dictOf es n))) (hg : plainGet K C name = true) (hf : findIn K (.ref C) name = some (some (.ref f))) (ht : isFn K (.ref f) = true)
    (hl : getL name es = some none) (h : Q (.ref f, [.ref x]) s) : wpAny (model prog w) A (getMethod (.ref x) name pl) Q E s :=
  method_fn X I (plainGet_of hg).1 (plainGet_of hg).2 hf (beq_iff_eq.mp ht) (by show (lookIn name (dictOf es n)).map _ = _; rw [lookIn_dict, hl]; rfl) h

/-! the whole heap as the ledger: makes every rule that writes through a ledger a rule over any heap -/
def noObjs (h : Heap) : Heap := { h with objs := #[] }
theorem noObjs_get (h : Heap) (b : Addr) : (noObjs h).get? b = none := by
  cases e : (noObjs h).get? b with
  | none => rfl
  | some o => exact absurd (Heap.lt_size e) (Nat.not_lt_zero _)
def ledger (h : Heap) (L d : Addr) : List (Addr × Obj) := (List.range h.objs.size).filterMap fun a => if a = L ∨ a = d then none else (h.get? a).map fun o => (a, o)
theorem mem_ledger {h : Heap} {L d a : Addr} {o : Obj} : (a, o) ∈ ledger h L d ↔ a ≠ L ∧ a ≠ d ∧ h.get? a = some o := by
  unfold ledger
  rw [List.mem_filterMap]
  constructor
  · rintro ⟨b, _, e⟩
    split at e
    · cases e
    · rename_i hb
      obtain ⟨o', ho, e'⟩ := Option.map_eq_some_iff.mp e
      cases e'
      exact ⟨fun q => hb (.inl q), fun q => hb (.inr q), ho⟩
  · rintro ⟨n1, n2, ho⟩
    refine ⟨a, List.mem_range.mpr (Heap.lt_size ho), ?_⟩
    rw [if_neg (show ¬ (a = L ∨ a = d) from fun q => q.elim n1 n2), ho] <;> rfl
theorem news_ledger {h : Heap} {L d : Addr} {od : Obj} (hne : d ≠ L) (ho : h.get? d = some od) : News (noObjs h) L h ([] ++ (d, od) :: ledger h L d) := by
  rintro ⟨a, o⟩ hp
  rcases List.mem_cons.mp hp with e | hp
  · cases e
    exact ⟨ho, hne, noObjs_get _ _⟩
  · obtain ⟨n1, n2, e⟩ := mem_ledger.mp hp
    exact ⟨e, n1, noObjs_get _ _⟩
theorem fr_all {h : Heap} {L : Addr} {m : Str → Option Value} (n : h.Ns L m) : Fr (noObjs h) L h m :=
  ⟨n, fun b o e => (by rw [noObjs_get] at e; cases e), Nat.zero_le _⟩
/-- Upd of the head entry (for append_K, setItem_K ..) -/
theorem upd_ledger {h : Heap} {L d : Addr} {o o' : Obj} : Upd d o o' ((d, o) :: ledger h L d) ((d, o') :: ledger h L d) :=
  .head fun ⟨_, _⟩ hp => (mem_ledger.mp hp).2.1

/-- x.name = v over any heap: L is any namespace of the heap (the frame's, say): its map stays, its object is not told; all else but the dict stays -/
theorem set_field {x C dx L : Addr} {ox : Obj} {m : Str → Option Value} {es es' : List DictEntry} {n n' : Nat} {name : Str} {v : Value} {Q : Unit → Shared → Prop}
    (X : K.In s.heap) (I : PySem.W.InstAt s.heap x ox C (some (dictOf es n))) (hd : ox.dict = some dx) (hL : s.heap.Ns L m) (hne : dx ≠ L)
    (hs : findIn K (.ref C) "__setattr__" = some (some (.builtin "object.__setattr__"))) (hp : plainOver K C = true) (ht : takerIn K C name = some none) (hh : hasDictIn K C = true) (hl : (getL name es).isSome = true)
    (e : (putL name (PyData.keyHash w.params name) (.str name (s.toks + 1)) v es, putN name es n) = (es', n')) (hz : es'.length ≤ 1000)
    (h : ∀ h' : Heap, h'.Ns L m → h'.get? dx = some (dictOf es' n') → (∀ b o, b ≠ dx → b ≠ L → s.heap.get? b = some o → h'.get? b = some o) → Q () { s with heap := h', toks := s.toks + 2 }) :
    wpAny (model prog w) A (setAttr (.ref x) name v) Q E s := by
  obtain ⟨e1, e2⟩ := Prod.mk.inj e
  have hdx : s.heap.get? dx = some (dictOf es n) := by
    have := I.dict
    rw [hd] at this
    exact this
  refine set_plain X I hs (osa_dict (s := { s with toks := s.toks + 1 }) (h₀ := noObjs s.heap) (L := L) (m := m) (od := dictOf es n) (od' := dictOf es' n') (es := es') (n := n') (pre := []) (post := ledger s.heap L dx)
    (fr_all hL) (news_ledger hne hdx) X I hd hp ht hh hl (fun _ q => nomatch q) (fun ⟨_, _⟩ q => (mem_ledger.mp q).2.1) (by rw [putName_dict, e1, e2]) rfl hz fun h' F' N' => ?_)
  exact h h' F'.ns (N'.get (List.Mem.head _)) fun b o n1 n2 ho => N'.get (List.Mem.tail _ (mem_ledger.mpr ⟨n2, n1, ho⟩))
end
end Att

namespace L2
open PySem PySem.Spec PyProof.Rows

theorem vals_ints : ∀ {vs : List Value} {ns : List Int}, IntsAre vs ns → Vals (ns.map V.int) vs
  | _, _, .nil => .nil
  | _, _, .cons n t h => .cons ⟨t, rfl⟩ (vals_ints h)

/-- nothing is tracked but the script, known to the object (or it is an object of the module) -/
def Only (H : Hp) : Prop := ∀ b, H b = none ∨ ∃ o xs, H b = some (.frz o (.lst xs))

/-- THE HEAD: the law's promise, at the heap behind the top. F, the promise of the law's def, may use that base is part of the heap (so K.In base, base.Ns mainGlobals mg stand in Mod) -/
theorem law_call {P : Program} {w : World} {K : PySem.W.Frag} {mg mb : Str → Option Value} {CX : CXT} {k : Nat} {fa a : Addr} {fd : FuncData} {x : Str} {sp : Sp} {s₁ : Shared} {vs : List Value} {ns : List Int}
    (KX : K.In s₁.heap) (hns : s₁.heap.Ns mainGlobals mg) (hb : s₁.heap.Ns builtinsNs mb) (hbb : ∀ x : Str, x ≠ "__name__" → mb x = bootBuiltins x) (hlim : s₁.heap.NoLimit) (hg : s₁.gens = #[])
    (ha : s₁.heap.get? a = some { cls := .type "list", data := .seq vs.toArray }) (hi : IntsAre vs ns) (hl : ns.length ≤ sizeLine) (hr : Room k callerA)
    (F : ∀ base : Heap, K.In base → base.Ns mainGlobals mg → FnOk P w K mg base CX k fa fd [x] sp) (hbind : ∀ (s : Shared) (u : Value), BindsTo s fd ⟨[u], []⟩ [(x, u)])
    (hsp : ∀ H : Hp, Only H → SqL K H a (ns.map V.int) → sp [.ref a] H (fun v _ => v = .bl true) fun _ _ _ => False)
    (hCX : ∀ H e s', CX [] H s₁ (fun _ _ _ => False) e s' → False) :
    codeAny (model P w) callerA (.call (.ref fa) ⟨[.ref a], []⟩) (fun r s' => r = .ok (.ret (.bool true)) ∧ OldK s₁.heap s'.heap ∧ s'.os = s₁.os ∧ AllBare s'.gens) s₁ := by
  have rv := vals_ints hi
  have lenV := hi.length
  -- from an abstract heap in which nothing but the script may be tracked
  have core : ∀ H : Hp, Only H → SqL K H a (ns.map V.int) → HOk P w H s₁.heap → (∀ b, H b ≠ none → b = a) → (H a ≠ none → K.lookup a = none) →
      codeAny (model P w) callerA (.call (.ref fa) ⟨[.ref a], []⟩) (fun r s' => r = .ok (.ret (.bool true)) ∧ OldK s₁.heap s'.heap ∧ s'.os = s₁.os ∧ AllBare s'.gens) s₁ := by
    intro H hO hS hok hA hK
    have base_of : ∀ {b : Addr} {o : Obj}, s₁.heap.get? b = some o → H b = none → (hidT s₁.heap H).get? b = some o := fun e n => hidT_get e n
    have noA : ∀ {b : Addr} {o : Obj} {es : Array DictEntry} {ep : Nat}, s₁.heap.get? b = some o → o.data = .dict es ep → H b = none := fun {b o es ep} e d => by
      cases q : H b with
      | none => rfl
      | some u =>
        have e' : b = a := hA b (by rw [q]; simp)
        subst e'
        rw [ha] at e; cases e
        have d' : Data.seq vs.toArray _ = Data.dict es ep := d
        cases d'
    have nsK : ∀ {b : Addr} {m : Str → Option Value}, s₁.heap.Ns b m → (hidT s₁.heap H).Ns b m := fun {b m} ⟨o, es, ep, e, d, r⟩ => ⟨o, es, ep, base_of e (noA e d), d, r⟩
    have hKb : K.In (hidT s₁.heap H) := fun b o e => base_of (KX b o e) (by
      cases q : H b with
      | none => rfl
      | some u =>
        have e' : b = a := hA b (by rw [q]; simp)
        subst e'
        rw [hK (by rw [q]; simp)] at e; cases e)
    have hM : Mod K mg (hidT s₁.heap H) := ⟨hKb, nsK hns, ⟨mb, nsK hb, hbb⟩, let ⟨mc, h1, h2⟩ := hlim; ⟨mc, nsK h1, h2⟩⟩
    have e0 : Env0 P w K mg (hidT s₁.heap H) callerA [] s₁ H := ⟨rfl, hM, fun b o e => of_hidT e, Nat.le_of_eq (hidT_size _ _), trivial, fun b hb => absurd (show b ∈ ([] : List Addr) from hb) (by simp), hok, .of_eq hg⟩
    refine codeAny_mono ((F _ hKb (nsK hns)).run callerA [] s₁ H ⟨[.ref a], []⟩ [.ref a] [.ref a] _ _ hr e0 (hbind s₁ (.ref a)) (.cons rfl .nil) (hsp H hO hS)) fun r s' h => ?_
    cases r with
    | error e => exact (hCX H e s' h).elim
    | ok fl =>
      cases fl with
      | next => exact False.elim h
      | brk => exact False.elim h
      | cont => exact False.elim h
      | ret u =>
        obtain ⟨v, H', os, bare, un, hok', r', q⟩ := h
        have q' : v = .bl true := q
        subst q'
        obtain rfl : u = Value.bool true := r'
        refine ⟨rfl, OldK.of_keep fun b o e => ?_, os, bare⟩
        cases q : H b with
        | none => exact un.keep b o e q (by intro z; exact absurd (show b ∈ ([] : List Addr) from z) (by simp)) (by simp)
        | some u =>
          rcases hO b with z | ⟨ob, xs, z⟩
          · rw [q] at z; cases z
          · have z2 := un.frzs b ob _ z
            obtain ⟨e1, _⟩ := hok b _ z
            obtain ⟨e2, _⟩ := hok' b _ z2
            rw [e] at e1; cases e1
            exact e2
  cases hk : K.lookup a with
  | some o =>
    -- the script is one of the module's own objects
    have e := KX a o hk
    rw [ha] at e
    cases e
    refine core (fun _ => none) (fun _ => .inl rfl) (.inr ⟨_, vs.toArray, _, hk, rfl, rfl, rfl, by rw [List.size_toArray, lenV]; exact hl, by simpa using rv⟩) (fun b u z => by have z' : (none : Option HO) = some u := z; cases z') (fun b z => absurd rfl z) fun z => absurd rfl z
  | none =>
    refine core (fun b => if b = a then some (.frz { cls := .type "list", data := .seq vs.toArray } (.lst (ns.map V.int))) else none) (fun b => ?_) (.inl (.inr ⟨{ cls := .type "list", data := .seq vs.toArray }, if_pos rfl⟩)) (fun b u z => ?_) (fun b z => ?_) fun _ => hk
    · by_cases hb : b = a
      · exact .inr ⟨_, _, if_pos hb⟩
      · exact .inl (if_neg hb)
    · by_cases hb : b = a
      · have z' := (if_pos hb).symm.trans z
        cases z'
        subst hb
        exact ⟨ha, by rw [List.length_map]; exact hl, vs, _, rv, ha⟩
      · have z' := (if_neg hb).symm.trans z
        cases z'
    · by_cases hb : b = a
      · exact hb
      · exact absurd (if_neg hb) z
end L2

namespace L2
open PySem PySem.Spec PyProof.Rows

abbrev KOf {K : PySem.W.Frag} {h : Heap} (_ : K.In h) : PySem.W.Frag := K

/-- the goal that k_head leaves (case hc), from the law's promise. F gives the function object fd (K's own) once, then the promise over every base -/
theorem walk_of {l : PySem.W.OpenLaw} {n k : Nat} {q : Program} {loose : List Str} {XP : (Str → Option Value) → Heap → Prop} {YP : World → Heap → Prop} {d : DefRec} {K : Params → PySem.W.Frag} {CX : World → CXT} {sp : World → Sp} {x : Str}
    (hn : l.most = some n) (hn2 : n ≤ sizeLine) (hdf : d.params.defaults = []) (hr : Room k callerA)
    (hY : ∀ (w : World) (h : Heap), YP w h → (K w.params).In h)
    (F : ∀ (w : World) (mg : Str → Option Value) (fa : Addr) (h : Heap), (K w.params).In h → h.Ns mainGlobals mg → mg d.name = some (.ref fa) →
      ∃ fd : FuncData, (∀ (s : Shared) (u : Value), BindsTo s fd ⟨[u], []⟩ [(x, u)]) ∧
        ∀ base : Heap, (K w.params).In base → base.Ns mainGlobals mg → FnOk l.prog w (K w.params) mg base (CX w) k fa fd [x] (sp w))
    (hsp : ∀ (w : World) (H : Hp) (a : Addr) (ns : List Int), ns.length ≤ n → Only H → SqL (K w.params) H a (ns.map V.int) → sp w [.ref a] H (fun v _ => v = .bl true) fun _ _ _ => False)
    (hCX : ∀ (w : World) (H : Hp) (s : Shared) (e : Value) (s' : Shared), CX w [] H s (fun _ _ _ => False) e s' → False) :
    PySem.W.WalkO q loose XP YP l.row.toRowW d [] (fun f vs => PySem.call f vs) := by
  refine Att.attach_call hn hdf fun w s₀ s₁ mg mb fa o pm cd doc a vs ns G Y ho hd hcd hmg hobj hints hlen hg => ?_
  have KX := hY w _ Y
  obtain ⟨fd, hb, hF⟩ := F w mg fa _ KX G.T.g hmg
  exact law_call KX G.T.g G.T.b G.T.builtins G.T.nolimit hg hobj hints (Nat.le_trans hlen hn2) hr hF hb (fun H hO hS => hsp w H a ns hlen hO hS) fun H e s' => hCX w H s₁ e s'
/-- the same where the promise hangs on the written part alone: (sp := My.sp_law), no hole under a binder -/
theorem walk_ofK {l : PySem.W.OpenLaw} {n k : Nat} {q : Program} {loose : List Str} {XP : (Str → Option Value) → Heap → Prop} {YP : World → Heap → Prop} {d : DefRec} {K : Params → PySem.W.Frag} {CX : CXT} {sp : PySem.W.Frag → Sp} {x : Str}
    (hn : l.most = some n) (hn2 : n ≤ sizeLine) (hdf : d.params.defaults = []) (hr : Room k callerA)
    (hY : ∀ (w : World) (h : Heap), YP w h → (K w.params).In h)
    (F : ∀ (w : World) (mg : Str → Option Value) (fa : Addr) (h : Heap), (K w.params).In h → h.Ns mainGlobals mg → mg d.name = some (.ref fa) →
      ∃ fd : FuncData, (∀ (s : Shared) (u : Value), BindsTo s fd ⟨[u], []⟩ [(x, u)]) ∧
        ∀ base : Heap, (K w.params).In base → base.Ns mainGlobals mg → FnOk l.prog w (K w.params) mg base CX k fa fd [x] (sp (K w.params)))
    (hsp : ∀ (K : PySem.W.Frag) (H : Hp) (a : Addr) (ns : List Int), ns.length ≤ n → Only H → SqL K H a (ns.map V.int) → sp K [.ref a] H (fun v _ => v = .bl true) fun _ _ _ => False)
    (hCX : ∀ (H : Hp) (s : Shared) (e : Value) (s' : Shared), CX [] H s (fun _ _ _ => False) e s' → False) :
    PySem.W.WalkO q loose XP YP l.row.toRowW d [] (fun f vs => PySem.call f vs) :=
  walk_of (K := K) (CX := fun _ => CX) (sp := fun w => sp (K w.params)) hn hn2 hdf hr hY F (fun w H a ns h1 h2 h3 => hsp (K w.params) H a ns h1 h2 h3) fun _ H s e s' => hCX H s e s'
end L2

/- THE LAST THEOREM (shape; LID, My.* are yours):
   My.Adr: a structure of the addresses that your layer names (classes, functions); My.Txt K t: a structure (Prop) of the equations over K;
   My.txt_mk : {K} {implicit addresses ..} (e1 : nsIn K mainGlobals "law" = some (some (.ref f))) (e2 : K.lookup f = some ⟨oc, od, .func (fnOf "law" "law" params body scope dV kV doc pm an cdv ct), sl⟩) (e3 : codeIn K cdv "law" = true) .. : ∃ t, My.Txt K t

set_option maxRecDepth 100000 in
set_option maxHeartbeats 0 in
theorem PySem.Challenge.cw_LID_holds : PySem.Challenge.rw_LID.Holds := by
  w_on; o_law; k_head; (case hw => w_witness2)
  k_fill
  refine L2.walk_of (l := PySem.Challenge.rw_LID) (n := 63) (k := 40) (x := "script") (CX := fun w => ..) (sp := fun _ => My.sp_law) rfl (by decide) rfl ⟨rfl, by decide, by decide⟩ (fun w h Y => PySem.W.kIn_of Y) ?F ?S ?C
  case F =>
    intro w mg fa h KX G hmg
    have T : ∃ t, My.Txt (L2.KOf KX) t := by
      dsimp only [L2.KOf]                          -- K must stand as «<heap const> w.params» for k_is
      refine' My.txt_mk ?e1 ?e2 ?e3 ..
      (case e1 => PySem.W.k_is)                    -- in the order: a name -> its address -> its object -> its parts
      (case e2 => PySem.W.k_is)
      ..
    obtain ⟨t, T⟩ := T
    have e0 := hmg.symm.trans (PySem.W.mg_of KX G T.law)
    cases e0                                       -- fa is the law's own address
    exact ⟨_, fun s u => .of_eq rfl, fun base kb nb => My.law_fn T kb nb⟩     -- if «.of_eq rfl» comes too early: refine' ⟨_, ?b, fun base kb nb => My.law_fn T kb nb⟩; exact fun s u => .of_eq rfl
  case S => exact fun w H a ns hl hO hS => ..
  case C => exact ..
(the tactic k_is has no namespace: write k_is) -/

/-! SHORT WORDS over the layer: a def of the text, its body, what a loop and a test want. -/
namespace L2
open PySem PySem.Spec PyProof.Rows

/-! ### the text by places -/
/-- the j-th statement of a class's body -/
def inClass (s : Stmt) (j : Nat) : Stmt := match s with
  | .ClassDef _ _ _ body _ _ _ _ _ _ _ => body.getD j (.Pass ⟨0, 0, 0, 0⟩)
  | _ => .Pass ⟨0, 0, 0, 0⟩
def defArgs (s : Stmt) : Arguments := match s with
  | .FunctionDef _ a _ _ _ _ _ _ _ _ => a
  | _ => { posonlyargs := [], args := [], vararg := none, kwonlyargs := [], kw_defaults := [], kwarg := none, defaults := [] }
def defBody (s : Stmt) : List Stmt := match s with
  | .FunctionDef _ _ b _ _ _ _ _ _ _ => b
  | _ => []
def defScope (s : Stmt) : Scope := match s with
  | .FunctionDef _ _ _ _ _ _ sc _ _ _ => sc
  | _ => { kind := .function, names := [], isGenerator := false, isCoroutine := false }

/-! ### no exception leaves a def -/
abbrev CX0 : CXT := fun _ _ _ _ _ _ => False
abbrev E0 : XK := fun _ _ _ => False
theorem pass0 {X : Cx} : Passes CX0 X E0 := fun _ _ _ _ _ _ _ h => h.elim

/-! ### a def (or method) of the text as it stands behind the top -/
structure Fun (K : PySem.W.Frag) (x qual : Str) (st : Stmt) (f : Addr) (fd : FuncData) : Prop where
  ex : ∃ (oc : Value) (od : Option Addr) (kV doc pm : Value) (an : Option Addr) (cdv ct : Value) (osl : Array (Option Value)),
    fd = PySem.W.fnOf x qual (defArgs st) (defBody st) (defScope st) .none kV doc pm an cdv ct ∧ K.lookup f = some ⟨oc, od, .func fd, osl⟩ ∧ PySem.W.codeIn K cdv qual = true
  kp : PySem.W.keepIn K (.ref f) = true
section
variable {P : Program} {w : World} {K : PySem.W.Frag} {mg : Str → Option Value} {base : Heap}
/-- THE RULE for a def: its body as a term of rules, and the reading of that term -/
theorem Fun.ok {x qual : Str} {st : Stmt} {f : Addr} {fd : FuncData} {N ps : List Str} {k : Nat} {sp : Sp} (F : Fun K x qual st f fd) (S : FnScope N ps (defScope st)) (len : ∀ vs H Q E, sp vs H Q E → vs.length = ps.length)
    (hbody : ∀ (cdv : Value) (A : Around) (outer : List Env) (s : Shared) (H : Hp) (vs : List V) (Q : VK) (E : XK), Room k (A.deeper (envOfC qual (defScope st) s.heap.objs.size f cdv)) → sp vs H Q E →
      ∃ t, PSs (cxOf CX0 P w K mg base N qual (defScope st) f cdv A outer s H E).nox (defBody st) t ∧ t { nx := fun _ H' => Q .non H', rt := Q } (start N vs) H) : FnOk P w K mg base CX0 (k + 1) f fd ps sp := by
  obtain ⟨oc, od, kV, doc, pm, an, cdv, ct, osl, rfl, lk, hcd⟩ := F.ex
  refine fn_of lk hcd S len fun A outer s H vs Q E hr hsp => ?_
  obtain ⟨t, h, q⟩ := hbody cdv A outer s H vs Q E hr hsp
  exact ⟨t, h.nox, q⟩
/-- how its arguments bind (no defaults): h is «fun _ _ _ _ _ _ us hl => match us, hl with | [_, _], _ => rfl», one _ a parameter -/
theorem Fun.binds {x qual : Str} {st : Stmt} {f : Addr} {fd : FuncData} {ps : List Str} (F : Fun K x qual st f fd)
    (h : ∀ (kV doc pm : Value) (an : Option Addr) (cdv ct : Value) (us : List Value), us.length = ps.length → bindArgs (PySem.W.fnOf x qual (defArgs st) (defBody st) (defScope st) .none kV doc pm an cdv ct) ⟨us, []⟩ = pure (ps.zip us)) : Binds K fd ps [] := by
  obtain ⟨oc, od, kV, doc, pm, an, cdv, ct, osl, rfl, lk, hcd⟩ := F.ex
  exact .all (h kV doc pm an cdv ct)
theorem fun_mk {x qual : Str} {st : Stmt} {f : Addr} {oc : Value} {od an : Option Addr} {osl : Array (Option Value)} {kV doc pm cdv ct : Value} (l : K.lookup f = some ⟨oc, od, .func (PySem.W.fnOf x qual (defArgs st) (defBody st) (defScope st) .none kV doc pm an cdv ct), osl⟩)
    (c : PySem.W.codeIn K cdv qual = true) (k : PySem.W.keepIn K (.ref f) = true) : Fun K x qual st f (PySem.W.fnOf x qual (defArgs st) (defBody st) (defScope st) .none kV doc pm an cdv ct) := ⟨⟨oc, od, kV, doc, pm, an, cdv, ct, osl, rfl, l, c⟩, k⟩
end
theorem hu_of {A : Around} {k : Nat} (hr : Room k A) : A.units + 1 < cLine := Nat.lt_of_le_of_lt (Nat.add_le_add_left (by decide : 1 ≤ 64) _) hr.units
theorem small1000 {n : Nat} (h : n ≤ 1000) : n < sizeLine := Nat.lt_of_le_of_lt h (by decide)

/-! ### expressions in short: the name that stands in the i-th slot -/
section
variable {X : Cx}
theorem pv (i : Nat) {x : Str} {pos : Pos} (hN : X.N[i]? = some x := by rfl) (hv : Vis X.env.scope x := by first | exact Or.inl rfl | exact Or.inr (Or.inl rfl) | exact Or.inr (Or.inr rfl)) (hd : (x == ("__debug__" : Str)) = false := by decide)
    (hcd : (x == ("__classdict__" : Str)) = false := by decide) : PE X (.Name x pos) (tVar i) := pe_var hN hv hd hcd
end

/-! ### tests -/
theorem iteF {A B : Prop} (h : B) : if false = true then A else B := by
  rw [if_neg Bool.false_ne_true]
  exact h
theorem iteT {A B : Prop} (h : A) : if true = true then A else B := by
  rw [if_pos rfl]
  exact h
theorem ite2 {c A B : Prop} [Decidable c] (h1 : c → A) (h2 : ¬ c → B) : if c then A else B := by
  by_cases h : c
  · rw [if_pos h]
    exact h1 h
  · rw [if_neg h]
    exact h2 h
theorem iteNS {c A B : Prop} [Decidable c] (hc : c) (h : B) : if (!decide c) = true then A else B := by
  rw [decide_eq_true hc]
  exact iteF h

/-! ### heaps -/
/-- all that was tracked is as it was -/
def Same (H H' : Hp) : Prop := ∀ b o, H b = some o → H' b = some o
theorem Same.refl (H : Hp) : Same H H := fun _ _ h => h
theorem Same.trans {H H1 H2 : Hp} (a : Same H H1) (b : Same H1 H2) : Same H H2 := fun c o h => b c o (a c o h)
theorem Same.free {H H' : Hp} (e : Same H H') {l : Addr} (h : H' l = Option.none) : H l = Option.none := by
  cases q : H l with
  | none => rfl
  | some o =>
    rw [e l o q] at h
    cases h
theorem Same.seq {K : PySem.W.Frag} {H H' : Hp} {a : Addr} {xs : List V} (e : Same H H') (h : SqL K H a xs) : SqL K H' a xs := by
  rcases h with (h | ⟨o, h⟩) | h
  · exact .inl (.inl (e _ _ h))
  · exact .inl (.inr ⟨o, e _ _ h⟩)
  · exact .inr h

end L2

section
set_option Elab.async false
set_option linter.all false
set_option maxRecDepth 100000
set_option autoImplicit false
namespace Ng
open PySem PySem.Spec PyProof.Rows L2
abbrev Sg := L2.St

/-! ### plain data, objects, results -/
inductive D where
  | non | bl (b : Bool) | int (i : Int) | str (x : Str) | ty (n : String) | tup (l : List D) | ref (n : Nat)
inductive O where
  | lst (l : List D) | ro (l : List D)
abbrev Hh := List O
abbrev Ev := List (Option D)
inductive Rs (A : Type) where
  | ok (a : A) (h : Hh) | bad
def Rs.bind {A B : Type} : Rs A → (A → Hh → Rs B) → Rs B
  | .ok a h, f => f a h
  | .bad, _ => .bad
theorem Rs.bind_ok {A B : Type} {r : Rs A} {f : A → Hh → Rs B} {b : B} {h' : Hh} (e : r.bind f = .ok b h') : ∃ a h, r = .ok a h ∧ f a h = .ok b h' := by
  cases r with
  | ok a h => exact ⟨a, h, rfl, e⟩
  | bad => cases e

/-! ### how data lie in the abstract heap -/
mutual
inductive RD (K : PySem.W.Frag) (m : List Addr) (H : Hp) : D → V → Prop where
  | non : RD K m H .non .non
  | bl (b : Bool) : RD K m H (.bl b) (.bl b)
  | int (i : Int) : RD K m H (.int i) (.int i)
  | str (x : Str) : RD K m H (.str x) (.str x)
  | ty (n : String) : RD K m H (.ty n) (.ty n)
  | tup {a : Addr} {ds : List D} {vs : List V} (h : SqT K H a vs) (r : RDs K m H ds vs) : RD K m H (.tup ds) (.ref a)
  | ref {n : Nat} {a : Addr} (h : m[n]? = some a) : RD K m H (.ref n) (.ref a)
inductive RDs (K : PySem.W.Frag) (m : List Addr) (H : Hp) : List D → List V → Prop where
  | nil : RDs K m H [] []
  | cons {d : D} {v : V} {ds : List D} {vs : List V} (h : RD K m H d v) (r : RDs K m H ds vs) : RDs K m H (d :: ds) (v :: vs)
end
structure Gr (K : PySem.W.Frag) (m : List Addr) (H : Hp) (m' : List Addr) (H' : Hp) : Prop where
  pre : ∀ (n : Nat) (a : Addr), m[n]? = some a → m'[n]? = some a
  tup : ∀ (a : Addr) (vs : List V), SqT K H a vs → SqT K H' a vs
theorem Gr.refl {K : PySem.W.Frag} {m : List Addr} {H : Hp} : Gr K m H m H := ⟨fun _ _ e => e, fun _ _ e => e⟩
theorem Gr.trans {K : PySem.W.Frag} {m m1 m2 : List Addr} {H H1 H2 : Hp} (a : Gr K m H m1 H1) (b : Gr K m1 H1 m2 H2) : Gr K m H m2 H2 :=
  ⟨fun n x e => b.pre n x (a.pre n x e), fun n x e => b.tup n x (a.tup n x e)⟩
section
variable {K : PySem.W.Frag} {m m' : List Addr} {H H' : Hp}
mutual
theorem RD.mono (g : Gr K m H m' H') : ∀ {d : D} {v : V}, RD K m H d v → RD K m' H' d v
  | _, _, .non => .non
  | _, _, .bl b => .bl b
  | _, _, .int i => .int i
  | _, _, .str x => .str x
  | _, _, .ty n => .ty n
  | _, _, .tup h r => .tup (g.tup _ _ h) (RDs.mono g r)
  | _, _, .ref h => .ref (g.pre _ _ h)
theorem RDs.mono (g : Gr K m H m' H') : ∀ {ds : List D} {vs : List V}, RDs K m H ds vs → RDs K m' H' ds vs
  | _, _, .nil => .nil
  | _, _, .cons h r => .cons (RD.mono g h) (RDs.mono g r)
end
theorem RDs.length : ∀ {ds : List D} {vs : List V}, RDs K m H ds vs → ds.length = vs.length
  | _, _, .nil => rfl
  | _, _, .cons _ r => by simp [RDs.length r]
theorem RDs.get : ∀ {ds : List D} {vs : List V} {i : Nat} {d : D}, RDs K m H ds vs → ds[i]? = some d → ∃ v, vs[i]? = some v ∧ RD K m H d v
  | _, _, _, _, .nil, e => by simp at e
  | _, _, 0, _, .cons h _, e => by simp at e; subst e; exact ⟨_, rfl, h⟩
  | _, _, i + 1, d, .cons _ r, e => by
    obtain ⟨v, h1, h2⟩ := RDs.get (i := i) (d := d) r (by simpa using e)
    exact ⟨v, by simpa using h1, h2⟩
theorem RDs.getV : ∀ {ds : List D} {vs : List V} {i : Nat} {v : V}, RDs K m H ds vs → vs[i]? = some v → ∃ d, ds[i]? = some d ∧ RD K m H d v
  | _, _, _, _, .nil, e => by simp at e
  | _, _, 0, _, .cons h _, e => by simp at e; subst e; exact ⟨_, rfl, h⟩
  | _, _, i + 1, v, .cons _ r, e => by
    obtain ⟨d, h1, h2⟩ := RDs.getV (i := i) (v := v) r (by simpa using e)
    exact ⟨d, by simpa using h1, h2⟩
theorem RDs.append : ∀ {ds es : List D} {vs us : List V}, RDs K m H ds vs → RDs K m H es us → RDs K m H (ds ++ es) (vs ++ us)
  | _, _, _, _, .nil, s => s
  | _, _, _, _, .cons h r, s => .cons h (RDs.append r s)
theorem RDs.set {d : D} {v : V} (q : RD K m H d v) : ∀ {ds : List D} {vs : List V} (i : Nat), RDs K m H ds vs → RDs K m H (ds.set i d) (vs.set i v)
  | _, _, _, .nil => .nil
  | _, _, 0, .cons _ t => .cons q t
  | _, _, i + 1, .cons h t => .cons h (RDs.set q i t)
end
theorem RDs.ints {K : PySem.W.Frag} {m : List Addr} {H : Hp} : ∀ (ns : List Int), RDs K m H (ns.map D.int) (ns.map V.int)
  | [] => .nil
  | n :: ns => .cons (.int n) (RDs.ints ns)

/-- a list that is only read -/
def SqR (K : PySem.W.Frag) (H : Hp) (a : Addr) (xs : List V) : Prop :=
  (∃ o, H a = some (.frz o (.lst xs))) ∨
    ∃ (o : Obj) (its : Array Value) (n : Nat), K.lookup a = some o ∧ o.cls = .type "list" ∧ o.dict = none ∧ o.data = .seq its n ∧ its.size ≤ sizeLine ∧ Vals xs its.toList
theorem SqR.sq {K : PySem.W.Frag} {H : Hp} {a : Addr} {xs : List V} (h : SqR K H a xs) : SqL K H a xs := by
  rcases h with h | h
  · exact .inl (.inr h)
  · exact .inr h
/-- an object -/
def RO (K : PySem.W.Frag) (m : List Addr) (H : Hp) (a : Addr) : O → Prop
  | .lst ds => ∃ vs, H a = some (.lst vs) ∧ RDs K m H ds vs
  | .ro ds => ∃ vs, SqR K H a vs ∧ RDs K m H ds vs
def O.wr : O → Bool
  | .lst _ => true
  | .ro _ => false
structure Wd (K : PySem.W.Frag) (m : List Addr) (h : Hh) (H : Hp) : Prop where
  len : m.length = h.length
  nd : ∀ (i j : Nat) (a : Addr) (o u : O), m[i]? = some a → m[j]? = some a → h[i]? = some o → h[j]? = some u → o.wr = true → u.wr = true → i = j
  ob : ∀ (n : Nat) (o : O) (a : Addr), h[n]? = some o → m[n]? = some a → RO K m H a o
theorem Wd.at {K : PySem.W.Frag} {m : List Addr} {h : Hh} {H : Hp} (w : Wd K m h H) {n : Nat} {o : O} (e : h[n]? = some o) : ∃ a, m[n]? = some a ∧ RO K m H a o := by
  have hn : n < h.length := (List.getElem?_eq_some_iff.mp e).1
  have hm : n < m.length := by rw [w.len]; exact hn
  exact ⟨m[n], List.getElem?_eq_getElem hm, w.ob n o _ e (List.getElem?_eq_getElem hm)⟩

/-- the frame's names -/
def RSt (K : PySem.W.Frag) (m : List Addr) (H : Hp) (r : Ev) (s : Sg) : Prop := r.length = s.length ∧ ∀ (i : Nat) (d : D), r[i]? = some (some d) → ∃ v, s[i]? = some (some v) ∧ RD K m H d v
theorem RSt.mono {K : PySem.W.Frag} {m m' : List Addr} {H H' : Hp} {r : Ev} {s : Sg} (g : Gr K m H m' H') (h : RSt K m H r s) : RSt K m' H' r s :=
  ⟨h.1, fun i d e => let ⟨v, h1, h2⟩ := h.2 i d e; ⟨v, h1, h2.mono g⟩⟩
theorem RSt.set {K : PySem.W.Frag} {m : List Addr} {H : Hp} {r : Ev} {s : Sg} {d : D} {v : V} (h : RSt K m H r s) (i : Nat) (q : RD K m H d v) : RSt K m H (r.set i (some d)) (s.set i (some v)) := by
  refine ⟨by simp [h.1], fun j e he => ?_⟩
  by_cases hij : i = j
  · subst hij
    have hl : i < r.length := by
      have := (List.getElem?_eq_some_iff.mp he).1
      simpa using this
    rw [List.getElem?_set_self hl] at he
    have he' : d = e := by injection he with z; injection z
    subst he'
    exact ⟨v, List.getElem?_set_self (by rw [← h.1]; exact hl), q⟩
  · rw [List.getElem?_set_ne hij] at he
    obtain ⟨u, h1, h2⟩ := h.2 j e he
    exact ⟨u, by rw [List.getElem?_set_ne hij]; exact h1, h2⟩

/-! ### growing and writing -/
theorem SqT.upd_new {K : PySem.W.Frag} {H : Hp} {p : Addr} {o : HO} (hp : H p = none) {a : Addr} {vs : List V} (h : SqT K H a vs) : SqT K (upd H p o) a vs := by
  rcases h with (h | ⟨ob, h⟩) | h
  · exact .inl (.inl (by rw [upd_ne (ne_of_none h hp)]; exact h))
  · exact .inl (.inr ⟨ob, by rw [upd_ne (ne_of_none h hp)]; exact h⟩)
  · exact .inr h
theorem SqL.upd_new {K : PySem.W.Frag} {H : Hp} {p : Addr} {o : HO} (hp : H p = none) {a : Addr} {vs : List V} (h : SqL K H a vs) : SqL K (upd H p o) a vs := by
  rcases h with (h | ⟨ob, h⟩) | h
  · exact .inl (.inl (by rw [upd_ne (ne_of_none h hp)]; exact h))
  · exact .inl (.inr ⟨ob, by rw [upd_ne (ne_of_none h hp)]; exact h⟩)
  · exact .inr h
theorem SqT.upd_lst {K : PySem.W.Frag} {H : Hp} {p : Addr} {xs : List V} {o : HO} (hp : H p = some (.lst xs)) {a : Addr} {vs : List V} (h : SqT K H a vs) : SqT K (upd H p o) a vs := by
  rcases h with (h | ⟨ob, h⟩) | h
  · exact .inl (.inl (by rw [upd_ne (ne_of h hp (fun z => nomatch z))]; exact h))
  · exact .inl (.inr ⟨ob, by rw [upd_ne (ne_of h hp (fun z => nomatch z))]; exact h⟩)
  · exact .inr h
theorem SqR.upd_new {K : PySem.W.Frag} {H : Hp} {p : Addr} {o : HO} (hp : H p = none) {a : Addr} {vs : List V} (h : SqR K H a vs) : SqR K (upd H p o) a vs := by
  rcases h with ⟨ob, h⟩ | h
  · exact .inl ⟨ob, by rw [upd_ne (ne_of_none h hp)]; exact h⟩
  · exact .inr h
theorem SqR.upd_lst {K : PySem.W.Frag} {H : Hp} {p : Addr} {xs : List V} {o : HO} (hp : H p = some (.lst xs)) {a : Addr} {vs : List V} (h : SqR K H a vs) : SqR K (upd H p o) a vs := by
  rcases h with ⟨ob, h⟩ | h
  · exact .inl ⟨ob, by rw [upd_ne (ne_of h hp (fun z => nomatch z))]; exact h⟩
  · exact .inr h
section
variable {K : PySem.W.Frag} {m : List Addr} {h : Hh} {H : Hp}
/-- a tuple is laid -/
theorem Gr.tupNew {p : Addr} {o : HO} (hp : H p = none) : Gr K m H m (upd H p o) := ⟨fun _ _ e => e, fun _ _ e => SqT.upd_new hp e⟩
/-- what is written is tracked -/
theorem RO.some_of {a : Addr} {o : O} (r : RO K m H a o) (w : o.wr = true) : ∃ u, H a = some u := by
  cases o with
  | lst ds => obtain ⟨vs, h1, _⟩ := r; exact ⟨_, h1⟩
  | ro ds => cases w
theorem RO.keepNew {p a : Addr} {o : HO} {u : O} {m' : List Addr} (hp : H p = none) (g : Gr K m H m' (upd H p o)) (q : RO K m H a u) : RO K m' (upd H p o) a u := by
  cases u with
  | lst ds =>
    obtain ⟨vs, h1, h2⟩ := q
    exact ⟨vs, by rw [upd_ne (ne_of_none h1 hp)]; exact h1, h2.mono g⟩
  | ro ds =>
    obtain ⟨vs, h1, h2⟩ := q
    exact ⟨vs, SqR.upd_new hp h1, h2.mono g⟩
theorem Wd.keepNew (w : Wd K m h H) {p : Addr} {o : HO} (hp : H p = none) : Wd K m h (upd H p o) :=
  ⟨w.len, w.nd, fun n ob a e1 e2 => (w.ob n ob a e1 e2).keepNew hp (Gr.tupNew hp)⟩
/-- a list is laid -/
theorem Wd.lstNew (w : Wd K m h H) {p : Addr} {ds : List D} {vs : List V} (hp : H p = none) (r : RDs K m H ds vs) : Wd K (m ++ [p]) (h ++ [.lst ds]) (upd H p (.lst vs)) ∧ Gr K m H (m ++ [p]) (upd H p (.lst vs)) := by
  have g : Gr K m H (m ++ [p]) (upd H p (.lst vs)) := ⟨fun n a e => by
    rw [List.getElem?_append_left (List.getElem?_eq_some_iff.mp e).1]; exact e, fun _ _ e => SqT.upd_new hp e⟩
  have cs : ∀ (i : Nat) (a : Addr) (o : O), (m ++ [p])[i]? = some a → (h ++ [O.lst ds])[i]? = some o → (i < h.length ∧ m[i]? = some a ∧ h[i]? = some o) ∨ (i = h.length ∧ a = p ∧ o = .lst ds) := by
    intro i a o e1 e2
    by_cases hi : i < h.length
    · rw [List.getElem?_append_left (by rw [w.len]; exact hi)] at e1
      rw [List.getElem?_append_left hi] at e2
      exact .inl ⟨hi, e1, e2⟩
    · have hl := (List.getElem?_eq_some_iff.mp e2).1
      have e : i = h.length := by simp at hl; omega
      subst e
      rw [← w.len] at e1
      simp at e1 e2
      exact .inr ⟨rfl, e1.symm, e2.symm⟩
  have fr : ∀ (i : Nat) (o : O), m[i]? = some p → h[i]? = some o → o.wr = true → False := fun i o e1 e2 hw => by
    obtain ⟨u, hu⟩ := (w.ob i o p e2 e1).some_of hw
    rw [hp] at hu; cases hu
  refine ⟨⟨by simp [w.len], fun i j a o u e1 e2 e3 e4 w1 w2 => ?_, fun n o a e1 e2 => ?_⟩, g⟩
  · rcases cs i a o e1 e3 with ⟨_, x1, x2⟩ | ⟨rfl, rfl, rfl⟩
    · rcases cs j a u e2 e4 with ⟨_, y1, y2⟩ | ⟨rfl, rfl, rfl⟩
      · exact w.nd i j a o u x1 y1 x2 y2 w1 w2
      · exact (fr i o x1 x2 w1).elim
    · rcases cs j a u e2 e4 with ⟨_, y1, y2⟩ | ⟨rfl, _, rfl⟩
      · exact (fr j u y1 y2 w2).elim
      · rfl
  · rcases cs n a o e2 e1 with ⟨_, x1, x2⟩ | ⟨rfl, rfl, rfl⟩
    · exact (w.ob n o a x2 x1).keepNew hp g
    · exact ⟨vs, upd_same, r.mono g⟩
/-- a list is written -/
theorem Wd.lstSet (w : Wd K m h H) {n : Nat} {a : Addr} {ds es : List D} {us : List V} (e1 : h[n]? = some (.lst ds)) (e2 : m[n]? = some a) (r : RDs K m H es us) :
    (∃ vs, H a = some (.lst vs) ∧ RDs K m H ds vs) ∧ Wd K m (h.set n (.lst es)) (upd H a (.lst us)) ∧ Gr K m H m (upd H a (.lst us)) := by
  obtain ⟨vs, ha, rv⟩ : ∃ vs, H a = some (.lst vs) ∧ RDs K m H ds vs := w.ob n _ a e1 e2
  have g : Gr K m H m (upd H a (.lst us)) := ⟨fun _ _ e => e, fun _ _ e => SqT.upd_lst ha e⟩
  have hn : n < h.length := (List.getElem?_eq_some_iff.mp e1).1
  have cs : ∀ (i : Nat) (o : O), (h.set n (.lst es))[i]? = some o → (i = n ∧ o = .lst es) ∨ (i ≠ n ∧ h[i]? = some o) := by
    intro i o e
    by_cases hi : n = i
    · subst hi
      rw [List.getElem?_set_self hn] at e
      exact .inl ⟨rfl, (Option.some.inj e).symm⟩
    · rw [List.getElem?_set_ne hi] at e
      exact .inr ⟨fun z => hi z.symm, e⟩
  refine ⟨⟨vs, ha, rv⟩, ⟨by simp [w.len], fun i j b o u x1 x2 x3 x4 w1 w2 => ?_, fun i o b x1 x2 => ?_⟩, g⟩
  · rcases cs i o x3 with ⟨rfl, rfl⟩ | ⟨ni, y3⟩
    · rcases cs j u x4 with ⟨rfl, rfl⟩ | ⟨nj, y4⟩
      · rfl
      · exact w.nd i j b (.lst ds) u x1 x2 e1 y4 rfl w2
    · rcases cs j u x4 with ⟨rfl, rfl⟩ | ⟨nj, y4⟩
      · exact w.nd i j b o (.lst ds) x1 x2 y3 e1 w1 rfl
      · exact w.nd i j b o u x1 x2 y3 y4 w1 w2
  · rcases cs i o x1 with ⟨rfl, rfl⟩ | ⟨ni, y⟩
    · rw [e2] at x2; cases x2
      exact ⟨us, upd_same, r.mono g⟩
    · have q := w.ob i o b y x2
      cases o with
      | lst xs =>
        obtain ⟨ys, h1, h2⟩ := q
        have nb : b ≠ a := fun z => by
          subst z
          exact ni (w.nd i n b _ _ x2 e2 y e1 rfl rfl)
        exact ⟨ys, by rw [upd_ne nb]; exact h1, h2.mono g⟩
      | ro xs =>
        obtain ⟨ys, h1, h2⟩ := q
        exact ⟨ys, SqR.upd_lst ha h1, h2.mono g⟩
/-- a list that is read -/
def lstOf : O → Option (List D)
  | .lst l => some l
  | .ro l => some l
def lstAt (h : Hh) (n : Nat) : Option (List D) := (h[n]?).bind lstOf
theorem Wd.lst (w : Wd K m h H) {n : Nat} {ds : List D} (e : lstAt h n = some ds) : ∃ a vs, m[n]? = some a ∧ SqL K H a vs ∧ RDs K m H ds vs := by
  unfold lstAt at e
  cases q : h[n]? with
  | none => rw [q] at e; cases e
  | some o =>
    rw [q] at e
    obtain ⟨a, e1, r⟩ := w.at q
    cases o with
    | lst l =>
      obtain rfl : l = ds := Option.some.inj e
      obtain ⟨vs, h1, h2⟩ := r
      exact ⟨a, vs, e1, .of h1, h2⟩
    | ro l =>
      obtain rfl : l = ds := Option.some.inj e
      obtain ⟨vs, h1, h2⟩ := r
      exact ⟨a, vs, e1, h1.sq, h2⟩
end
end Ng

end
section
set_option Elab.async false
set_option linter.all false
set_option maxRecDepth 100000
set_option autoImplicit false
namespace Ng
open PySem PySem.Spec PyProof.Rows L2

/-! ### codes -/
inductive Bop where
  | add | sub | mul | fdiv | mod | pow
inductive Cop where
  | lt | le | gt | ge | eq | ne | is | isnot | inn | notin
inductive Ty where
  | int | bool | str | tuple | list
def Ty.nm : Ty → String
  | .int => "int" | .bool => "bool" | .str => "str" | .tuple => "tuple" | .list => "list"
inductive Blt where
  | len | isinst | int | list
inductive Tg where
  | nm (i : Nat) | tp (l : List Nat)
inductive Ck where
  | r1 | r2 | sq
def setAll : List Nat → List D → Ev → Ev
  | i :: is, d :: ds, r => setAll is ds (r.set i (some d))
  | _, _, r => r
def setT : Tg → D → Ev → Option Ev
  | .nm i, d, r => some (r.set i (some d))
  | .tp l, .tup ds, r => if ds.length = l.length then some (setAll l ds r) else none
  | _, _, _ => none
def rngD (i j : Int) : List D := (List.range (j - i).toNat).map fun (k : Nat) => D.int (i + k)
def okR (j : Int) : Prop := -(2 ^ 62) ≤ j ∧ j < 2 ^ 62
instance (j : Int) : Decidable (okR j) := by unfold okR; infer_instance
mutual
inductive E where
  | var (i : Nat) | int (i : Int) | bl (b : Bool) | non | str (x : Str) | gc (g : Nat) | ty (t : Ty)
  | bin (op : Bop) (a b : E) | neg (a : E) | cmp (op : Cop) (a b : E)
  | and (a b : E) | or (a b : E) | not (a : E) | ite (c a b : E)
  | ix (a b : E) | tup (l : Es) | lst (l : Es) | call (f : Nat) (l : Es) | blt (f : Blt) (l : Es) | app (o e : E)
  | comp (t : Tg) (k : Ck) (it cs : Es) (e : E) (N : List Str) (cap : List Nat)
inductive Es where
  | nil | cons (e : E) (r : Es)
end

/-! ### what they do -/
def truD : D → Hh → Option Bool
  | .non, _ => some false
  | .bl b, _ => some b
  | .int i, _ => some (i != 0)
  | .str y, _ => if y.length ≤ sizeLine then some ((y.length : Int) != 0) else none
  | .tup l, _ => some (!l.isEmpty)
  | .ref n, h => match lstAt h n with
    | some l => some (!l.isEmpty)
    | none => none
  | .ty _, _ => none
def binD : Bop → D → D → Hh → Rs D
  | .add, .int i, .int j, h => .ok (.int (i + j)) h
  | .add, .str x, .str y, h => if x.length + y.length ≤ sizeLine then .ok (.str (x ++ y)) h else .bad
  | .sub, .int i, .int j, h => .ok (.int (i - j)) h
  | .mul, .int i, .int j, h => if (-(2 ^ 64) < i ∧ i < 2 ^ 64) ∨ (-(2 ^ 64) < j ∧ j < 2 ^ 64) then .ok (.int (i * j)) h else .bad
  | .fdiv, .int i, .int j, h => if 0 < j ∧ j < 1073741824 then .ok (.int (i / j)) h else .bad
  | .mod, .int i, .int j, h => if 0 < j then .ok (.int (i % j)) h else .bad
  | .pow, .int i, .int j, h => if 0 ≤ j ∧ j ≤ 1000000 ∧ i.natAbs < 2 ^ 64 then .ok (.int (i ^ j.toNat)) h else .bad
  | _, _, _, _ => .bad
def eqL (f : D → D → Option Bool) : List D → List D → Option Bool
  | [], [] => some true
  | [], _ :: _ => some false
  | _ :: _, [] => some false
  | x :: xs, y :: ys => match f x y, eqL f xs ys with
    | some a, some b => some (a && b)
    | _, _ => none
def eqD : Nat → D → D → Option Bool
  | _, .non, .non => some true
  | _, .non, .int _ => some false
  | _, .int _, .non => some false
  | _, .non, .str _ => some false
  | _, .str _, .non => some false
  | _, .int a, .int b => some (a == b)
  | _, .bl a, .bl b => some (a == b)
  | _, .str a, .str b => some (a == b)
  | _, .int _, .str _ => some false
  | _, .str _, .int _ => some false
  | n + 1, .tup a, .tup b => eqL (eqD n) a b
  | _, _, _ => none
def eqH : D → D → Hh → Option Bool
  | .ref i, .ref j, h => match lstAt h i, lstAt h j with
    | some a, some b => if a.length = b.length then eqL (eqD 20) a b else some false
    | _, _ => none
  | x, y, _ => eqD 20 x y
def isNon : D → Bool
  | .non => true
  | _ => false
def flat : D → Bool
  | .non => true | .bl _ => true | .int _ => true | .str _ => true
  | _ => false
def eqF : D → D → Bool
  | .non, .non => true
  | .bl a, .bl b => a == b
  | .bl a, .int b => (if a then 1 else 0) == b
  | .int a, .bl b => a == (if b then 1 else 0)
  | .int a, .int b => a == b
  | .str a, .str b => a == b
  | _, _ => false
def inD (x : D) (l : List D) (neg : Bool) (h : Hh) : Rs D := if flat x = true ∧ l.all flat = true then .ok (.bl (if neg then !(l.any fun y => eqF y x) else l.any fun y => eqF y x)) h else .bad
def seqD : D → Hh → Option (List D)
  | .tup l, _ => some l
  | .ref n, h => lstAt h n
  | _, _ => none
def cmpD : Cop → D → D → Hh → Rs D
  | .lt, .int i, .int j, h => .ok (.bl (decide (i < j))) h
  | .le, .int i, .int j, h => .ok (.bl (decide (i ≤ j))) h
  | .gt, .int i, .int j, h => .ok (.bl (decide (j < i))) h
  | .ge, .int i, .int j, h => .ok (.bl (decide (j ≤ i))) h
  | .eq, x, y, h => match eqH x y h with
    | some b => .ok (.bl b) h
    | none => .bad
  | .ne, x, y, h => match eqH x y h with
    | some b => .ok (.bl (!b)) h
    | none => .bad
  | .is, x, .non, h => .ok (.bl (isNon x)) h
  | .isnot, x, .non, h => .ok (.bl (!isNon x)) h
  | .inn, x, y, h => match seqD y h with
    | some l => inD x l false h
    | none => .bad
  | .notin, x, y, h => match seqD y h with
    | some l => inD x l true h
    | none => .bad
  | _, _, _, _ => .bad
def ixD (x y : D) (h : Hh) : Rs D := match seqD x h, y with
  | some l, .int i => match atI l i with
    | some d => .ok d h
    | none => .bad
  | _, _ => .bad
def tyD : D → Hh → Option Ty
  | .bl _, _ => some .bool
  | .int _, _ => some .int
  | .str _, _ => some .str
  | .tup _, _ => some .tuple
  | .ref n, h => match lstAt h n with
    | some _ => some .list
    | none => none
  | _, _ => none
def isTy : Ty → String → Bool
  | .bool, s => s == "bool" || s == "int"
  | t, s => t.nm == s
def tyNames : List String := ["int", "bool", "str", "tuple", "list"]
def isinD (x : D) (T : String) (h : Hh) : Option Bool := match x with
  | .non => if T ∈ tyNames then some false else none
  | x => match tyD x h with
    | some t => if T ∈ tyNames then some (isTy t T) else none
    | none => none
def tysOf : List D → Option (List String)
  | [] => some []
  | .ty T :: r => match tysOf r with
    | some l => some (T :: l)
    | none => none
  | _ => none
def isinAny (x : D) (h : Hh) : List String → Option Bool
  | [] => some false
  | T :: r => match isinD x T h, isinAny x h r with
    | some a, some b => some (a || b)
    | _, _ => none
def isinL (x : D) : D → Hh → Rs D
  | .ty T, h => match isinD x T h with
    | some b => .ok (.bl b) h
    | none => .bad
  | .tup l, h => match tysOf l with
    | some [] => .bad
    | some (T :: Ts) => match isinAny x h (T :: Ts) with
      | some b => .ok (.bl b) h
      | none => .bad
    | none => .bad
  | _, _ => .bad
def intL : D → Hh → Rs D
  | .int i, h => .ok (.int i) h
  | .bl b, h => .ok (.int (if b then 1 else 0)) h
  | _, _ => .bad
def lenL (x : D) (h : Hh) : Rs D := match seqD x h with
  | some l => .ok (.int l.length) h
  | none => .bad
def listL (x : D) (h : Hh) : Rs D := match seqD x h with
  | some l => .ok (.ref h.length) (h ++ [.lst l])
  | none => .bad
def one (k : D → Hh → Rs D) : List D → Hh → Rs D
  | [x], h => k x h
  | _, _ => .bad
def two (k : D → D → Hh → Rs D) : List D → Hh → Rs D
  | [x, y], h => k x y h
  | _, _ => .bad
def bltD : Blt → List D → Hh → Rs D
  | .len => one lenL
  | .isinst => two isinL
  | .int => one intL
  | .list => one listL
def appD (x y : D) (h : Hh) : Rs D := match x with
  | .ref n => match h[n]? with
    | some (.lst l) => if l.length < 1000000 then .ok .non (h.set n (.lst (l ++ [y]))) else .bad
    | _ => .bad
  | _ => .bad
def isLst : D → Hh → Bool
  | .ref n, h => (lstAt h n).isSome
  | _, _ => false
/-! ### comprehensions -/
def compS (t : Tg) (cs : Ev → Hh → Rs Bool) (f : Ev → Hh → Rs D) (n0 : Nat) : List D → Ev → Hh → Rs Unit
  | [], _, h => .ok () h
  | d :: ds, r, h => match setT t d r with
    | none => .bad
    | some r1 => (cs r1 h).bind fun b h => if b = true then (f r1 h).bind fun y h => (appD (.ref n0) y h).bind fun _ h => compS t cs f n0 ds r1 h else compS t cs f n0 ds r1 h
def compI (t : Tg) (cs : Ev → Hh → Rs Bool) (f : Ev → Hh → Rs D) (n0 n : Nat) : Nat → Nat → Ev → Hh → Rs Unit
  | 0, _, _, _ => .bad
  | k + 1, i, r, h => match lstAt h n with
    | none => .bad
    | some l => match l[i]? with
      | none => .ok () h
      | some d => match setT t d r with
        | none => .bad
        | some r1 => (cs r1 h).bind fun b h => if b = true then (f r1 h).bind fun y h => (appD (.ref n0) y h).bind fun _ h => compI t cs f n0 n k (i + 1) r1 h else compI t cs f n0 n k (i + 1) r1 h
def compL (t : Tg) (cs : Ev → Hh → Rs Bool) (f : Ev → Hh → Rs D) (n0 : Nat) (k : Ck) (xs : List D) (h0 : Hh) (r : Ev) (h : Hh) : Rs Unit := match k, xs with
  | .r1, [.int j] => if okR j then compS t cs f n0 (rngD 0 j) r h else .bad
  | .r2, [.int i, .int j] => if okR i ∧ okR j then compS t cs f n0 (rngD i j) r h else .bad
  | .sq, [.tup l] => compS t cs f n0 l r h
  | .sq, [.ref n] => match lstAt h0 n with
    | some l => compI t cs f n0 n (l.length + 1) 0 r h
    | none => .bad
  | _, _ => .bad
def capV (r : Ev) (i : Nat) : Option D := match r[i]? with
  | some x => x
  | none => none
def blockE (N : List Str) (cap : List Nat) (r : Ev) : Ev := List.replicate (N.length - cap.length) none ++ cap.map (capV r)
structure Gs where
  fns : List Str
  csts : List (Str × D)
abbrev Cl := Nat → List D → Hh → Rs D
mutual
def ev (G : Gs) (cl : Cl) : E → Ev → Hh → Rs D
  | .var i, r, h => match r[i]? with
    | some (some d) => .ok d h
    | _ => .bad
  | .int i, _, h => .ok (.int i) h
  | .bl b, _, h => .ok (.bl b) h
  | .non, _, h => .ok .non h
  | .str x, _, h => .ok (.str x) h
  | .gc g, _, h => match G.csts[g]? with
    | some p => .ok p.2 h
    | none => .bad
  | .ty t, _, h => .ok (.ty t.nm) h
  | .bin op a b, r, h => (ev G cl a r h).bind fun x h => (ev G cl b r h).bind fun y h => binD op x y h
  | .neg a, r, h => (ev G cl a r h).bind fun x h => match x with
    | .int i => .ok (.int (-i)) h
    | _ => .bad
  | .cmp op a b, r, h => (ev G cl a r h).bind fun x h => (ev G cl b r h).bind fun y h => cmpD op x y h
  | .and a b, r, h => (ev G cl a r h).bind fun x h => match truD x h with
    | some true => ev G cl b r h
    | some false => .ok x h
    | none => .bad
  | .or a b, r, h => (ev G cl a r h).bind fun x h => match truD x h with
    | some true => .ok x h
    | some false => ev G cl b r h
    | none => .bad
  | .not a, r, h => (ev G cl a r h).bind fun x h => match truD x h with
    | some b => .ok (.bl (!b)) h
    | none => .bad
  | .ite c a b, r, h => (ev G cl c r h).bind fun x h => match truD x h with
    | some true => ev G cl a r h
    | some false => ev G cl b r h
    | none => .bad
  | .ix a b, r, h => (ev G cl a r h).bind fun x h => (ev G cl b r h).bind fun y h => ixD x y h
  | .tup l, r, h => (evs G cl l r h).bind fun ds h => if ds.length ≤ 1000 then .ok (.tup ds) h else .bad
  | .lst l, r, h => (evs G cl l r h).bind fun ds h => if ds.length ≤ 1000 then .ok (.ref h.length) (h ++ [.lst ds]) else .bad
  | .call f l, r, h => (evs G cl l r h).bind fun ds h => cl f ds h
  | .blt f l, r, h => (evs G cl l r h).bind fun ds h => bltD f ds h
  | .app o e, r, h => (ev G cl o r h).bind fun x h => if isLst x h = true then (ev G cl e r h).bind fun y h => appD x y h else .bad
  | .comp t k it cs e N cap, r, h => (evs G cl it r h).bind fun xs h => (compL t (evt G cl cs) (ev G cl e) h.length k xs h (blockE N cap r) (h ++ [.lst []])).bind fun _ h' => .ok (.ref h.length) h'
def evt (G : Gs) (cl : Cl) : Es → Ev → Hh → Rs Bool
  | .nil, _, h => .ok true h
  | .cons c l, r, h => (ev G cl c r h).bind fun x h => match truD x h with
    | some true => evt G cl l r h
    | some false => .ok false h
    | none => .bad
def evs (G : Gs) (cl : Cl) : Es → Ev → Hh → Rs (List D)
  | .nil, _, h => .ok [] h
  | .cons e l, r, h => (ev G cl e r h).bind fun d h => (evs G cl l r h).bind fun ds h => .ok (d :: ds) h
end

/-! ### the text is this code -/
def visB (sc : Scope) (x : Str) : Bool := match sc.names.lookup x with
  | some .local => true
  | some .cell => true
  | some .free => true
  | _ => false
def locB (sc : Scope) (x : Str) : Bool := match sc.names.lookup x with
  | some .local => true
  | some .cell => true
  | _ => false
def glB (sc : Scope) (x : Str) : Bool := match sc.names.lookup x with
  | some .globalImplicit => true
  | _ => false
def noDbg (x : Str) : Bool := !(x == ("__debug__" : Str)) && !(x == ("__classdict__" : Str)) && !(x == ("__name__" : Str))
def Bop.op : Bop → Operator
  | .add => .Add | .sub => .Sub | .mul => .Mult | .fdiv => .FloorDiv | .mod => .Mod | .pow => .Pow
def Cop.op : Cop → CmpOp
  | .lt => .Lt | .le => .LtE | .gt => .Gt | .ge => .GtE | .eq => .Eq | .ne => .NotEq | .is => .Is | .isnot => .IsNot | .inn => .In | .notin => .NotIn
def Blt.nm : Blt → Str
  | .len => "len" | .isinst => "isinstance" | .int => "int" | .list => "list"
def noSet : PySem.Expr → Bool
  | .Set _ _ _ => false
  | _ => true
def noStar : PySem.Expr → Bool
  | .Starred _ _ => false
  | _ => true
def noSlice : PySem.Expr → Bool
  | .Slice _ _ _ _ => false
  | _ => true
def relab (scope sc : Scope) : Scope := { scope with names := scope.names.map fun (n, k) => if (k == .free && sc.kind == .function && sc.names.lookup n == some .cell) then (n, .cell) else (n, k) }
def locS (sc : Scope) (x : Str) : Bool := match sc.names.lookup x with
  | some .local => true
  | _ => false
def chkNs' (N : List Str) (sc : Scope) : List Nat → List PySem.Expr → Bool
  | [], [] => true
  | i :: is, .Name x _ :: es => N[i]? == some x && locS sc x && chkNs' N sc is es
  | _, _ => false
def chkT' (N : List Str) (sc : Scope) : Tg → PySem.Expr → Bool
  | .nm i, .Name x _ => N[i]? == some x && locS sc x
  | .tp l, .Tuple es _ _ => chkNs' N sc l es
  | _, _ => false
def nodupB : List Str → Bool
  | [] => true
  | x :: l => !l.contains x && nodupB l
def scOk (scope sc : Scope) : Bool := scope.kind == .function && sc.kind == .function && scope.names.all fun p => (!(p.2 == .cell)) && (!(p.2 == .local) || scope.names.lookup p.1 == some .local) && (!(p.2 == .free) || sc.names.lookup p.1 == some .cell)
def capOk (N N' : List Str) (cap : List Nat) (scope : Scope) : Bool := decide (cap.length ≤ N'.length) && (N'.drop (N'.length - cap.length)).map some == cap.map (fun (i : Nat) => N[i]?) && (N'.drop (N'.length - cap.length)).all fun x => scope.names.lookup x == some .free
def isVar : E → Bool
  | .var _ => true
  | _ => false
mutual
def chk (N : List Str) (sc : Scope) (G : Gs) : E → PySem.Expr → Bool
  | .var i, .Name x _ => N[i]? == some x && visB sc x && noDbg x
  | .int i, .Constant (.int j) _ _ => i == j
  | .bl b, .Constant (.bool c) _ _ => b == c
  | .non, .Constant .none _ _ => true
  | .str x, .Constant (.str y) _ _ => x == y
  | .gc g, .Name x _ => (G.csts[g]?).map (·.1) == some x && glB sc x && noDbg x
  | .ty t, .Name x _ => x == Str.ofString t.nm && glB sc x
  | .bin op a b, .BinOp x o y _ => op.op == o && chk N sc G a x && chk N sc G b y
  | .neg a, .UnaryOp .USub x _ => chk N sc G a x
  | .cmp op a b, .Compare x [o] [y] _ => op.op == o && noSet y && chk N sc G a x && chk N sc G b y
  | .and a b, .BoolOp .And (x :: y :: rest) pos => chk N sc G a x && (match rest with
    | [] => chk N sc G b y
    | z :: rest => chk N sc G b (.BoolOp .And (y :: z :: rest) pos))
  | .or a b, .BoolOp .Or (x :: y :: rest) pos => chk N sc G a x && (match rest with
    | [] => chk N sc G b y
    | z :: rest => chk N sc G b (.BoolOp .Or (y :: z :: rest) pos))
  | .not a, .UnaryOp .Not x _ => chk N sc G a x
  | .ite c a b, .IfExp z x y _ => chk N sc G c z && chk N sc G a x && chk N sc G b y
  | .ix a b, .Subscript x y _ => noSlice y && chk N sc G a x && chk N sc G b y
  | .tup l, .Tuple es _ _ => chks N sc G l es
  | .lst l, .List es _ => chks N sc G l es
  | .call f l, .Call (.Name x _) (e :: es) [] _ => G.fns[f]? == some x && glB sc x && noDbg x && chks N sc G l (e :: es)
  | .blt f l, .Call (.Name x _) (e :: es) [] _ => x == f.nm && glB sc x && chks N sc G l (e :: es)
  | .app o e, .Call (.Attribute x m ap) [y] [] cp => m == ("append" : Str) && (ap.endLine == cp.line) && noStar y && isVar o && chk N sc G o x && chk N sc G e y
  | .comp t k it cs e N' cap, .ListComp elt [⟨tg, iter, ifs, 0⟩] scope _ => scOk scope sc && nodupB N' && capOk N N' cap scope && noSet iter && chkT' N' (relab scope sc) t tg && chks N' (relab scope sc) G cs ifs && chk N' (relab scope sc) G e elt && (match k, iter with
    | .sq, x => chks N sc G it [x]
    | .r1, .Call (.Name x _) [a] [] _ => x == ("range" : Str) && glB sc x && chks N sc G it [a]
    | .r2, .Call (.Name x _) [a, b] [] _ => x == ("range" : Str) && glB sc x && chks N sc G it [a, b]
    | _, _ => false)
  | _, _ => false
def chks (N : List Str) (sc : Scope) (G : Gs) : Es → List PySem.Expr → Bool
  | .nil, [] => true
  | .cons c l, e :: es => noStar e && chk N sc G c e && chks N sc G l es
  | _, _ => false
end
end Ng

end
section
set_option Elab.async false
set_option linter.all false
set_option maxRecDepth 100000
set_option maxHeartbeats 4000000
set_option autoImplicit false
namespace Ng
open PySem PySem.Spec PyProof.Rows L2

def TDE (K : PySem.W.Frag) (f : Ev → Hh → Rs D) : TE := fun s H Q => ∃ m r h d h', Wd K m h H ∧ RSt K m H r s ∧ f r h = .ok d h' ∧
  ∀ m' v H', Gr K m H m' H' → Wd K m' h' H' → RD K m' H' d v → Q v H'
def TDT (K : PySem.W.Frag) (f : Ev → Hh → Rs D) : TT := fun s H Q => ∃ m r h d h' b, Wd K m h H ∧ RSt K m H r s ∧ f r h = .ok d h' ∧ truD d h' = some b ∧
  ∀ m' H', Gr K m H m' H' → Wd K m' h' H' → Q b H'
def TDA (K : PySem.W.Frag) (f : Ev → Hh → Rs (List D)) : TA := fun s H Q => ∃ m r h ds h', Wd K m h H ∧ RSt K m H r s ∧ f r h = .ok ds h' ∧
  ∀ m' vs H', Gr K m H m' H' → Wd K m' h' H' → RDs K m' H' ds vs → Q vs H'
def rD (K : PySem.W.Frag) (k : D → D → Hh → Rs D) : R2 := fun x y H Q => ∃ m h dx dy d h', Wd K m h H ∧ RD K m H dx x ∧ RD K m H dy y ∧ k dx dy h = .ok d h' ∧
  ∀ m' v H', Gr K m H m' H' → Wd K m' h' H' → RD K m' H' d v → Q v H'
def rDc (K : PySem.W.Frag) (k : List D → Hh → Rs D) : List V → Hp → VK → Prop := fun xs H Q => ∃ m h ds d h', Wd K m h H ∧ RDs K m H ds xs ∧ k ds h = .ok d h' ∧
  ∀ m' v H', Gr K m H m' H' → Wd K m' h' H' → RD K m' H' d v → Q v H'
theorem _root_.L2.PE.wk {X : Cx} {e : PySem.Expr} {t t' : TE} (h : PE X e t) (i : ∀ s H Q, t' s H Q → t s H Q) : PE X e t' := fun pins s σ H Q I q => h pins s σ H Q I (i _ _ _ q)
theorem _root_.L2.PT.wk {X : Cx} {e : PySem.Expr} {t t' : TT} (h : PT X e t) (i : ∀ s H Q, t' s H Q → t s H Q) : PT X e t' := fun pins s σ H Q I q => h pins s σ H Q I (i _ _ _ q)
theorem _root_.L2.PA.wk {X : Cx} {e : List PySem.Expr} {t t' : TA} (h : PA X e t) (i : ∀ s H Q, t' s H Q → t s H Q) : PA X e t' := fun pos pins s σ H Q I q => h pos pins s σ H Q I (i _ _ _ q)

theorem TDE.two {K : PySem.W.Frag} {fa fb : Ev → Hh → Rs D} {k : D → D → Hh → Rs D} {s : Sg} {H : Hp} {R : V → V → Hp → Prop} {m : List Addr} {r : Ev} {h : Hh} {d : D} {h' : Hh} (w : Wd K m h H) (st : RSt K m H r s)
    (e : ((fa r h).bind fun x h1 => (fb r h1).bind fun y h2 => k x y h2) = .ok d h')
    (c : ∀ m2 H2 h2 dx dy x y, Gr K m H m2 H2 → Wd K m2 h2 H2 → RD K m2 H2 dx x → RD K m2 H2 dy y → k dx dy h2 = .ok d h' → R x y H2) :
    TDE K fa s H fun x H1 => TDE K fb s H1 fun y H2 => R x y H2 := by
  obtain ⟨dx, h1, e1, e⟩ := Rs.bind_ok e
  obtain ⟨dy, h2, e2, e⟩ := Rs.bind_ok e
  exact ⟨m, r, h, dx, h1, w, st, e1, fun m1 x H1 g1 w1 rx => ⟨m1, r, h1, dy, h2, w1, st.mono g1, e2, fun m2 y H2 g2 w2 ry => c m2 H2 h2 dx dy x y (g1.trans g2) w2 (rx.mono g2) ry e⟩⟩
theorem TDE.op {K : PySem.W.Frag} {fa fb f : Ev → Hh → Rs D} {k : D → D → Hh → Rs D} (hf : ∀ r h, f r h = (fa r h).bind fun x h1 => (fb r h1).bind fun y h2 => k x y h2) (s : Sg) (H : Hp) (Q : VK) (q : TDE K f s H Q) : tOp (rD K k) (TDE K fa) (TDE K fb) s H Q := by
  obtain ⟨m, r, h, d, h', w, st, e, c⟩ := q
  rw [hf] at e
  exact TDE.two w st e fun m2 H2 h2 dx dy x y g w2 rx ry e => ⟨m2, h2, dx, dy, d, h', w2, rx, ry, e, fun m' v H' g' => c m' v H' (g.trans g')⟩

/-- what the walk of a body knows -/
structure XOk (X : Cx) (N : List Str) (sc : Scope) : Prop where
  n : X.N = N
  s : X.env.scope = sc
  calm : X.calm = true
  nd : X.N.Nodup
  room : ∃ k, Room k X.A
  rng : X.mg "range" = none
  po : PassesOwn (model X.prog X.w) X.A X.env X.xe
def spD (K : PySem.W.Frag) (f : List D → Hh → Rs D) (n : Nat) : Sp := fun vs H Q _ => vs.length = n ∧ rDc K f vs H Q
structure GOk (X : Cx) (G : Gs) (cl : Cl) : Prop where
  fn : ∀ (f : Nat) (x : Str), G.fns[f]? = some x → ∃ fa fd ps k, FnOk X.prog X.w X.K X.mg X.base CX0 k fa fd ps (spD X.K (cl f) ps.length) ∧ Room k X.A ∧ X.mg x = some (.ref fa) ∧ PySem.W.keepIn X.K (.ref fa) = true ∧ Binds X.K fd ps [] ∧ ∀ ds h d h', cl f ds h = .ok d h' → ds.length = ps.length
  cst : ∀ (g : Nat) (x : Str) (d : D), G.csts[g]? = some (x, d) → ∃ v u, X.mg x = some u ∧ RelV v u ∧ ∀ m H, RD X.K m H d v
  blt : ∀ f : Blt, X.mg f.nm = none
  ty : ∀ t : Ty, X.mg (Str.ofString t.nm) = none

/-! ### two values -/
section
variable {X : Cx}
theorem RelV.of_int {v : V} {u : Value} {K : PySem.W.Frag} {m : List Addr} {H : Hp} {i : Int} (r : RD K m H (.int i) v) (q : RelV v u) : v = .int i ∧ ∃ t, u = .int i t := by
  cases r; exact ⟨rfl, q⟩
theorem opBin (op : Bop) : OpR X (binaryOp op.op) (rD X.K (binD op)) := by
  intro pins s σ H x y v u Q I rx ry q
  obtain ⟨m, h, dx, dy, d, h', w, r1, r2, e, c⟩ := q
  have fin : ∀ z, RD X.K m H d z → h = h' → Q z H := fun z rz eh => by subst eh; exact c m z H Gr.refl w rz
  cases op with
  | add =>
    cases r1 <;> cases r2 <;> first | (simp [binD] at e; done) | skip
    · simp [binD] at e
      obtain ⟨rfl, rfl⟩ := e
      exact op_add pins s σ H _ _ v u Q I rx ry ⟨_, _, rfl, rfl, fin _ (.int _) rfl⟩
    · rename_i a b
      simp only [binD] at e
      split at e
      · rename_i hz
        simp at e
        obtain ⟨rfl, rfl⟩ := e
        exact op_add_str pins s σ H _ _ v u Q I rx ry ⟨_, _, rfl, rfl, hz, fin _ (.str _) rfl⟩
      · cases e
  | sub =>
    cases r1 <;> cases r2 <;> first | (simp [binD] at e; done) | skip
    simp [binD] at e
    obtain ⟨rfl, rfl⟩ := e
    exact op_sub pins s σ H _ _ v u Q I rx ry ⟨_, _, rfl, rfl, fin _ (.int _) rfl⟩
  | mul =>
    cases r1 <;> cases r2 <;> first | (simp [binD] at e; done) | skip
    simp only [binD] at e
    split at e
    · rename_i hz
      simp at e
      obtain ⟨rfl, rfl⟩ := e
      exact op_mul pins s σ H _ _ v u Q I rx ry ⟨_, _, rfl, rfl, hz, fin _ (.int _) rfl⟩
    · cases e
  | fdiv =>
    cases r1 <;> cases r2 <;> first | (simp [binD] at e; done) | skip
    simp only [binD] at e
    split at e
    · rename_i hz
      simp at e
      obtain ⟨rfl, rfl⟩ := e
      exact op_fdiv pins s σ H _ _ v u Q I rx ry ⟨_, _, rfl, rfl, hz, fin _ (.int _) rfl⟩
    · cases e
  | mod =>
    cases r1 <;> cases r2 <;> first | (simp [binD] at e; done) | skip
    simp only [binD] at e
    split at e
    · rename_i hz
      simp at e
      obtain ⟨rfl, rfl⟩ := e
      exact op_mod pins s σ H _ _ v u Q I rx ry ⟨_, _, rfl, rfl, hz, fin _ (.int _) rfl⟩
    · cases e
  | pow =>
    cases r1 <;> cases r2 <;> first | (simp [binD] at e; done) | skip
    simp only [binD] at e
    split at e
    · rename_i hz
      simp at e
      obtain ⟨rfl, rfl⟩ := e
      exact op_pow pins s σ H _ _ v u Q I rx ry ⟨_, _, rfl, rfl, hz, fin _ (.int _) rfl⟩
    · cases e

/-! ### == of data -/
theorem eqL_all {f : D → D → Option Bool} : ∀ {a b : List D} {k : Bool}, eqL f a b = some k → ∃ e : Nat → Bool, (∀ j x y, a[j]? = some x → b[j]? = some y → f x y = some (e j)) ∧ k = ((List.range (min a.length b.length)).all e && a.length == b.length)
  | [], [], k, h => by
    simp [eqL] at h
    exact ⟨fun _ => true, fun j x y e => by simp at e, by simp [h.symm]⟩
  | [], _ :: _, k, h => by
    simp [eqL] at h
    exact ⟨fun _ => true, fun j x y e => by simp at e, by simp [h.symm]⟩
  | _ :: _, [], k, h => by
    simp [eqL] at h
    exact ⟨fun _ => true, fun j x y _ e => by simp at e, by simp [h.symm]⟩
  | x :: xs, y :: ys, k, h => by
    simp only [eqL] at h
    split at h
    · rename_i a b h1 h2
      obtain ⟨e, p, q⟩ := eqL_all h2
      refine ⟨fun j => match j with
        | 0 => a
        | j + 1 => e j, fun j x' y' e1 e2 => ?_, ?_⟩
      · cases j with
        | zero => simp at e1 e2; subst e1; subst e2; exact h1
        | succ j => exact p j x' y' (by simpa using e1) (by simpa using e2)
      · have h' : (a && b) = k := Option.some.inj h
        rw [← h', q]
        simp only [List.length_cons, Nat.succ_min_succ, List.range_succ_eq_map, List.all_cons, List.all_map]
        rw [show ((xs.length + 1 == ys.length + 1) : Bool) = (xs.length == ys.length) by simp]
        rw [Bool.and_assoc]
        rfl
    · cases h
theorem eqD_same {pins : List (Addr × Obj)} {σ : Sg} {H : Hp} {s : Shared} {m : List Addr} (I : Inv X pins σ H s) : ∀ (n : Nat) {d d' : D} {v : V} {b : Bool}, RD X.K m H d v → RD X.K m H d' v → eqD n d d' = some b → b = true := by
  intro n
  induction n with
  | zero =>
    intro d d' v b r r' e
    cases r <;> cases r' <;> simp [eqD] at e <;> exact e
  | succ n ih =>
    intro d d' v b r r' e
    cases r <;> cases r' <;> first | (simp [eqD] at e; exact e) | (simp [eqD] at e; done) | skip
    rename_i a ds vs h1 q1 ds' vs' q2 h2
    obtain rfl := I.tuple_inj h1 h2
    have go : ∀ {ds ds' : List D} {vs : List V} {b : Bool}, RDs X.K m H ds vs → RDs X.K m H ds' vs → eqL (eqD n) ds ds' = some b → b = true := by
      intro ds
      induction ds with
      | nil =>
        intro ds' vs b q1 q2 e
        cases q1; cases q2
        simp [eqL] at e; exact e
      | cons x xs ih2 =>
        intro ds' vs b q1 q2 e
        cases q1 with
        | cons p1 t1 =>
          cases q2 with
          | cons p2 t2 =>
            simp only [eqL] at e
            split at e
            · rename_i k1 k2 z1 z2
              have := ih p1 p2 z1
              have := ih2 t1 t2 z2
              subst_vars
              simpa using e.symm
            · cases e
    exact go q1 q2 (by simpa [eqD] using e)
theorem eqAt_D {pins : List (Addr × Obj)} {σ : Sg} {H : Hp} {s : Shared} {m : List Addr} (I : Inv X pins σ H s) : ∀ (n : Nat) {A : Around} {d d' : D} {v v' : V} {u u' : Value} {b : Bool}, A.units + n < cLine → RD X.K m H d v → RD X.K m H d' v' → RelV v u → RelV v' u' → eqD n d d' = some b → SeqAt.EqAt A s u u' b := by
  intro n
  induction n with
  | zero =>
    intro A d d' v v' u u' b hu r r' q q' e
    cases r <;> cases r' <;> first | (simp [eqD] at e; done) | skip
    all_goals simp [eqD] at e
    all_goals subst e
    all_goals first
      | (have h := eqAt_V (A := A) (s := s) q q' rfl rfl; simpa [eqV] using h)
  | succ n ih =>
    intro A d d' v v' u u' b hu r r' q q' e
    cases r <;> cases r' <;> first | (simp [eqD] at e; done) | skip
    all_goals first
      | (simp [eqD] at e; subst e; have h := eqAt_V (A := A) (s := s) q q' rfl rfl; simpa [eqV] using h)
      | skip
    rename_i a ds vs h1 q1 a' ds' vs' h2 q2
    cases q; cases q'
    by_cases ha : a = a'
    · subst ha
      have := eqD_same I (n + 1) (.tup h1 q1) (.tup h2 q2) e
      subst this
      exact SeqAt.EqAt.same _
    · obtain ⟨its, p1, t1, _⟩ := I.tuple h1
      obtain ⟨its', p2, t2, _⟩ := I.tuple h2
      obtain ⟨f, hf, rfl⟩ := eqL_all (show eqL (eqD n) ds ds' = some b from by simpa [eqD] using e)
      have l1 := q1.length
      have l2 := q2.length
      have l3 := p1.length
      have l4 := p2.length
      have key := SeqAt.RcAt.tuples (A := A) (e := f) t1 t2 (by omega) (fun j j1 j2 => by
        have j1' : j < its.length := by simpa using j1
        have j2' : j < its'.length := by simpa using j2
        have e1 : ds[j]? = some ds[j] := List.getElem?_eq_getElem (by omega)
        have e2 : ds'[j]? = some ds'[j] := List.getElem?_eq_getElem (by omega)
        obtain ⟨x, hx, rx⟩ := q1.get e1
        obtain ⟨y, hy, ry⟩ := q2.get e2
        obtain ⟨ux, hux, sx⟩ := p1.get hx
        obtain ⟨uy, huy, sy⟩ := p2.get hy
        have z1 : its.toArray[j] = ux := by
          have := List.getElem?_eq_some_iff.mp hux
          obtain ⟨_, z⟩ := this
          simpa using z
        have z2 : its'.toArray[j] = uy := by
          have := List.getElem?_eq_some_iff.mp huy
          obtain ⟨_, z⟩ := this
          simpa using z
        rw [z1, z2]
        exact ih (A := A.in1) (by show A.units + 1 + n < cLine; omega) rx ry sx sy (hf j _ _ e1 e2))
      refine SeqAt.EqAt.of_refs ha ?_
      have el : its.toArray.size = ds.length := by simp; omega
      have el' : its'.toArray.size = ds'.length := by simp; omega
      rw [el, el'] at key
      exact key
end
end Ng

end
section
set_option Elab.async false
set_option linter.all false
set_option maxRecDepth 100000
set_option maxHeartbeats 4000000
set_option autoImplicit false
namespace Ng
open PySem PySem.Spec PyProof.Rows L2
section
variable {X : Cx}
/-- the two sequences of an == -/
theorem eqSeq {pins : List (Addr × Obj)} {σ : Sg} {H : Hp} {s : Shared} {m : List Addr} (I : Inv X pins σ H s) {n : Nat} {A : Around} {ds ds' : List D} {vs vs' : List V} {its its' : List Value} (hu : A.units + 1 + n < cLine)
    (q1 : RDs X.K m H ds vs) (q2 : RDs X.K m H ds' vs') (p1 : Vals vs its) (p2 : Vals vs' its') {f : Nat → Bool} (hf : ∀ j x y, ds[j]? = some x → ds'[j]? = some y → eqD n x y = some (f j)) :
    ∀ j (h1 : j < its.toArray.size) (h2 : j < its'.toArray.size), SeqAt.EqAt A.in1 s its.toArray[j] its'.toArray[j] (f j) := fun j j1 j2 => by
  have l1 := q1.length
  have l2 := q2.length
  have l3 := p1.length
  have l4 := p2.length
  have j1' : j < its.length := by simpa using j1
  have j2' : j < its'.length := by simpa using j2
  have e1 : ds[j]? = some ds[j] := List.getElem?_eq_getElem (by omega)
  have e2 : ds'[j]? = some ds'[j] := List.getElem?_eq_getElem (by omega)
  obtain ⟨x, hx, rx⟩ := q1.get e1
  obtain ⟨y, hy, ry⟩ := q2.get e2
  obtain ⟨ux, hux, sx⟩ := p1.get hx
  obtain ⟨uy, huy, sy⟩ := p2.get hy
  have z1 : its.toArray[j] = ux := by
    obtain ⟨_, z⟩ := List.getElem?_eq_some_iff.mp hux
    simpa using z
  have z2 : its'.toArray[j] = uy := by
    obtain ⟨_, z⟩ := List.getElem?_eq_some_iff.mp huy
    simpa using z
  rw [z1, z2]
  exact eqAt_D I n (by show A.units + 1 + n < cLine; omega) rx ry sx sy (hf j _ _ e1 e2)
/-- == and != -/
theorem eq_both {pins : List (Addr × Obj)} {σ : Sg} {H : Hp} {s : Shared} {m : List Addr} {h : Hh} (I : Inv X pins σ H s) (hr : ∃ k, Room k X.A) {x y : V} {v u : Value} {dx dy : D} {b : Bool} (w : Wd X.K m h H) (r1 : RD X.K m H dx x) (r2 : RD X.K m H dy y)
    (rx : RelV x v) (ry : RelV y u) (e : eqH dx dy h = some b) : SeqAt.RcAt X.A s v u b ∧ SeqAt.RcNeAt X.A s v u (!b) := by
  obtain ⟨k, hr⟩ := hr
  have hu := hr.units
  cases r1 <;> cases r2 <;> first | (simp [eqH, eqD] at e; done) | skip
  case ref.ref =>
    rename_i i a ha j c hc
    cases rx; cases ry
    simp only [eqH] at e
    split at e
    · rename_i ds ds' e1 e2
      obtain ⟨a', vs, ha', hq, q1⟩ := w.lst e1
      obtain ⟨c', vs', hc', hq', q2⟩ := w.lst e2
      rw [ha] at ha'; cases ha'
      rw [hc] at hc'; cases hc'
      obtain ⟨its, p1, t1, _⟩ := I.list hq
      obtain ⟨its', p2, t2, _⟩ := I.list hq'
      have l1 := q1.length
      have l2 := q2.length
      have l3 := p1.length
      have l4 := p2.length
      split at e
      · rename_i el
        obtain ⟨f, hf, rfl⟩ := eqL_all e
        have hs : its.toArray.size = its'.toArray.size := by simp; omega
        have he := eqSeq (A := X.A) I (n := 20) (by omega) q1 q2 p1 p2 hf
        have el2 : its.toArray.size = ds.length := by simp; omega
        have k1 := SeqAt.RcAt.lists (A := X.A) (e := f) t1.isList t2.isList hs (by omega) he
        have k2 := SeqAt.RcNeAt.lists (A := X.A) (e := f) t1.isList t2.isList hs (by omega) he
        rw [el2] at k1 k2
        rw [show (min ds.length ds'.length) = ds.length by omega, show (ds.length == ds'.length) = true by simp [el], Bool.and_true]
        exact ⟨k1, k2⟩
      · rename_i el
        have eb : false = b := Option.some.inj e
        subst eb
        have hs : (its.toArray.size != its'.toArray.size) = true := by simp; omega
        exact ⟨SeqAt.RcAt.lists_lengths t1.isList t2.isList hs (by omega), SeqAt.RcNeAt.lists_lengths t1.isList t2.isList hs (by omega)⟩
    · cases e
  case tup.tup =>
    rename_i a ds vs h1 q1 a' ds' vs' h2 q2
    cases rx; cases ry
    obtain ⟨its, p1, t1, _⟩ := I.tuple h1
    obtain ⟨its', p2, t2, _⟩ := I.tuple h2
    have l1 := q1.length
    have l2 := q2.length
    have l3 := p1.length
    have l4 := p2.length
    obtain ⟨f, hf, rfl⟩ := eqL_all (show eqL (eqD 19) ds ds' = some b from by simpa [eqH, eqD] using e)
    have he := eqSeq (A := X.A) I (n := 19) (by omega) q1 q2 p1 p2 hf
    have k1 := SeqAt.RcAt.tuples (A := X.A) (e := f) t1 t2 (by omega) he
    have k2 := SeqAt.RcNeAt.tuples (A := X.A) (e := f) t1 t2 (by omega) he
    have el : its.toArray.size = ds.length := by simp; omega
    have el' : its'.toArray.size = ds'.length := by simp; omega
    rw [el, el'] at k1 k2
    exact ⟨k1, k2⟩
  all_goals simp [eqH, eqD] at e
  all_goals subst e
  case non.non => cases rx; cases ry; exact ⟨SeqAt.RcAt.none_none, SeqAt.RcNeAt.none_none⟩
  case non.int => cases rx; obtain ⟨t, rfl⟩ := ry; exact ⟨SeqAt.RcAt.none_int _ _, SeqAt.RcNeAt.none_int _ _⟩
  case non.str => cases rx; obtain ⟨t, rfl⟩ := ry; exact ⟨SeqAt.RcAt.none_str _ _, SeqAt.RcNeAt.none_str _ _⟩
  case int.non => cases ry; obtain ⟨t, rfl⟩ := rx; exact ⟨SeqAt.RcAt.int_none _ _, SeqAt.RcNeAt.int_none _ _⟩
  case str.non => cases ry; obtain ⟨t, rfl⟩ := rx; exact ⟨SeqAt.RcAt.str_none _ _, SeqAt.RcNeAt.str_none _ _⟩
  case bl.bl => cases rx; cases ry; exact ⟨SeqAt.RcAt.bool_bool _ _, SeqAt.RcNeAt.bool_bool _ _⟩
  case int.int => obtain ⟨t, rfl⟩ := rx; obtain ⟨t', rfl⟩ := ry; exact ⟨SeqAt.RcAt.int_int _ _ _ _, SeqAt.RcNeAt.int_int _ _ _ _⟩
  case int.str => obtain ⟨t, rfl⟩ := rx; obtain ⟨t', rfl⟩ := ry; exact ⟨SeqAt.RcAt.int_str _ _ _ _, SeqAt.RcNeAt.int_str _ _ _ _⟩
  case str.int => obtain ⟨t, rfl⟩ := rx; obtain ⟨t', rfl⟩ := ry; exact ⟨SeqAt.RcAt.str_int _ _ _ _, SeqAt.RcNeAt.str_int _ _ _ _⟩
  case str.str => obtain ⟨t, rfl⟩ := rx; obtain ⟨t', rfl⟩ := ry; exact ⟨SeqAt.RcAt.str_str _ _ _ _, SeqAt.RcNeAt.str_str _ _ _ _⟩

theorem RD.flat {K : PySem.W.Frag} {m : List Addr} {H : Hp} {d : D} {v : V} (r : RD K m H d v) (f : flat d = true) : flatV v = true := by
  cases r <;> first | rfl | (cases f; done)
theorem RD.eqF {K : PySem.W.Frag} {m : List Addr} {H : Hp} {d d' : D} {v v' : V} (r : RD K m H d v) (r' : RD K m H d' v') (f : Ng.flat d = true) (f' : Ng.flat d' = true) : eqV v v' = Ng.eqF d d' := by
  cases r <;> first | (cases f; done) | skip
  all_goals cases r' <;> first | (cases f'; done) | rfl
theorem RDs.flat {K : PySem.W.Frag} {m : List Addr} {H : Hp} : ∀ {ds : List D} {vs : List V}, RDs K m H ds vs → ds.all Ng.flat = true → vs.all flatV = true
  | _, _, .nil, _ => rfl
  | _, _, .cons r t, f => by
    rw [List.all_cons, Bool.and_eq_true] at f
    rw [List.all_cons, r.flat f.1, RDs.flat t f.2]
    rfl
theorem RDs.anyF {K : PySem.W.Frag} {m : List Addr} {H : Hp} {x : D} {v : V} (rx : RD K m H x v) (fx : Ng.flat x = true) : ∀ {ds : List D} {vs : List V}, RDs K m H ds vs → ds.all Ng.flat = true → inV v vs = ds.any fun y => Ng.eqF y x
  | _, _, .nil, _ => rfl
  | _, _, .cons r t, f => by
    rw [List.all_cons, Bool.and_eq_true] at f
    have ih := RDs.anyF rx fx t f.2
    unfold inV at ih ⊢
    rw [List.any_cons, List.any_cons, ih, r.eqF rx f.1 fx]
/-- a list or tuple that is read -/
theorem seq_of {m : List Addr} {h : Hh} {H : Hp} {K : PySem.W.Frag} (w : Wd K m h H) {d : D} {v : V} {l : List D} (r : RD K m H d v) (e : seqD d h = some l) : ∃ p vs, v = .ref p ∧ (SqL K H p vs ∨ SqT K H p vs) ∧ RDs K m H l vs := by
  cases r <;> first | (simp [seqD] at e; done) | skip
  · rename_i a ds vs h1 q
    have e' : ds = l := by simpa [seqD] using e
    subst e'
    exact ⟨a, vs, rfl, .inr h1, q⟩
  · rename_i n a ha
    obtain ⟨a', vs, ha', hq, q⟩ := w.lst (show lstAt h n = some l from e)
    rw [ha] at ha'; cases ha'
    exact ⟨a, vs, rfl, .inl hq, q⟩
theorem opCmp (hr : ∃ k, Room k X.A) (op : Cop) : OpR X (compareOp op.op) (rD X.K (cmpD op)) := by
  intro pins s σ H x y v u Q I rx ry q
  obtain ⟨m, h, dx, dy, d, h', w, r1, r2, e, c⟩ := q
  have fin : ∀ z, RD X.K m H d z → h = h' → Q z H := fun z rz eh => by subst eh; exact c m z H Gr.refl w rz
  cases op with
  | lt =>
    cases r1 <;> cases r2 <;> first | (simp [cmpD] at e; done) | skip
    simp [cmpD] at e
    obtain ⟨rfl, rfl⟩ := e
    exact op_lt pins s σ H _ _ v u Q I rx ry ⟨_, _, rfl, rfl, fin _ (.bl _) rfl⟩
  | le =>
    cases r1 <;> cases r2 <;> first | (simp [cmpD] at e; done) | skip
    simp [cmpD] at e
    obtain ⟨rfl, rfl⟩ := e
    exact op_le pins s σ H _ _ v u Q I rx ry ⟨_, _, rfl, rfl, fin _ (.bl _) rfl⟩
  | gt =>
    cases r1 <;> cases r2 <;> first | (simp [cmpD] at e; done) | skip
    simp [cmpD] at e
    obtain ⟨rfl, rfl⟩ := e
    exact op_gt pins s σ H _ _ v u Q I rx ry ⟨_, _, rfl, rfl, fin _ (.bl _) rfl⟩
  | ge =>
    cases r1 <;> cases r2 <;> first | (simp [cmpD] at e; done) | skip
    simp [cmpD] at e
    obtain ⟨rfl, rfl⟩ := e
    exact op_ge pins s σ H _ _ v u Q I rx ry ⟨_, _, rfl, rfl, fin _ (.bl _) rfl⟩
  | eq =>
    simp only [cmpD] at e
    split at e
    · rename_i b eb
      simp at e
      obtain ⟨rfl, rfl⟩ := e
      exact (eq_both I hr w r1 r2 rx ry eb).1 _ _ _ _ ⟨.bl b, H, I, rfl, fin _ (.bl _) rfl⟩
    · cases e
  | ne =>
    simp only [cmpD] at e
    split at e
    · rename_i b eb
      simp at e
      obtain ⟨rfl, rfl⟩ := e
      exact (eq_both I hr w r1 r2 rx ry eb).2 _ _ _ _ ⟨.bl (!b), H, I, rfl, fin _ (.bl _) rfl⟩
    · cases e
  | is =>
    cases r2 <;> first | (simp [cmpD] at e; done) | skip
    simp [cmpD] at e
    obtain ⟨rfl, rfl⟩ := e
    refine op_isN pins s σ H _ _ v u Q I rx ry ⟨rfl, fin _ ?_ rfl⟩
    cases r1 <;> exact .bl _
  | isnot =>
    cases r2 <;> first | (simp [cmpD] at e; done) | skip
    simp [cmpD] at e
    obtain ⟨rfl, rfl⟩ := e
    refine op_notN pins s σ H _ _ v u Q I rx ry ⟨rfl, fin _ ?_ rfl⟩
    cases r1 <;> exact .bl _
  | inn =>
    simp only [cmpD] at e
    split at e
    · rename_i l el
      unfold inD at e
      split at e
      · rename_i hf
        simp at e
        obtain ⟨rfl, rfl⟩ := e
        obtain ⟨p, vs, rfl, hq, q⟩ := seq_of w r2 el
        refine op_in_seq pins s σ H _ _ v u Q I rx ry ⟨p, vs, rfl, hq, r1.flat hf.1, q.flat hf.2, ?_⟩
        have z := RDs.anyF r1 hf.1 q hf.2
        show Q (.bl (if false = true then !inV x vs else inV x vs)) H
        rw [if_neg (by decide), z]
        exact fin _ (.bl _) rfl
      · cases e
    · cases e
  | notin =>
    simp only [cmpD] at e
    split at e
    · rename_i l el
      unfold inD at e
      split at e
      · rename_i hf
        simp at e
        obtain ⟨rfl, rfl⟩ := e
        obtain ⟨p, vs, rfl, hq, q⟩ := seq_of w r2 el
        refine op_notIn_seq pins s σ H _ _ v u Q I rx ry ⟨p, vs, rfl, hq, r1.flat hf.1, q.flat hf.2, ?_⟩
        have z := RDs.anyF r1 hf.1 q hf.2
        show Q (.bl (if true = true then !inV x vs else inV x vs)) H
        rw [if_pos rfl, z]
        exact fin _ (by simpa using RD.bl _) rfl
      · cases e
    · cases e
/-! ### an index, a truth, a built-in -/
theorem atI_rel {K : PySem.W.Frag} {m : List Addr} {H : Hp} {ds : List D} {vs : List V} {i : Int} {d : D} (q : RDs K m H ds vs) (e : atI ds i = some d) : ∃ v, atI vs i = some v ∧ RD K m H d v := by
  unfold atI at e ⊢
  rw [q.length] at e
  cases z : ixN vs.length i with
  | none => rw [z] at e; cases e
  | some j =>
    rw [z] at e
    obtain ⟨v, h1, h2⟩ := q.get (show ds[j]? = some d from e)
    exact ⟨v, h1, h2⟩
theorem ixSeq : IxR X (rD X.K ixD) := by
  intro value slice pins s σ H x y v u Q I rx ry q hs
  obtain ⟨m, h, dx, dy, d, h', w, r1, r2, e, c⟩ := q
  unfold ixD at e
  split at e
  · rename_i l i el
    split at e
    · rename_i d' ed
      simp at e
      obtain ⟨rfl, rfl⟩ := e
      obtain ⟨p, vs, rfl, hq, q⟩ := seq_of w r1 el
      obtain ⟨z, hz, rz⟩ := atI_rel q ed
      cases r2
      have qz : Q z H := c m z H Gr.refl w rz
      rcases hq with hq | hq
      · exact ix_list value slice pins s σ H _ _ v u Q I rx ry ⟨p, vs, i, z, rfl, rfl, hq, hz, qz⟩ hs
      · exact ix_tup value slice pins s σ H _ _ v u Q I rx ry ⟨p, vs, i, z, rfl, rfl, hq, hz, qz⟩ hs
    · cases e
  · cases e
theorem isEmpty_rel {K : PySem.W.Frag} {m : List Addr} {H : Hp} {ds : List D} {vs : List V} (q : RDs K m H ds vs) : ds.isEmpty = vs.isEmpty := by
  cases q <;> rfl
theorem truRel {K : PySem.W.Frag} {m : List Addr} {h : Hh} {H : Hp} (w : Wd K m h H) {d : D} {v : V} {b : Bool} (r : RD K m H d v) (e : truD d h = some b) : TruV K v H b := by
  cases r with
  | non => exact (Option.some.inj e).symm
  | bl c => exact (Option.some.inj e).symm
  | int i => exact (Option.some.inj e).symm
  | str y =>
    simp only [truD] at e
    split at e
    · rename_i hz
      exact ⟨hz, (Option.some.inj e).symm⟩
    · cases e
  | ty n => cases e
  | tup h1 q =>
    refine .inr (.inl ⟨_, h1, ?_⟩)
    have := (Option.some.inj e).symm
    rw [this, isEmpty_rel q]
  | ref ha =>
    simp only [truD] at e
    split at e
    · rename_i l el
      obtain ⟨a', vs, ha', hq, q⟩ := w.lst el
      rw [ha] at ha'; cases ha'
      refine .inl ⟨_, hq, ?_⟩
      have := (Option.some.inj e).symm
      rw [this, isEmpty_rel q]
    · cases e
end
end Ng

end
section
set_option Elab.async false
set_option linter.all false
set_option maxRecDepth 100000
set_option maxHeartbeats 4000000
set_option autoImplicit false
namespace Ng
open PySem PySem.Spec PyProof.Rows L2
section
variable {X : Cx}
def tyName : D → Hh → Option String
  | .non, _ => some "NoneType"
  | d, h => (tyD d h).map Ty.nm
theorem isin_kit {K : PySem.W.Frag} {d : D} {h : Hh} {T : String} {b : Bool} (e : isinD d T h = some b) : ∃ t, tyName d h = some t ∧ PySem.W.kitOne K (.type t) (.type T) = some b := by
  unfold isinD at e
  split at e
  · split at e
    · rename_i hT
      have eb := Option.some.inj e
      subst eb
      refine ⟨"NoneType", rfl, ?_⟩
      simp [tyNames] at hT
      rcases hT with rfl | rfl | rfl | rfl | rfl <;> rfl
    · cases e
  · rename_i hn
    split at e
    · rename_i t et
      split at e
      · rename_i hT
        have eb := Option.some.inj e
        subst eb
        refine ⟨t.nm, ?_, ?_⟩
        · cases d <;> first | (exact absurd rfl hn) | (simp [tyName, et])
        · simp [tyNames] at hT
          cases t <;> rcases hT with rfl | rfl | rfl | rfl | rfl <;> rfl
      · cases e
    · cases e
theorem kia_D {pins : List (Addr × Obj)} {σ : Sg} {H : Hp} {s : Shared} {m : List Addr} {h : Hh} (I : Inv X pins σ H s) (w : Wd X.K m h H) {d : D} {v : V} {u : Value} {t : String} (r : RD X.K m H d v) (rv : RelV v u) (e : tyName d h = some t) :
    ∃ P : Heap → Prop, PySem.W.KitX X.K u (.type t) P ∧ P s.heap ∧ u ≠ .builtin "__main__.__loader__#opaque" := by
  cases r with
  | non => cases rv; cases e; exact ⟨_, PySem.W.kitx_none, trivial, fun z => nomatch z⟩
  | bl c => cases rv; cases e; exact ⟨_, PySem.W.kitx_bool, trivial, fun z => nomatch z⟩
  | int i => obtain ⟨t', rfl⟩ := rv; cases e; exact ⟨_, PySem.W.kitx_int, trivial, fun z => nomatch z⟩
  | str x => obtain ⟨t', rfl⟩ := rv; cases e; exact ⟨_, PySem.W.kitx_str, trivial, fun z => nomatch z⟩
  | ty n => cases e
  | tup h1 q =>
    cases rv; cases e
    obtain ⟨its, p1, ⟨o, h2, h3, _⟩, _⟩ := I.tuple h1
    exact ⟨_, PySem.W.kitx_tuple, ⟨o, h2, h3⟩, fun z => nomatch z⟩
  | ref ha =>
    rename_i n a
    cases rv
    simp only [tyName, tyD] at e
    cases z : lstAt h n with
    | none => rw [z] at e; cases e
    | some l =>
      rw [z] at e
      have e' : "list" = t := Option.some.inj e
      subst e'
      obtain ⟨a', vs, ha', hq, q⟩ := w.lst z
      rw [ha] at ha'; cases ha'
      obtain ⟨its, p1, ⟨o, k, h2, h3, _⟩, _⟩ := I.list hq
      exact ⟨_, PySem.W.kitx_list, ⟨o, h2, h3⟩, fun z => nomatch z⟩
theorem vals2R {x y : V} {us : List Value} (r : Vals [x, y] us) : ∃ u v, us = [u, v] ∧ RelV x u ∧ RelV y v := by
  cases r with
  | cons a t => cases t with
    | cons b t => cases t; exact ⟨_, _, rfl, a, b⟩
theorem one_of {K : PySem.W.Frag} {m : List Addr} {H : Hp} {k : D → Hh → Rs D} {ds : List D} {xs : List V} {h h' : Hh} {d : D} (r : RDs K m H ds xs) (e : one k ds h = .ok d h') : ∃ x v, xs = [v] ∧ RD K m H x v ∧ k x h = .ok d h' := by
  cases r with
  | nil => cases e
  | cons r1 r =>
    cases r with
    | nil => exact ⟨_, _, rfl, r1, e⟩
    | cons => cases e
theorem two_of {K : PySem.W.Frag} {m : List Addr} {H : Hp} {k : D → D → Hh → Rs D} {ds : List D} {xs : List V} {h h' : Hh} {d : D} (r : RDs K m H ds xs) (e : two k ds h = .ok d h') : ∃ x y v u, xs = [v, u] ∧ RD K m H x v ∧ RD K m H y u ∧ k x y h = .ok d h' := by
  cases r with
  | nil => cases e
  | cons r1 r =>
    cases r with
    | nil => cases e
    | cons r2 r =>
      cases r with
      | nil => exact ⟨_, _, _, _, rfl, r1, r2, e⟩
      | cons => cases e
theorem tys_vals {K : PySem.W.Frag} {m : List Addr} {H : Hp} : ∀ {ds : List D} {vs : List V} {us : List Value} {Ts : List String}, RDs K m H ds vs → Vals vs us → tysOf ds = some Ts → us = Ts.map Value.type
  | _, _, _, _, .nil, .nil, e => by
    have e' := Option.some.inj e
    subst e'
    rfl
  | _, _, _, _, .cons r q, .cons v t, e => by
    cases r <;> first | (cases e; done) | skip
    simp only [tysOf] at e
    split at e
    · rename_i l el
      have e' := Option.some.inj e
      subst e'
      cases v
      rw [tys_vals q t el]
      rfl
    · cases e
theorem isinAny_kit {K : PySem.W.Frag} {d : D} {h : Hh} {t : String} (et : tyName d h = some t) : ∀ {Ts : List String} {b : Bool}, isinAny d h Ts = some b → PySem.W.kitAny K (.type t) (Ts.map Value.type) = some b
  | [], b, e => e
  | T :: r, b, e => by
    simp only [isinAny] at e
    split at e
    · rename_i a c e1 e2
      have e' := Option.some.inj e
      subst e'
      obtain ⟨t', et', ek⟩ := isin_kit (K := K) e1
      rw [et] at et'; cases et'
      have ih := isinAny_kit (K := K) et e2
      simp only [List.map_cons, PySem.W.kitAny, ek, ih]
      cases a <;> rfl
    · cases e
def Blt.val : Blt → Value
  | .len => .builtin "len" | .isinst => .builtin "isinstance" | .int => .type "int" | .list => .type "list"
theorem callBlt (f : Blt) : CallR X f.val (rDc X.K (bltD f)) := by
  intro pins s σ H xs us Q I rs q
  obtain ⟨m, h, ds, d, h', w, r, e, c⟩ := q
  have fin : ∀ z, RD X.K m H d z → h = h' → Q z H := fun z rz eh => by subst eh; exact c m z H Gr.refl w rz
  cases f with
  | len =>
    obtain ⟨x, v, rfl, r1, e⟩ := one_of r e
    unfold lenL at e
    split at e
    · rename_i l el
      simp at e
      obtain ⟨rfl, rfl⟩ := e
      obtain ⟨p, vs, rfl, hq, q⟩ := seq_of w r1 el
      refine call_len_seq pins s σ H _ us Q I rs ⟨p, vs, rfl, hq, ?_⟩
      rw [← q.length]
      exact fin _ (.int _) rfl
    · cases e
  | int =>
    obtain ⟨x, v, rfl, r1, e⟩ := one_of r e
    cases r1 <;> first | (cases e; done) | skip
    · cases e
      exact call_int1 pins s σ H _ us Q I rs (.inr ⟨_, rfl, fin _ (.int _) rfl⟩)
    · cases e
      exact call_int1 pins s σ H _ us Q I rs (.inl ⟨_, rfl, fin _ (.int _) rfl⟩)
  | list =>
    obtain ⟨x, v, rfl, r1, e⟩ := one_of r e
    unfold listL at e
    split at e
    · rename_i l el
      simp at e
      obtain ⟨rfl, rfl⟩ := e
      obtain ⟨p, vs, rfl, hq, q⟩ := seq_of w r1 el
      refine call_list_of pins s σ H _ us Q I rs ⟨p, vs, rfl, hq, fun a ha => ?_⟩
      obtain ⟨w2, g2⟩ := w.lstNew ha q
      exact c _ _ _ g2 w2 (.ref (by rw [← w.len]; simp))
    · cases e
  | isinst =>
    obtain ⟨x, y, v, u, rfl, r1, r2, e⟩ := two_of r e
    obtain ⟨u1, u2, rfl, rv1, rv2⟩ := vals2R rs
    cases r2 <;> first | (cases e; done) | skip
    · rename_i T
      cases rv2
      simp only [isinL] at e
      split at e
      · rename_i b eb
        simp at e
        obtain ⟨rfl, rfl⟩ := e
        obtain ⟨t, et, ek⟩ := isin_kit (K := X.K) eb
        obtain ⟨P, Z, hP, hx⟩ := kia_D I w r1 rv1 et
        exact PySem.W.kia_one Z I.kIn hP ek hx fun tk => ⟨.bl b, H, I.tok tk, rfl, fin _ (.bl b) rfl⟩
      · cases e
    · rename_i a ds vs h1 q1
      cases rv2
      simp only [isinL] at e
      split at e
      · cases e
      · rename_i T Ts eT
        split at e
        · rename_i b eb
          simp at e
          obtain ⟨rfl, rfl⟩ := e
          have e1 : ∃ k, isinD x T h = some k := by
            simp only [isinAny] at eb
            split at eb
            · rename_i z _; exact ⟨_, z⟩
            · cases eb
          obtain ⟨k, e1⟩ := e1
          obtain ⟨t, et, _⟩ := isin_kit (K := X.K) e1
          obtain ⟨P, Z, hP, hx⟩ := kia_D I w r1 rv1 et
          obtain ⟨its, p1, ⟨⟨oc, od, odt, osl⟩, h2, h3, n, h4⟩, _⟩ := I.tuple h1
          simp only at h3 h4
          subst h3 h4
          rw [tys_vals q1 p1 eT] at h2
          exact PySem.W.kia_tup Z I.kIn hP h2 (isinAny_kit et eb) hx fun tk => ⟨.bl b, H, I.tok tk, rfl, fin _ (.bl _) rfl⟩
        · cases e
      · cases e
end
end Ng

end
section
set_option Elab.async false
set_option linter.all false
set_option maxRecDepth 100000
set_option maxHeartbeats 4000000
set_option autoImplicit false
namespace Ng
open PySem PySem.Spec PyProof.Rows L2
section
variable {X : Cx} {N : List Str} {sc : Scope} {G : Gs} {cl : Cl}
theorem visB_ok {x : Str} (h : visB sc x = true) : Vis sc x := by
  unfold visB at h
  split at h
  · rename_i e; exact .inl e
  · rename_i e; exact .inr (.inl e)
  · rename_i e; exact .inr (.inr e)
  · cases h
theorem locB_ok {x : Str} (h : locB sc x = true) : Loc sc x := by
  unfold locB at h
  split at h
  · rename_i e; exact .inl e
  · rename_i e; exact .inr e
  · cases h
theorem glB_ok (xo : XOk X N sc) {x : Str} (h : glB sc x = true) : Gl X x := by
  unfold glB at h
  split at h
  · rename_i e
    show X.env.scope.names.lookup x = some .globalImplicit
    rw [xo.s]; exact e
  · cases h
theorem noDbg_ok {x : Str} (h : noDbg x = true) : (x == ("__debug__" : Str)) = false ∧ (x == ("__classdict__" : Str)) = false ∧ x ≠ "__name__" := by
  unfold noDbg at h
  simp only [Bool.and_eq_true, Bool.not_eq_true'] at h
  exact ⟨h.1.1, h.1.2, fun z => by have := h.2; rw [z] at this; simp at this⟩
theorem tOf {e : PySem.Expr} {f : Ev → Hh → Rs D} (h : PE X e (TDE X.K f)) (he : ∀ whole, isTrue e X.env whole = (do let v ← whole; standAt e.pos; holding [v] (truthy v))) : PT X e (TDT X.K f) :=
  L2.PT.wk (pt_truth h he) fun s H Q ⟨m, r, hh, d, h', b, w, st, e1, eb, c⟩ => ⟨m, r, hh, d, h', w, st, e1, fun m' v H' g w' rd => ⟨b, truRel w' rd eb, c m' H' g w'⟩⟩
theorem cmpD_bl {op : Cop} {x y d : D} {h h' : Hh} (e : cmpD op x y h = .ok d h') : ∃ k, d = .bl k := by
  unfold cmpD at e
  split at e
  all_goals first
    | (cases e; exact ⟨_, rfl⟩)
    | (split at e <;> first
        | (cases e; exact ⟨_, rfl⟩)
        | (cases e; done)
        | (unfold inD at e; split at e <;> first | (cases e; exact ⟨_, rfl⟩) | (cases e; done)))
    | (cases e; done)
/-- and, or, not of any truth -/
def tAndG (K : PySem.W.Frag) (ta tb : TE) : TE := fun σ H Q => ta σ H fun x H1 => ∃ k, TruV K x H1 k ∧ if k = true then tb σ H1 Q else Q x H1
def tOrG (K : PySem.W.Frag) (ta tb : TE) : TE := fun σ H Q => ta σ H fun x H1 => ∃ k, TruV K x H1 k ∧ if k = true then Q x H1 else tb σ H1 Q
def tNotG (K : PySem.W.Frag) (ta : TE) : TE := fun σ H Q => ta σ H fun x H1 => ∃ k, TruV K x H1 k ∧ Q (.bl (!k)) H1
theorem tru_keep {pins : List (Addr × Obj)} {s : Shared} {σ : Sg} {H : Hp} {x : V} {v : Value} {k : Bool} {Q : Bool → Shared → Prop} (I : Inv X pins σ H s) (r : RelV x v) (t : TruV X.K x H k) (h : ∀ s', Inv X pins σ H s' → Q k s') : wpAny (model X.prog X.w) X.A (truthy v) Q X.xe s :=
  thn (tru_ok pins s σ H x v (fun b H' => b = k ∧ H' = H) I r ⟨k, t, rfl, rfl⟩) fun b s' ⟨H', I', e1, e2⟩ => by subst e1; subst e2; exact h s' I'
theorem pe_andG {a b : PySem.Expr} {rest : List PySem.Expr} {pos : Pos} {ta tb : TE} (ha : PE X a ta) (hb : PE X (.BoolOp .And (b :: rest) pos) tb) : PE X (.BoolOp .And (a :: b :: rest) pos) (tAndG X.K ta tb) := by
  intro pins s σ H Q I h
  refine BoolOp_and (thn (ha pins s σ H _ I h) fun v s1 ⟨x, H1, I1, r1, k, t, q1⟩ => ?_)
  refine tru_keep I1 r1 t fun s2 I2 => ?_
  cases k with
  | true => exact hb pins s2 σ H1 Q I2 q1
  | false => exact ⟨x, H1, I2, r1, q1⟩
theorem pe_orG {a b : PySem.Expr} {rest : List PySem.Expr} {pos : Pos} {ta tb : TE} (ha : PE X a ta) (hb : PE X (.BoolOp .Or (b :: rest) pos) tb) : PE X (.BoolOp .Or (a :: b :: rest) pos) (tOrG X.K ta tb) := by
  intro pins s σ H Q I h
  refine BoolOp_or (thn (ha pins s σ H _ I h) fun v s1 ⟨x, H1, I1, r1, k, t, q1⟩ => ?_)
  refine tru_keep I1 r1 t fun s2 I2 => ?_
  cases k with
  | false => exact hb pins s2 σ H1 Q I2 q1
  | true => exact ⟨x, H1, I2, r1, q1⟩
theorem pe_notG {a : PySem.Expr} {pos : Pos} {ta : TE} (ha : PE X a ta) : PE X (.UnaryOp .Not a pos) (tNotG X.K ta) := by
  intro pins s σ H Q I h
  refine UnaryOp_ (thn (ha pins s σ H _ I h) fun v s1 ⟨x, H1, I1, r1, k, t, q1⟩ => ?_)
  exact not_of (tru_keep I1 r1 t fun s2 I2 => ⟨.bl (!k), H1, I2, rfl, q1⟩)
theorem pw_of {op : BoolOp} {vs : List PySem.Expr} {pos : Pos} {t : TT} (h : PT X (.BoolOp op vs pos) t) : PW X (.BoolOp op vs pos) t := fun wh pins s σ H Q I q => by
  have := h pins s σ H Q I q
  exact this
theorem star_one {e : PySem.Expr} (es : List PySem.Expr) (h : noStar e = true) : starEach (e :: es) X.env = (false, eval e X.env) :: starEach es X.env := by
  cases e <;> first | rfl | (cases h; done)
theorem back_none (pos : Pos) : ∀ {l : Es} {es : List PySem.Expr}, chks N sc G l es = true → (backTo pos (starEach es X.env)).any (·.1) = false
  | .nil, [], _ => rfl
  | .cons c l, e :: es, h => by
    have h' : (noStar e && chk N sc G c e && chks N sc G l es) = true := h
    simp only [Bool.and_eq_true] at h'
    rw [star_one es h'.1.1]
    have ih := back_none pos (l := l) (es := es) h'.2
    show (backTo pos ((false, eval e X.env) :: starEach es X.env)).any (·.1) = false
    exact (show (false || (backTo pos (starEach es X.env)).any (·.1)) = false by rw [ih]; rfl)
  | .nil, _ :: _, h => absurd (show false = true from h) Bool.false_ne_true
  | .cons _ _, [], h => absurd (show false = true from h) Bool.false_ne_true
end
end Ng

end
section
set_option Elab.async false
set_option linter.all false
set_option maxRecDepth 100000
set_option maxHeartbeats 4000000
set_option autoImplicit false
namespace Ng
open PySem PySem.Spec PyProof.Rows L2
/-! ### a comprehension's block -/
def clStep (env : Env) (p : Str × NameKind) (cs : List (Str × Addr)) : List (Str × Addr) := if (p.2 == .free) = true then (match env.cells.lookup p.1 with | some c => (p.1, c) :: cs | none => cs) else cs
def clOf (scope : Scope) (env : Env) : List (Str × Addr) := scope.names.foldl (fun cs p => clStep env p cs) []
theorem forIn_pure {f : Str × NameKind → List (Str × Addr) → Sem (ForInStep (List (Str × Addr)))} {g : Str × NameKind → List (Str × Addr) → List (Str × Addr)} : ∀ (l : List (Str × NameKind)) (acc : List (Str × Addr)), (∀ p ∈ l, ∀ cs, f p cs = pure (.yield (g p cs))) → forIn l acc f = pure (l.foldl (fun cs p => g p cs) acc)
  | [], acc, _ => rfl
  | p :: l, acc, h => by
    rw [List.forIn_cons, h p List.mem_cons_self]
    show (forIn l (g p acc) f) = _
    rw [forIn_pure l (g p acc) fun q hq => h q (List.mem_cons_of_mem _ hq)]
    rfl
theorem closure_is {scope : Scope} {env : Env} (h : ∀ p ∈ scope.names, p.2 = .free → ∃ c, env.cells.lookup p.1 = some c) : closureFor scope env = pure (clOf scope env) := by
  simp only [closureFor]
  rw [forIn_pure (g := clStep env) scope.names [] (fun p hp cs => by
    obtain ⟨n, k⟩ := p
    cases hk : (k == NameKind.free) with
    | false => (simp only [hk, clStep, Bool.false_eq_true, if_false] <;> rfl)
    | true =>
      obtain ⟨c, hc⟩ := h (n, k) hp (by simpa using hk)
      (simp only [hk, clStep, if_true, hc, cellOf] <;> rfl))]
  rfl
theorem cl_mem {env : Env} : ∀ (l : List (Str × NameKind)) (acc : List (Str × Addr)), (∀ q ∈ acc, env.cells.lookup q.1 = some q.2) → ∀ q ∈ l.foldl (fun cs p => clStep env p cs) acc, env.cells.lookup q.1 = some q.2
  | [], acc, h => h
  | p :: l, acc, h => cl_mem l (clStep env p acc) fun q hq => by
    unfold clStep at hq
    split at hq
    · split at hq
      · rename_i c hc
        rcases List.mem_cons.mp hq with rfl | hq
        · exact hc
        · exact h q hq
      · exact h q hq
    · exact h q hq
theorem cl_sub {env : Env} : ∀ (l : List (Str × NameKind)) (acc : List (Str × Addr)) (q : Str × Addr), q ∈ acc → q ∈ l.foldl (fun cs p => clStep env p cs) acc
  | [], acc, q, h => h
  | p :: l, acc, q, h => cl_sub l (clStep env p acc) q (by
    unfold clStep
    split
    · split
      · exact List.mem_cons_of_mem _ h
      · exact h
    · exact h)
theorem cl_has {env : Env} : ∀ (l : List (Str × NameKind)) (acc : List (Str × Addr)) (n : Str) (c : Addr), (n, NameKind.free) ∈ l → env.cells.lookup n = some c → (n, c) ∈ l.foldl (fun cs p => clStep env p cs) acc
  | [], _, _, _, h, _ => by cases h
  | p :: l, acc, n, c, h, hc => by
    rcases List.mem_cons.mp h with rfl | h
    · refine cl_sub l (clStep env (n, NameKind.free) acc) (n, c) ?_
      unfold clStep
      rw [if_pos (by rfl)]
      simp only [hc]
      exact List.mem_cons_self
    · exact cl_has l _ n c h hc
theorem lookup_some_of_mem {α : Type} {n : Str} {c : α} : ∀ {l : List (Str × α)}, (n, c) ∈ l → ∃ c', l.lookup n = some c'
  | [], h => by cases h
  | (m, d) :: l, h => by
    cases e : n == m with
    | true => exact ⟨d, by simp [List.lookup_cons, e]⟩
    | false =>
      rcases List.mem_cons.mp h with z | z
      · cases z; simp at e
      · obtain ⟨c', hc'⟩ := lookup_some_of_mem z
        exact ⟨c', by simp only [List.lookup_cons, e]; exact hc'⟩
theorem clOf_lookup {scope : Scope} {env : Env} {n : Str} {c : Addr} (h : (clOf scope env).lookup n = some c) : env.cells.lookup n = some c :=
  cl_mem scope.names [] (fun _ hq => by cases hq) (n, c) (PySem.mem_of_lookup h)
theorem clOf_has {scope : Scope} {env : Env} {n : Str} {c : Addr} (h : (n, NameKind.free) ∈ scope.names) (hc : env.cells.lookup n = some c) : (clOf scope env).lookup n = some c := by
  obtain ⟨c', hc'⟩ := lookup_some_of_mem (cl_has scope.names [] n c h hc)
  have := clOf_lookup hc'
  rw [hc] at this; cases this
  exact hc'
theorem relab_lookup {scope sc : Scope} {x : Str} {k' : NameKind} (h : (relab scope sc).names.lookup x = some k') : ∃ k, scope.names.lookup x = some k ∧ (k' = k ∨ (k = .free ∧ k' = .cell)) := by
  unfold relab at h
  have go : ∀ (l : List (Str × NameKind)), (l.map fun (n, k) => if (k == .free && sc.kind == .function && sc.names.lookup n == some .cell) then (n, NameKind.cell) else (n, k)).lookup x = some k' → ∃ k, l.lookup x = some k ∧ (k' = k ∨ (k = .free ∧ k' = .cell)) := by
    intro l
    induction l with
    | nil => intro h; simp at h
    | cons p l ih =>
      intro h
      obtain ⟨n, k⟩ := p
      cases e : x == n with
      | true =>
        refine ⟨k, by simp [List.lookup_cons, e], ?_⟩
        simp only [List.map_cons] at h
        by_cases hc : (k == .free && sc.kind == .function && sc.names.lookup n == some .cell) = true
        · rw [if_pos hc] at h
          simp only [List.lookup_cons, e] at h
          simp only [Bool.and_eq_true, beq_iff_eq] at hc
          exact .inr ⟨hc.1.1, (Option.some.inj h).symm⟩
        · rw [if_neg hc] at h
          simp only [List.lookup_cons, e] at h
          exact .inl (Option.some.inj h).symm
      | false =>
        simp only [List.map_cons] at h
        have h' : (l.map fun (n, k) => if (k == .free && sc.kind == .function && sc.names.lookup n == some .cell) then (n, NameKind.cell) else (n, k)).lookup x = some k' := by
          by_cases hc : (k == .free && sc.kind == .function && sc.names.lookup n == some .cell) = true
          · rw [if_pos hc] at h; simp only [List.lookup_cons, e] at h; exact h
          · rw [if_neg hc] at h; simp only [List.lookup_cons, e] at h; exact h
        obtain ⟨k2, e2, e3⟩ := ih h'
        exact ⟨k2, by simp only [List.lookup_cons, e]; exact e2, e3⟩
  exact go scope.names h
theorem relab_cell {scope sc : Scope} {x : Str} (h : scope.names.lookup x = some .free) (hk : sc.kind = .function) (hc : sc.names.lookup x = some .cell) : (relab scope sc).names.lookup x = some .cell := by
  unfold relab
  have go : ∀ (l : List (Str × NameKind)), l.lookup x = some .free → (l.map fun (n, k) => if (k == .free && sc.kind == .function && sc.names.lookup n == some .cell) then (n, NameKind.cell) else (n, k)).lookup x = some .cell := by
    intro l
    induction l with
    | nil => intro h; simp at h
    | cons p l ih =>
      intro h
      obtain ⟨n, k⟩ := p
      cases e : x == n with
      | true =>
        have ex : x = n := by simpa using e
        subst ex
        simp only [List.lookup_cons, e] at h
        cases h
        simp [List.map_cons, hk, hc]
      | false =>
        simp only [List.lookup_cons, e] at h
        simp only [List.map_cons]
        by_cases hc : (k == .free && sc.kind == .function && sc.names.lookup n == some .cell) = true
        · rw [if_pos hc]; simp only [List.lookup_cons, e]; exact ih h
        · rw [if_neg hc]; simp only [List.lookup_cons, e]; exact ih h
  exact go scope.names h
structure ScOk (scope sc : Scope) : Prop where
  kind : scope.kind = .function
  out : sc.kind = .function
  cell : ∀ p ∈ scope.names, p.2 ≠ .cell
  loc : ∀ p ∈ scope.names, p.2 = .local → scope.names.lookup p.1 = some .local
  free : ∀ p ∈ scope.names, p.2 = .free → sc.names.lookup p.1 = some .cell
theorem scOk_of {scope sc : Scope} (h : scOk scope sc = true) : ScOk scope sc := by
  unfold scOk at h
  simp only [Bool.and_eq_true, beq_iff_eq, List.all_eq_true, Bool.or_eq_true, Bool.not_eq_true'] at h
  obtain ⟨⟨h1, h2⟩, h3⟩ := h
  refine ⟨h1, h2, fun p hp e => ?_, fun p hp e => ?_, fun p hp e => ?_⟩
  · have := (h3 p hp).1.1; rw [e] at this; simp at this
  · rcases (h3 p hp).1.2 with z | z
    · rw [e] at z; simp at z
    · simpa using z
  · rcases (h3 p hp).2 with z | z
    · rw [e] at z; simp at z
    · simpa using z
def blkX (X : Cx) (N' : List Str) (scope : Scope) (C : Addr) (s3 : Shared) (H3 : Hp) (fp : List Addr) : Cx :=
  { X with N := N', s₀ := s3, H₀ := H3, env := compEnvC scope (clOf scope X.env) C X.env, outer := X.stack, stack := X.stack, ex := fp, fn := fun _ => false, pn := [], xe := fun _ _ => False }
def blkS (N' : List Str) (cap : List Nat) (σ : Sg) : Sg := List.replicate (N'.length - cap.length) none ++ cap.map fun (i : Nat) => (match σ[i]? with | some x => x | none => none)
section
variable {X : Cx} {pins : List (Addr × Obj)} {σ : Sg} {H3 : Hp} {s3 : Shared} {N' : List Str} {scope : Scope} {fp : List Addr} {cap : List Nat}
theorem blk_start (I : Inv X pins σ H3 s3) (S : ScOk scope X.env.scope) (hcap : cap.length ≤ N'.length) (hN : (N'.drop (N'.length - cap.length)).map some = cap.map (fun (i : Nat) => X.N[i]?)) (hfr : ∀ x ∈ N'.drop (N'.length - cap.length), scope.names.lookup x = some .free)
    {h1 : Heap} {tk : Nat} {m : Str → Option Value} (hns : h1.Ns s3.heap.objs.size m) (hsb : Heap.SameBut s3.heap.objs.size (s3.heap.push { cls := .type "dict", data := .dict #[] }) h1)
    (hfp : ∀ b ∈ fp, FpOk X pins H3 b) (hob : ∀ b ∈ fp, b < s3.heap.objs.size) (hfb : ∀ b ∈ fp, ∀ o, X.base.get? b ≠ some o) : Inv (blkX X N' scope s3.heap.objs.size s3 H3 fp) [] (blkS N' cap σ) H3 { s3 with heap := h1, toks := tk } := by
  have keep : ∀ b o, s3.heap.get? b = some o → h1.get? b = some o := fun b o e => hsb.extBut b o (Nat.ne_of_lt (Heap.lt_size e)) (Heap.get?_push_of_some _ e)
  have stkN : ∀ b, b ≠ X.env.locals → b ∉ X.fs → b ∉ frs X.stack := fun b h1 h2 hb => (List.mem_cons.mp (I.stkSub b hb)).elim h1 h2
  have kd : X.env.scope.kind = .function := I.ok.kind
  have cellFree : ∀ x, (relab scope X.env.scope).names.lookup x = some .cell ∨ (relab scope X.env.scope).names.lookup x = some .free → (x, NameKind.free) ∈ scope.names := fun x hx => by
    have : ∃ k', (k' = NameKind.cell ∨ k' = .free) ∧ (relab scope X.env.scope).names.lookup x = some k' := by
      rcases hx with h | h
      · exact ⟨_, .inl rfl, h⟩
      · exact ⟨_, .inr rfl, h⟩
    obtain ⟨k', hk', h⟩ := this
    obtain ⟨k, e1, e2⟩ := relab_lookup h
    have hm := PySem.mem_of_lookup e1
    rcases e2 with rfl | ⟨rfl, _⟩
    · rcases hk' with rfl | rfl
      · exact absurd rfl (S.cell _ hm)
      · exact hm
    · exact hm
  have hasC : ∀ x, (x, NameKind.free) ∈ scope.names → ∃ c, X.env.cells.lookup x = some c := fun x hx => I.ok.has x (.inl (S.free _ hx rfl))
  refine ⟨⟨I.ok.mod, by show (relabel scope X.env).kind = _; exact S.kind, I.ok.glob, I.ok.blt, Nat.le_refl _, fun x y c h1 h2 => I.ok.inj x y c (clOf_lookup h1) (clOf_lookup h2), fun x hx => ?_, fun x c h _ => (by cases h), I.ok.hd, I.ok.frames, .inl rfl, fun b hb => ⟨Nat.ne_of_lt (hob b hb), fun x c e => (hfp b hb).2.2.2.2.1 x c (clOf_lookup e)⟩, I.bs, Nat.le_trans I.ok.bsz I.sz, fun b o e hb => hfb b hb o e, fun b hb => stkN b (hfp b hb).2.1 (hfp b hb).2.2.1, I.stack, I.stkFree⟩,
    rfl, I.bare, Un.kept keep, ⟨m, hns, fun i x v e1 e2 e3 => ?_⟩, fun x c e => ?_, I.hok.fresh (Nat.le_refl _), fun x c e => I.freeC x c (clOf_lookup e), fun p hp => absurd (show p ∈ ([] : List (Addr × Obj)) from hp) (by simp), I.hok.kept keep, ?_⟩
  · obtain ⟨c, hc⟩ := hasC x (cellFree x hx)
    exact ⟨c, clOf_has (cellFree x hx) hc⟩
  · -- a captured name
    have hi : ¬ i < N'.length - cap.length := fun hi => by
      unfold blkS at e2
      rw [List.getElem?_append_left (by simpa using hi), List.getElem?_replicate] at e2
      split at e2 <;> cases e2
    have e1' : N'[i]? = some x := e1
    have hiN : i < N'.length := (List.getElem?_eq_some_iff.mp e1').1
    unfold blkS at e2
    rw [List.getElem?_append_right (by simpa using hi), List.length_replicate, List.getElem?_map] at e2
    have hd : (N'.drop (N'.length - cap.length))[i - (N'.length - cap.length)]? = some x := by
      rw [List.getElem?_drop]
      rw [show N'.length - cap.length + (i - (N'.length - cap.length)) = i by omega]
      exact e1'
    cases ec : cap[i - (N'.length - cap.length)]? with
    | none => rw [ec] at e2; cases e2
    | some j =>
      rw [ec] at e2
      have hj : X.N[j]? = some x := by
        have z := congrArg (fun l => l[i - (N'.length - cap.length)]?) hN
        simp only [List.getElem?_map, hd, ec, Option.map_some] at z
        exact (Option.some.inj z).symm
      have hσ : σ[j]? = some (some v) := by
        have e2' : (match σ[j]? with | some x => x | none => none) = some v := Option.some.inj e2
        cases q : σ[j]? with
        | none => rw [q] at e2'; cases e2'
        | some y => rw [q] at e2'; exact congrArg some e2'
      have hxf : scope.names.lookup x = some .free := hfr x (List.mem_of_getElem? hd)
      have hxc := S.free _ (PySem.mem_of_lookup hxf) rfl
      obtain ⟨m0, hn0, hl0⟩ := I.loc
      obtain ⟨u, ru, l0⟩ := hl0 j x v hj hσ (.inr (.inl hxc))
      refine ⟨u, ru, .inr ⟨.inl ?_, ?_⟩⟩
      · show (relabel scope X.env).names.lookup x = some .cell
        exact relab_cell (sc := X.env.scope) hxf kd hxc
      · rcases l0 with ⟨z, _⟩ | ⟨_, c, hc, o, ho, hd'⟩
        · have z' : X.env.scope.names.lookup x = some .local := z
          rw [hxc] at z'; cases z'
        · exact ⟨c, clOf_has (PySem.mem_of_lookup hxf) hc, o, keep c o ho, hd'⟩
  · obtain ⟨v, o, ho, hd⟩ := I.cell x c (clOf_lookup e)
    exact ⟨v, o, keep c o ho, hd⟩
  · unfold blkS
    show _ = N'.length
    rw [List.length_append, List.length_replicate, List.length_map]
    omega
end
/-! ### its loop -/
def testsOf (ifs : List PySem.Expr) (env : Env) (b : Bool) : Sem Bool := forIn ifs b fun c r => if r = true then do let ok ← isTrue c env (eval c env); pure (ForInStep.yield ok) else pure (ForInStep.yield r)
abbrev nev : Value → Shared → Prop := fun _ _ => False
theorem comp_loop {elt tg iter : PySem.Expr} {ifs : List PySem.Expr} {scope : Scope} {pos : Pos} {it acc : Value} {env : Env} {P : Program} {w : World} {A : Around} {R : Result → Shared → Prop} {s : Shared} (J : Nat → Shared → Prop)
    (turn : ∀ k s, J k s → wpAny (model P w) A (pyNext it) (fun r s1 => match r with
      | none => R (.ok .next) s1
      | some v => wpAny (model P w) A (letOwnedTupleGo tg it v) (fun _ s2 => wpAny (model P w) A (assign tg env v) (fun _ s3 => wpAny (model P w) A (testsOf ifs env true) (fun ok s4 =>
          if ok = true then wpAny (model P w) A (eval elt env) (fun x s5 => wpAny (model P w) A (call (.builtin "list.append") [acc, x]) (fun _ s6 => ∃ k', k' < k ∧ J k' s6) nev s5) nev s4
          else ∃ k', k' < k ∧ J k' s4) nev s3) nev s2) nev s1) nev s)
    (k : Nat) (h : J k s) : codeAny (model P w) A (.compLoop (.ListComp elt [⟨tg, iter, ifs, 0⟩] scope pos) 0 it acc env) R s := by
  refine codeAny_loop (I := J) rfl (turn := fun k s hk => ?_) k h
  show wpAny _ A (Sem.onRaise (compTurn (.ListComp elt [⟨tg, iter, ifs, 0⟩] scope pos) 0 it acc env) (fun x => do noteFrame x env; theTreesLotGoes x)) _ _ s
  refine wpAny_noted ?_
  rw [compTurn_list]
  have no : ∀ {E : Value → Shared → Prop} (e : Value) (s : Shared), nev e s → E e s := fun _ _ f => f.elim
  refine wpAny_bind (wpAny_standAt (wpAny_bind (wpAny_mono (turn k s hk) (fun r s1 q1 => ?_) no)))
  cases r with
  | none => exact wpAny_pure q1
  | some v =>
    refine wpAny_bind (wpAny_mono q1 (fun _ s2 q2 => wpAny_bind (wpAny_mono q2 (fun _ s3 q3 => wpAny_bind (wpAny_mono q3 (fun ok s4 q4 => ?_) no)) no)) no)
    cases ok with
    | false => exact wpAny_pure ⟨rfl, q4⟩
    | true => exact wpAny_bind (wpAny_bind (wpAny_mono q4 (fun x s5 q5 => wpAny_bind (wpAny_mono q5 (fun _ s6 q6 => wpAny_pure (wpAny_pure ⟨rfl, q6⟩)) no)) no))
end Ng

end
section
set_option Elab.async false
set_option linter.all false
set_option maxRecDepth 100000
set_option maxHeartbeats 4000000
set_option autoImplicit false
namespace Ng
open PySem PySem.Spec PyProof.Rows L2
def TDG (K : PySem.W.Frag) (t : Tg) : TG := fun v s H Q => ∃ m h r d r', Wd K m h H ∧ RSt K m H r s ∧ RD K m H d v ∧ setT t d r = some r' ∧ ∀ s', RSt K m H r' s' → Q s' H
def TDB (K : PySem.W.Frag) (f : Ev → Hh → Rs Bool) : TT := fun s H Q => ∃ m r h b h', Wd K m h H ∧ RSt K m H r s ∧ f r h = .ok b h' ∧ ∀ m' H', Gr K m H m' H' → Wd K m' h' H' → Q b H'
def PTs (X : Cx) (ifs : List PySem.Expr) (t : TT) : Prop := ∀ (pins : List (Addr × Obj)) (s : Shared) (σ : Sg) (H : Hp) (Q : Bool → Hp → Prop), Inv X pins σ H s → t σ H Q → wpAny (model X.prog X.w) X.A (testsOf ifs X.env true) (TP X pins σ Q) X.xe s
/-- one turn, by the data -/
def Stp (K : PySem.W.Frag) (t : Tg) (cs : Ev → Hh → Rs Bool) (f : Ev → Hh → Rs D) (n0 : Nat) (h' : Hh) (J : It) (Lp : Nat → Nat → Ev → Hh → Prop) (i k : Nat) (r : Ev) (h : Hh) (m : List Addr) (H : Hp) : Prop :=
  (J.stop i H ∧ h = h') ∨ (J.go i H ∧ ∃ d, (∀ x H2, J.yld i H x H2 → H2 = H ∧ RD K m H d x) ∧ ∃ r1, setT t d r = some r1 ∧ ∃ b h1, cs r1 h = .ok b h1 ∧
    if b = true then ∃ y h2 z h3, f r1 h1 = .ok y h2 ∧ appD (.ref n0) y h2 = .ok z h3 ∧ ∃ k', k' < k ∧ Lp (i + 1) k' r1 h3 else ∃ k', k' < k ∧ Lp (i + 1) k' r1 h1)
theorem un_but {fs ex : List Addr} {H H' : Hp} {h h1 h2 : Heap} {C : Addr} (u : Un fs ex H H' h h1) (hC : h.objs.size ≤ C) (k : ∀ b o, b ≠ C → h1.get? b = some o → h2.get? b = some o) : Un fs ex H H' h h2 :=
  have ne : ∀ b o, h.get? b = some o → b ≠ C := fun b o e => Nat.ne_of_lt (Nat.lt_of_lt_of_le (Heap.lt_size e) hC)
  ⟨fun b o e n hb hx => k b o (ne b o e) (u.keep b o e n hb hx), fun b o e n hb hx => let ⟨sl, q⟩ := u.slot b o e n hb hx; ⟨sl, k b _ (ne b o e) q⟩, u.free, fun b o e hx => let ⟨o', q⟩ := u.there b o e hx; ⟨o', k b o' (ne b o e) q⟩, u.tups, u.frzs, u.tbls⟩
section
variable {X : Cx} {G : Gs} {cl : Cl} {N' : List Str} {scope : Scope} {cap : List Nat} {tg elt iter : PySem.Expr} {ifs : List PySem.Expr} {pos : Pos} {t : Tg} {ft : Ev → Hh → Rs Bool} {fe : Ev → Hh → Rs D}
theorem blockE_rel {K : PySem.W.Frag} {m : List Addr} {H : Hp} {r : Ev} {σ : Sg} (st : RSt K m H r σ) : RSt K m H (blockE N' cap r) (blkS N' cap σ) := by
  refine ⟨by simp [blockE, blkS], fun i d e => ?_⟩
  unfold blockE at e
  unfold blkS
  by_cases hi : i < N'.length - cap.length
  · rw [List.getElem?_append_left (by simpa using hi), List.getElem?_replicate] at e
    split at e <;> cases e
  · rw [List.getElem?_append_right (by simpa using hi), List.length_replicate, List.getElem?_map] at e
    rw [List.getElem?_append_right (by simpa using hi), List.length_replicate, List.getElem?_map]
    cases ec : cap[i - (N'.length - cap.length)]? with
    | none => rw [ec] at e; cases e
    | some j =>
      rw [ec] at e
      have e' : capV r j = some d := Option.some.inj e
      have hr : r[j]? = some (some d) := by
        unfold capV at e'
        cases q : r[j]? with
        | none => rw [q] at e'; cases e'
        | some y => rw [q] at e'; exact congrArg some e'
      obtain ⟨v, hv, rv⟩ := st.2 j d hr
      refine ⟨v, ?_, rv⟩
      show some (match σ[j]? with | some x => x | none => none) = some (some v)
      rw [hv]
theorem comp_core {pins : List (Addr × Obj)} {σ : Sg} {H2 : Hp} {s2 : Shared} {J : It} {fp : List Addr} {it : Addr} {tn : Nat → Heap → Prop} {m2 : List Addr} {h2 h' : Hh} {r : Ev} (S : ScOk scope X.env.scope) (hcap : cap.length ≤ N'.length)
    (hN : (N'.drop (N'.length - cap.length)).map some = cap.map (fun (i : Nat) => X.N[i]?)) (hfr : ∀ x ∈ N'.drop (N'.length - cap.length), scope.names.lookup x = some .free) (calm : X.calm = true)
    (blk : ∀ (C : Addr) (s3 : Shared) (H3 : Hp) (fp : List Addr), PG (blkX X N' scope C s3 H3 fp) tg (TDG X.K t) ∧ PTs (blkX X N' scope C s3 H3 fp) ifs (TDB X.K ft) ∧ PE (blkX X N' scope C s3 H3 fp) elt (TDE X.K fe))
    (I : Inv X pins σ H2 s2) (T : Turn X.prog X.w X.K tg J fp it tn) (st : tn 0 s2.heap) (fok : ∀ b ∈ fp, FpOk X pins H2 b) (w2 : Wd X.K m2 h2 H2) (rst : RSt X.K m2 H2 r σ)
    (Lp : Nat → Nat → Ev → Hh → Prop) (k0 : Nat) (L0 : Lp 0 k0 (blockE N' cap r) (h2 ++ [.lst []])) (hst : ∀ i k r h m H, Gr X.K m2 H2 m H → Wd X.K m h H → Lp i k r h → Stp X.K t ft fe h2.length h' J Lp i k r h m H)
    {Rr : Value → Addr → Result → Shared → Prop}
    (c : ∀ (acc C : Addr) (s1 : Shared) (H' : Hp) (m' : List Addr), Inv X pins σ H' s1 → (∃ mm, s1.heap.Ns C mm) → H' C = none → C ≠ X.env.locals → X.s₀.heap.objs.size ≤ C → (∀ x a, X.env.cells.lookup x = some a → a ≠ C) → (∀ p ∈ X.pn ++ pins, p.1 ≠ C) → Gr X.K m2 H2 m' H' → Wd X.K m' h' H' → RD X.K m' H' (.ref h2.length) (.ref acc) → Rr (.ref acc) C (.ok .next) s1) :
    wpAny (model X.prog X.w) X.A (newList []) (fun acc s3 => wpAny (model X.prog X.w) X.A (newFunctionEnv scope X.env.globals (clOf scope X.env) [] X.env.qual none .none (some X.env)) (fun cenv s4 =>
      codeAny (model X.prog X.w) X.A (.compStart (.ListComp elt [⟨tg, iter, ifs, 0⟩] scope pos) 0 (.ref it) acc { cenv with scope := relabel scope X.env }) (Rr acc cenv.locals) s4) X.xe s3) X.xe s2 := by
  -- the iterator's objects stand in the heap, and none of them is the module's
  have fob : ∀ b ∈ fp, b < s2.heap.objs.size := fun b hb => let ⟨o, e, _⟩ := T.obj 0 _ st b hb; Heap.lt_size e
  have ffb : ∀ b ∈ fp, ∀ o, X.base.get? b ≠ some o := fun b hb o e => by
    rcases (fok b hb).2.2.2.1 with z | z
    · exact I.ok.noex b o e z
    · exact absurd (Nat.lt_of_lt_of_le (Heap.lt_size (I.ok.bs b o e).1) z) (Nat.lt_irrefl _)
  have hacc0 : H2 s2.heap.objs.size = none := I.hok.fresh (Nat.le_refl _)
  refine wpAny_newObj_type (wpAny_newFunctionEnv S.cell (by intro y hy; simp at hy) (fun h1 hns hsb => ?_) S.kind)
  dsimp only at hns hsb ⊢
  -- the list is laid
  obtain ⟨w3, g3⟩ := w2.lstNew (ds := []) (vs := []) hacc0 .nil
  have I3 : Inv X pins σ (upd H2 s2.heap.objs.size (.lst [])) { s2 with heap := s2.heap.push { cls := .type "list", dict := none, data := .seq ([] : List Value).toArray } } :=
    I.laid (t' := s2.toks) (fun b u e => Heap.get?_push_of_some _ e) (Nat.le_refl _) ⟨Nat.zero_le _, [], 0, .nil, Heap.get?_push_size _ rfl⟩
  have fok3 : ∀ b ∈ fp, FpOk X pins (upd H2 s2.heap.objs.size (.lst [])) b := fun b hb => ⟨by rw [upd_ne (Nat.ne_of_lt (fob b hb))]; exact (fok b hb).1, (fok b hb).2⟩
  have st3 : tn 0 h1 := T.keep _ _ _ st fun b hb o e => hsb.extBut b o (by
    show b ≠ (s2.heap.push _).objs.size
    rw [Heap.size_push]; exact Nat.ne_of_lt (Nat.lt_succ_of_lt (fob b hb))) (Heap.get?_push_of_some _ (Heap.get?_push_of_some _ e))
  have I4 := blk_start (N' := N') (scope := scope) (fp := fp) (cap := cap) I3 S hcap hN hfr (h1 := h1) (tk := s2.toks) hns hsb fok3 (fun b hb => by
    show b < (s2.heap.push _).objs.size
    rw [Heap.size_push]; exact Nat.lt_succ_of_lt (fob b hb)) ffb
  have hsz : (s2.heap.push { cls := .type "list", dict := none, data := .seq ([] : List Value).toArray }).objs.size = s2.heap.objs.size + 1 := Heap.size_push ..
  generalize hs3 : ({ s2 with heap := s2.heap.push { cls := .type "list", dict := none, data := .seq ([] : List Value).toArray } } : Shared) = s3 at I3 I4
  have eh3 : s2.heap.push { cls := .type "list", dict := none, data := .seq ([] : List Value).toArray } = s3.heap := by rw [← hs3]
  rw [eh3] at hns hsb hsz ⊢
  generalize hH3 : upd H2 s2.heap.objs.size (.lst []) = H3 at I3 I4 w3 g3 fok3
  obtain ⟨bG, bT, bE⟩ := blk s3.heap.objs.size s3 H3 fp
  have ha : (m2 ++ [s2.heap.objs.size])[h2.length]? = some s2.heap.objs.size := by rw [← w2.len]; simp
  have stkN : ∀ b, b ≠ X.env.locals → b ∉ X.fs → b ∉ frs X.stack := fun b h1 h2 hb => (List.mem_cons.mp (I3.stkSub b hb)).elim h1 h2
  -- the iterator's objects, seen from the block
  have fokB : ∀ {H : Hp}, (∀ b ∈ fp, H b = none) → ∀ b ∈ fp, FpOk (blkX X N' scope s3.heap.objs.size s3 H3 fp) [] H b := fun hn b hb =>
    ⟨hn b hb, Nat.ne_of_lt (by rw [hsz]; exact Nat.lt_succ_of_lt (fob b hb)), stkN b (fok b hb).2.1 (fok b hb).2.2.1, .inl hb, fun x c e => (fok b hb).2.2.2.2.1 x c (clOf_lookup e), fun p hp => absurd (show p ∈ ([] : List (Addr × Obj)) from hp) (by simp)⟩
  have hw : X.w = X.w := rfl
  have loop : ∀ s4 : Shared, s4 = { s3 with heap := h1, toks := s2.toks } → codeAny (model X.prog X.w) X.A (.compLoop (.ListComp elt [⟨tg, iter, ifs, 0⟩] scope pos) 0 (.ref it) (.ref s2.heap.objs.size) (compEnvC scope (clOf scope X.env) s3.heap.objs.size X.env)) (Rr (.ref s2.heap.objs.size) s3.heap.objs.size) s4 := by
    rintro s4 rfl
    refine comp_loop (fun k s => ∃ i σ' H' m r h, Inv (blkX X N' scope s3.heap.objs.size s3 H3 fp) [] σ' H' s ∧ tn i s.heap ∧ (∀ b ∈ fp, H' b = none) ∧ Gr X.K (m2 ++ [s2.heap.objs.size]) H3 m H' ∧ Wd X.K m h H' ∧ RSt X.K m H' r σ' ∧ Lp i k r h) ?_ k0
      ⟨0, _, H3, _, _, _, I4, st3, fun b hb => (fok3 b hb).1, .refl, w3, blockE_rel (rst.mono g3), L0⟩
    rintro k s ⟨i, σ', H', m, r', h, I', st', fr', g', w', rst', L⟩
    rcases hst i k r' h m H' (g3.trans g') w' L with ⟨stop, rfl⟩ | ⟨go, d, hy, r1, er, b, hb1, eb, rest⟩
    · refine thn (T.done (blkX X N' scope s3.heap.objs.size s3 H3 fp) rfl rfl rfl calm i [] s σ' H' nev I' (fokB fr') st' stop) fun res s1 ⟨hr, I1⟩ => ?_
      subst hr
      obtain ⟨mm, hn1, _⟩ := id I1.loc
      obtain ⟨hp1, gg, dr, tk, os⟩ := s1
      obtain rfl : os = s3.os := I1.os
      have IX : Inv X pins σ H' { s3 with heap := hp1, gens := gg, drawn := dr, toks := tk } := I3.call (ch := fp) I1.base I1.hok I1.bare fun b hb => ⟨(fok3 b hb).2.2.2.1, (fok3 b hb).2.1, (fok3 b hb).2.2.2.2.1, (fok3 b hb).2.2.2.2.2⟩
      exact c _ _ _ H' m IX ⟨mm, hn1⟩ I1.free (Nat.ne_of_gt I3.lt) I3.sz (fun x a e => by
        obtain ⟨v, q⟩ := I3.cell x a e
        exact Nat.ne_of_lt q.lt) (fun p hp => Nat.ne_of_lt (Heap.lt_size (I3.pin p hp).1)) (g3.trans g') w' (.ref (g'.pre _ _ ha))
    · refine thn (T.item (blkX X N' scope s3.heap.objs.size s3 H3 fp) rfl rfl rfl calm i [] s σ' H' nev I' (fokB fr') st' go) fun res s1 ⟨u, hr, q1⟩ => ?_
      subst hr
      refine thn q1 fun _ s5 ⟨x, H5, I5, rx, yl, st5, fr5⟩ => ?_
      obtain ⟨eH, rd⟩ := hy x H5 yl
      subst eH
      have I5' := I5.pinned (fokB fr5) (T.obj _ _ st5)
      have again : ∀ {σ7 : Sg} {H7 : Hp} {s7 : Shared} {m7 : List Addr} {r7 : Ev} {h7 : Hh}, Inv (blkX X N' scope s3.heap.objs.size s3 H3 fp) ([] ++ pinsAt fp s5.heap) σ7 H7 s7 → Gr X.K m H5 m7 H7 → Wd X.K m7 h7 H7 → RSt X.K m7 H7 r7 σ7 → (∃ k', k' < k ∧ Lp (i + 1) k' r7 h7) →
          ∃ k', k' < k ∧ ∃ i σ' H' m r h, Inv (blkX X N' scope s3.heap.objs.size s3 H3 fp) [] σ' H' s7 ∧ tn i s7.heap ∧ (∀ b ∈ fp, H' b = none) ∧ Gr X.K (m2 ++ [s2.heap.objs.size]) H3 m H' ∧ Wd X.K m h H' ∧ RSt X.K m H' r σ' ∧ Lp i k' r h := fun {σ7 H7 s7 m7 r7 h7} I7 g7 w7 st7 ⟨k', hk, L7⟩ => by
        have pn : ∀ b ∈ fp, ∀ o, s5.heap.get? b = some o → s7.heap.get? b = some o ∧ H7 b = none := fun b hb o e => let z := I7.pin (b, o) (List.mem_append_right _ (List.mem_append_right _ (mem_pinsAt hb e))); ⟨z.1, z.2.1⟩
        exact ⟨k', hk, i + 1, σ7, H7, m7, r7, h7, I7.unpinned, T.keep _ _ _ st5 fun b hb o e => (pn b hb o e).1, fun b hb => let ⟨o, e, _⟩ := T.obj _ _ st5 b hb; (pn b hb o e).2, g'.trans g7, w7, st7, L7⟩
      refine thn (bG _ s5 σ' H5 x u (fun σ2 H6 => H6 = H5 ∧ RSt X.K m H5 r1 σ2) I5' rx ⟨m, h, r', d, r1, w', rst', rd, er, fun s' z => ⟨rfl, z⟩⟩) fun _ s6 ⟨σ6, H6, I6, eH6, st6⟩ => ?_
      subst eH6
      refine thn (bT _ s6 σ6 H6 (fun b' H7 => b' = b ∧ ∃ m7, Gr X.K m H6 m7 H7 ∧ Wd X.K m7 hb1 H7) I6 ⟨m, r1, h, b, hb1, w', st6, eb, fun m' H' g w => ⟨rfl, m', g, w⟩⟩) fun b' s7 ⟨H7, I7, e7, m7, g7, w7⟩ => ?_
      subst e7
      cases b' with
      | false =>
        rw [if_neg Bool.false_ne_true] at rest ⊢
        exact again I7 g7 w7 (st6.mono g7) rest
      | true =>
        rw [if_pos rfl] at rest ⊢
        obtain ⟨y, h8, z, h9, ey, ea, rest⟩ := rest
        refine thn (bE _ s7 σ6 H7 (fun v H8 => ∃ m8, Gr X.K m7 H7 m8 H8 ∧ Wd X.K m8 h8 H8 ∧ RD X.K m8 H8 y v) I7 ⟨m7, r1, hb1, y, h8, w7, st6.mono g7, ey, fun m' v H' g w rv => ⟨m', g, w, rv⟩⟩) fun yv s8 ⟨v, H8, I8, rv, m8, g8, w8, rdy⟩ => ?_
        have ha8 : m8[h2.length]? = some s2.heap.objs.size := g8.pre _ _ (g7.pre _ _ (g'.pre _ _ ha))
        simp only [appD] at ea
        split at ea <;> first | (cases ea; done) | skip
        rename_i l el
        split at ea <;> first | (cases ea; done) | skip
        rename_i hlen
        cases ea
        obtain ⟨vs, hv, rvs⟩ : ∃ vs, H8 s2.heap.objs.size = some (.lst vs) ∧ RDs X.K m8 H8 l vs := w8.ob _ _ _ el ha8
        obtain ⟨_, w9, g9⟩ := w8.lstSet el ha8 (rvs.append (.cons rdy .nil))
        refine thn (mt_append (X := blkX X N' scope s3.heap.objs.size s3 H3 fp) _ s8 σ6 H8 (.ref s2.heap.objs.size) [v] (.ref s2.heap.objs.size) [yv] (fun _ H9 => H9 = upd H8 s2.heap.objs.size (.lst (vs ++ [v]))) I8 rfl (.cons rv .nil) ⟨_, vs, v, rfl, rfl, hv, by rw [← rvs.length]; exact Nat.lt_of_lt_of_le hlen (by decide), rfl⟩) fun _ s9 ⟨_, H9, I9, _, e9⟩ => ?_
        subst e9
        exact again I9 ((g7.trans g8).trans g9) w9 (st6.mono ((g7.trans g8).trans g9)) rest
  have es : ({ s2 with heap := h1, toks := s2.toks + ([] : List (Str × Value)).length } : Shared) = { s3 with heap := h1, toks := s2.toks } := by subst hs3; rfl
  exact codeAny_compStart_list (loop _ es) (T.self X.A 0 _ _ _ st3 (loop _ es))
end
end Ng

end
section
set_option Elab.async false
set_option linter.all false
set_option maxRecDepth 100000
set_option maxHeartbeats 4000000
set_option autoImplicit false
namespace Ng
open PySem PySem.Spec PyProof.Rows L2
theorem _root_.L2.PG.wk {X : Cx} {e : PySem.Expr} {t t' : TG} (h : PG X e t) (i : ∀ v s H Q, t' v s H Q → t v s H Q) : PG X e t' := fun pins s σ H v u Q I r q => h pins s σ H v u Q I r (i _ _ _ _ q)
def gAll (is : List Nat) : TGs := fun vs s H Q => ∃ (K : PySem.W.Frag) (m : List Addr) (r : Ev) (ds : List D), RSt K m H r s ∧ RDs K m H ds vs ∧ ds.length = is.length ∧ ∀ s', RSt K m H (setAll is ds r) s' → Q s' H
section
variable {X : Cx} {N : List Str} {sc : Scope} {G : Gs} {cl : Cl} {K : PySem.W.Frag}
theorem locS_ok {x : Str} (h : locS sc x = true) : sc.names.lookup x = some .local := by
  unfold locS at h
  split at h
  · assumption
  · cases h
/-- targets, by what a name of theirs may be stored as -/
theorem pgsP (ok : PySem.Expr → Nat → Bool) (hok : ∀ e i, ok e i = true → ∃ x pos, e = .Name x pos ∧ PG X (.Name x pos) (gName i)) : ∀ {is : List Nat} {es : List PySem.Expr}, is.length = es.length → (∀ (j : Nat) i e, is[j]? = some i → es[j]? = some e → ok e i = true) → PGs X es (gAll is) ∧ (assignEach es X.env).length = is.length ∧ (assignEach es X.env).findIdx? (·.1) = none
  | [], [], _, _ => ⟨fun pins s σ H vs us Q I rv ⟨K, m, r, ds, st, rd, hl, c⟩ => by
      cases ds with
      | cons => cases hl
      | nil =>
        cases rd
        exact pgs_nil pins s σ H [] us Q I rv ⟨rfl, c _ st⟩, rfl, rfl⟩
  | i :: is, e :: es, hl, h => by
    obtain ⟨x, pos, rfl, pn⟩ := hok e i (h 0 i e rfl rfl)
    obtain ⟨ih, i2, i3⟩ := pgsP ok hok (is := is) (es := es) (by simpa using hl) fun j i e e1 e2 => h (j + 1) i e (by simpa using e1) (by simpa using e2)
    refine ⟨fun pins s σ H vs us Q I rv ⟨K, m, r, ds, st, rd, hl, c⟩ => ?_, ?_, ?_⟩
    · cases ds with
      | nil => cases hl
      | cons d ds =>
        cases rd with
        | cons r1 rd =>
          exact pgs_cons pn ih rfl pins s σ H _ us Q I rv ⟨_, _, rfl, K, m, _, ds, st.set i r1, rd, by simpa using hl, c⟩
    · show (assignEach es X.env).length + 1 = is.length + 1
      rw [i2]
    · show ((false, assign (.Name x pos) X.env) :: assignEach es X.env).findIdx? (·.1) = none
      rw [List.findIdx?_cons]
      simp [i3]
  | [], _ :: _, hl, _ => by simp at hl
  | _ :: _, [], hl, _ => by simp at hl
theorem pgT_of (ok : PySem.Expr → Nat → Bool) (hok : ∀ e i, ok e i = true → ∃ x pos, e = .Name x pos ∧ PG X (.Name x pos) (gName i)) (calm : X.calm = true) {t : Tg} {tg : PySem.Expr}
    (h : match t with | .nm i => ok tg i = true | .tp l => ∃ es k pos, tg = .Tuple es k pos ∧ l.length = es.length ∧ ∀ (j : Nat) i e, l[j]? = some i → es[j]? = some e → ok e i = true) : PG X tg (TDG X.K t) := by
  cases t with
  | nm i =>
    obtain ⟨x, pos, rfl, pn⟩ := hok tg i h
    refine pn.wk fun v s H Q ⟨m, hh, r, d, r', w, st, rd, e, c⟩ => ?_
    cases e
    exact c _ (st.set i rd)
  | tp l =>
    obtain ⟨es, k, pos, rfl, hl, h⟩ := h
    obtain ⟨p1, p2, p3⟩ := pgsP ok hok hl h
    refine (pg_tup calm p1 p2 p3).wk fun v s H Q ⟨m, hh, r, d, r', w, st, rd, e, c⟩ => ?_
    cases rd <;> first | (cases e; done) | skip
    rename_i a ds vs hq q _
    simp only [setT] at e
    split at e
    · rename_i hl
      cases e
      exact ⟨a, vs, rfl, hq, by rw [← q.length]; exact hl, X.K, m, r, ds, st, q, hl, c⟩
    · cases e
theorem chkNs'_of : ∀ {l : List Nat} {es : List PySem.Expr}, chkNs' N sc l es = true → l.length = es.length ∧ ∀ (j : Nat) i e, l[j]? = some i → es[j]? = some e → chkT' N sc (.nm i) e = true
  | [], [], _ => ⟨rfl, fun j i e h => by simp at h⟩
  | i :: is, e :: es, h => by
    cases e <;> first | exact absurd (show false = true from h) Bool.false_ne_true | skip
    rename_i x pos
    have h' : (N[i]? == some x && locS sc x && chkNs' N sc is es) = true := h
    rw [Bool.and_eq_true] at h'
    obtain ⟨i1, i2⟩ := chkNs'_of h'.2
    refine ⟨by simp [i1], fun j i' e' e1 e2 => ?_⟩
    cases j with
    | zero =>
      simp at e1 e2
      subst e1; subst e2
      exact h'.1
    | succ j => exact i2 j i' e' (by simpa using e1) (by simpa using e2)
  | [], _ :: _, h => absurd (show false = true from h) Bool.false_ne_true
  | _ :: _, [], h => absurd (show false = true from h) Bool.false_ne_true
theorem pgT' (xo : XOk X N sc) {t : Tg} {tg : PySem.Expr} (h : chkT' N sc t tg = true) : PG X tg (TDG X.K t) := by
  refine pgT_of (fun e i => chkT' N sc (.nm i) e) (fun e i he => ?_) xo.calm ?_
  · cases e <;> first | exact absurd (show false = true from he) Bool.false_ne_true | skip
    rename_i x pos
    have h' : (N[i]? == some x && locS sc x) = true := he
    simp only [Bool.and_eq_true, beq_iff_eq] at h'
    have hl := locS_ok h'.2
    exact ⟨x, pos, rfl, pg_name xo.nd (by rw [xo.n]; exact h'.1) (.inl (by rw [xo.s]; exact hl)) (.inr (by rw [xo.s]; exact hl))⟩
  · cases t with
    | nm i => exact h
    | tp l =>
      cases tg <;> first | exact absurd (show false = true from h) Bool.false_ne_true | skip
      rename_i es k pos
      obtain ⟨h1, h2⟩ := chkNs'_of (show chkNs' N sc l es = true from h)
      exact ⟨es, k, pos, rfl, h1, h2⟩
/-! ### the turns, by the data -/
section
variable {t : Tg} {ft : Ev → Hh → Rs Bool} {fe : Ev → Hh → Rs D} {n0 : Nat} {h' : Hh} {J : It} {m2 : List Addr} {H2 : Hp} {r0 : Ev} {h0 : Hh}
abbrev Turns (K : PySem.W.Frag) (t : Tg) (ft : Ev → Hh → Rs Bool) (fe : Ev → Hh → Rs D) (n0 : Nat) (h' : Hh) (J : It) (m2 : List Addr) (H2 : Hp) (r0 : Ev) (h0 : Hh) : Prop := ∃ (Lp : Nat → Nat → Ev → Hh → Prop) (k0 : Nat), Lp 0 k0 r0 h0 ∧ ∀ i k r h m H, Gr K m2 H2 m H → Wd K m h H → Lp i k r h → Stp K t ft fe n0 h' J Lp i k r h m H
theorem turns_static {l : List D} (e : compS t ft fe n0 l r0 h0 = .ok () h') (hgo : ∀ (i : Nat) d m H, Gr K m2 H2 m H → l[i]? = some d → J.go i H ∧ ∀ x H', J.yld i H x H' → H' = H ∧ RD K m H d x) (hstop : ∀ (i : Nat) m H, Gr K m2 H2 m H → l.length ≤ i → J.stop i H) : Turns K t ft fe n0 h' J m2 H2 r0 h0 := by
  refine ⟨fun i k r h => k = l.length - i ∧ compS t ft fe n0 (l.drop i) r h = .ok () h', l.length, ⟨by simp, e⟩, fun i k r h m H g w ⟨hk, e⟩ => ?_⟩
  by_cases hi : i < l.length
  · have ed : l[i]? = some l[i] := List.getElem?_eq_getElem hi
    obtain ⟨a, b⟩ := hgo i _ m H g ed
    rw [List.drop_eq_getElem_cons hi] at e
    simp only [compS] at e
    split at e
    · cases e
    · rename_i r1 er
      obtain ⟨bb, h1, e1, e⟩ := Rs.bind_ok e
      refine .inr ⟨a, _, b, r1, er, bb, h1, e1, ?_⟩
      cases bb with
      | true =>
        rw [if_pos rfl] at e ⊢
        obtain ⟨y, h3, e3, e⟩ := Rs.bind_ok e
        obtain ⟨z, h4, e4, e⟩ := Rs.bind_ok e
        exact ⟨y, h3, z, h4, e3, e4, _, by omega, rfl, e⟩
      | false =>
        rw [if_neg Bool.false_ne_true] at e ⊢
        exact ⟨_, by omega, rfl, e⟩
  · rw [List.drop_eq_nil_of_le (by omega)] at e
    cases e
    exact .inl ⟨hstop i m H g (by omega), rfl⟩
theorem turns_tup {a : Addr} {l : List D} {vs : List V} (hq : SqT K H2 a vs) (q : RDs K m2 H2 l vs) (e : compS t ft fe n0 l r0 h0 = .ok () h') : Turns K t ft fe n0 h' (Itt K a) m2 H2 r0 h0 :=
  turns_static e (fun i d m H g ed => by
    obtain ⟨v, hv, rv⟩ := q.get ed
    exact ⟨⟨vs, v, g.tup _ _ hq, hv⟩, fun x H' y => by
      obtain ⟨eH, y⟩ := y
      have := y vs (g.tup _ _ hq)
      rw [hv] at this; cases this
      exact ⟨eH, rv.mono g⟩⟩) fun i m H g hi => ⟨vs, g.tup _ _ hq, by rw [← q.length]; exact hi⟩
theorem turns_rng {lo hi : Int} (e : compS t ft fe n0 (rngD lo hi) r0 h0 = .ok () h') : Turns K t ft fe n0 h' (Itr lo (hi - lo).toNat) m2 H2 r0 h0 := by
  have hl : (rngD lo hi).length = (hi - lo).toNat := by unfold rngD; simp
  refine turns_static e (fun i d m H g ed => ?_) fun i m H g h => by rw [hl] at h; exact h
  have hi' : i < (hi - lo).toNat := by rw [← hl]; exact (List.getElem?_eq_some_iff.mp ed).1
  have hd : (rngD lo hi)[i]? = some (D.int (lo + i)) := by
    unfold rngD
    rw [List.getElem?_map, List.getElem?_range hi']
    rfl
  rw [hd] at ed; cases ed
  exact ⟨hi', fun x H' y => ⟨y.1, by rw [y.2]; exact .int _⟩⟩
theorem turns_lst {a : Addr} {n k0 : Nat} (ha : m2[n]? = some a) (e : compI t ft fe n0 n k0 0 r0 h0 = .ok () h') : Turns K t ft fe n0 h' (Itl K a) m2 H2 r0 h0 := by
  refine ⟨fun i k r h => compI t ft fe n0 n k i r h = .ok () h', k0, e, fun i k r h m H g w e => ?_⟩
  cases k with
  | zero => cases e
  | succ k =>
    simp only [compI] at e
    split at e
    · cases e
    · rename_i l el
      obtain ⟨a', vs, ha', hq, q⟩ := w.lst el
      rw [g.pre _ _ ha] at ha'; cases ha'
      split at e
      · rename_i en
        cases e
        exact .inl ⟨⟨vs, hq, by rw [← q.length]; exact List.getElem?_eq_none_iff.mp en⟩, rfl⟩
      · rename_i d ed
        obtain ⟨v, hv, rv⟩ := q.get ed
        split at e
        · cases e
        · rename_i r1 er
          obtain ⟨bb, h1, e1, e⟩ := Rs.bind_ok e
          refine .inr ⟨⟨vs, v, hq, hv⟩, d, fun x H' y => ?_, r1, er, bb, h1, e1, ?_⟩
          · obtain ⟨eH, y⟩ := y
            have := y vs hq
            rw [hv] at this; cases this
            exact ⟨eH, rv⟩
          · cases bb with
            | true =>
              rw [if_pos rfl] at e ⊢
              obtain ⟨y, h3, e3, e⟩ := Rs.bind_ok e
              obtain ⟨z, h4, e4, e⟩ := Rs.bind_ok e
              exact ⟨y, h3, z, h4, e3, e4, k, Nat.lt_succ_self _, e⟩
            | false =>
              rw [if_neg Bool.false_ne_true] at e ⊢
              exact ⟨k, Nat.lt_succ_self _, e⟩
end
/-- [elt for tg in iter if ..] -/
theorem comp_pe {N' : List Str} {scope : Scope} {cap : List Nat} {tg elt iter : PySem.Expr} {ifs : List PySem.Expr} {pos : Pos} {t : Tg} {ft : Ev → Hh → Rs Bool} {fe : Ev → Hh → Rs D} {f : Ev → Hh → Rs D} (xo : XOk X N sc) (S : ScOk scope sc) (hcap : cap.length ≤ N'.length)
    (hN : (N'.drop (N'.length - cap.length)).map some = cap.map (fun (i : Nat) => N[i]?)) (hfr : ∀ x ∈ N'.drop (N'.length - cap.length), scope.names.lookup x = some .free)
    (blk : ∀ (C : Addr) (s3 : Shared) (H3 : Hp) (fp : List Addr), PG (blkX X N' scope C s3 H3 fp) tg (TDG X.K t) ∧ PTs (blkX X N' scope C s3 H3 fp) ifs (TDB X.K ft) ∧ PE (blkX X N' scope C s3 H3 fp) elt (TDE X.K fe)) (hset : noSet iter = true)
    (hi : ∀ (pins : List (Addr × Obj)) (s : Shared) (σ : Sg) (H : Hp) (m : List Addr) (r : Ev) (h : Hh) (d : D) (h' : Hh), Inv X pins σ H s → Wd X.K m h H → RSt X.K m H r σ → f r h = .ok d h' → ∃ h1, d = .ref h1.length ∧ wpAny (model X.prog X.w) X.A (eval iter X.env) (fun v s1 => wpAny (model X.prog X.w) X.A (pyIter v)
      (PIE X pins σ tg fun J H2 => ∃ m2, Gr X.K m H m2 H2 ∧ Wd X.K m2 h1 H2 ∧ Turns X.K t ft fe h1.length h' J m2 H2 (blockE N' cap r) (h1 ++ [.lst []])) X.xe s1) X.xe s) :
    PE X (.ListComp elt [⟨tg, iter, ifs, 0⟩] scope pos) (TDE X.K f) := by
  intro pins s σ H Q I ⟨m, r, h, d, h', w, st, e, c⟩
  obtain ⟨h1, rfl, hw⟩ := hi pins s σ H m r h d h' I w st e
  rw [eval_ListComp]
  have S' : ScOk scope X.env.scope := by rw [xo.s]; exact S
  refine wpAny_comprehension_free (use := none) rfl (fun z => by cases iter <;> first | rfl | (cases hset; done)) (closure_is fun p hp e => I.ok.has p.1 (.inl (S'.free p hp e))) S.kind S.loc ?_
  refine thn hw fun v s1 q1 => thn q1 fun itv s2 q2 => ?_
  obtain ⟨it, fp, tn, J, H2, rfl, I2, T, st2, fok, m2, g2, w2, Lp, k0, L0, hst⟩ := q2
  refine comp_core (Rr := fun acc C => compPost (model X.prog X.w) X.A X.xe none (EP X pins σ Q) acc C) S' hcap (by rw [xo.n]; exact hN) hfr xo.calm blk I2 T st2 fok w2 (st.mono g2) Lp k0 L0 hst fun acc C s1 H' m' I1 ⟨mm, hn⟩ hC hL hz hc hp g' w' rv => ?_
  refine ⟨mm, hn, fun hh hsb => ⟨.ref acc, H', I1.turned (fun b o hb e => hsb.extBut b o hb e) hC (Ne.symm (Ne.symm hL)) (.inr hz) hc hp, rfl, c m' _ H' (g2.trans g') w' rv⟩⟩
/-- name = [elt for tg in iter if ..], all of it on one row -/
theorem comp_ps {N' : List Str} {scope : Scope} {cap : List Nat} {tg elt iter : PySem.Expr} {ifs : List PySem.Expr} {pos spos py : Pos} {y : Str} {i : Nat} {t : Tg} {ft : Ev → Hh → Rs Bool} {fe : Ev → Hh → Rs D} {f : Ev → Hh → Rs D} (xo : XOk X N sc) (S : ScOk scope sc) (hcap : cap.length ≤ N'.length)
    (hN : (N'.drop (N'.length - cap.length)).map some = cap.map (fun (i : Nat) => N[i]?)) (hfr : ∀ x ∈ N'.drop (N'.length - cap.length), scope.names.lookup x = some .free)
    (blk : ∀ (C : Addr) (s3 : Shared) (H3 : Hp) (fp : List Addr), PG (blkX X N' scope C s3 H3 fp) tg (TDG X.K t) ∧ PTs (blkX X N' scope C s3 H3 fp) ifs (TDB X.K ft) ∧ PE (blkX X N' scope C s3 H3 fp) elt (TDE X.K fe)) (hset : noSet iter = true)
    (hi : ∀ (pins : List (Addr × Obj)) (s : Shared) (σ : Sg) (H : Hp) (m : List Addr) (r : Ev) (h : Hh) (d : D) (h' : Hh), Inv X pins σ H s → Wd X.K m h H → RSt X.K m H r σ → f r h = .ok d h' → ∃ h1, d = .ref h1.length ∧ wpAny (model X.prog X.w) X.A (eval iter X.env) (fun v s1 => wpAny (model X.prog X.w) X.A (pyIter v)
      (PIE X pins σ tg fun J H2 => ∃ m2, Gr X.K m H m2 H2 ∧ Wd X.K m2 h1 H2 ∧ Turns X.K t ft fe h1.length h' J m2 H2 (blockE N' cap r) (h1 ++ [.lst []])) X.xe s1) X.xe s)
    (hy : N[i]? = some y) (hl : sc.names.lookup y = some .local) (hsw : swapsWith (.ListComp elt [⟨tg, iter, ifs, 0⟩] scope pos) (some (.Name y py)) spos.line X.env = pure true) :
    PS X (.Assign [.Name y py] (.ListComp elt [⟨tg, iter, ifs, 0⟩] scope pos) spos) (tAsg (TDE X.K f) (gName i)) := by
  intro pins s σ H Z I ⟨m, r, h, d, h', w, st, e, c⟩
  obtain ⟨h1, rfl, hw⟩ := hi pins s σ H m r h d h' I w st e
  have S' : ScOk scope X.env.scope := by rw [xo.s]; exact S
  rw [exec_Assign_Name_used _ _ _ _ hsw]
  refine wpAny_bind (wpAny_standAt (wpAny_bind ?_))
  show wpAny _ X.A (do let _ ← comprehension (.ListComp elt [⟨tg, iter, ifs, 0⟩] scope pos) scope X.env _ (newList []) false (eval iter X.env) (some (assign (.Name y py) X.env))) _ _ s
  refine wpAny_bind (thn (wpAny_comprehension_free (use := some (assign (.Name y py) X.env)) (Q := fun _ s' => SP X pins Z .next s') rfl (fun z => by cases iter <;> first | rfl | (cases hset; done)) (closure_is fun p hp e => I.ok.has p.1 (.inl (S'.free p hp e))) S.kind S.loc ?_) fun _ s' q => wpAny_pure (wpAny_pure q))
  refine thn hw fun v s1 q1 => thn q1 fun itv s2 q2 => ?_
  obtain ⟨it, fp, tn, J, H2, rfl, I2, T, st2, fok, m2, g2, w2, Lp, k0, L0, hst⟩ := q2
  refine comp_core (Rr := fun acc C => compPost (model X.prog X.w) X.A X.xe (some (assign (.Name y py) X.env)) (fun _ s' => SP X pins Z .next s') acc C) S' hcap (by rw [xo.n]; exact hN) hfr xo.calm blk I2 T st2 fok w2 (st.mono g2) Lp k0 L0 hst fun acc C s1 H' m' I1 ⟨mm, hn⟩ hC hL hz hc hp g' w' rv => ?_
  show wpAny _ X.A (assign (.Name y py) X.env (.ref acc)) _ _ s1
  have hyl : X.env.kindOf y = some .local := by show X.env.scope.names.lookup y = _; rw [xo.s]; exact hl
  refine wpAny_assign_Name (store_ok2 (i := i) (v := .ref acc) I1 xo.nd (by rw [xo.n]; exact hy) (.inl (by rw [xo.s]; exact hl)) rfl (fun s5 I5 ⟨a, hsa, hq⟩ => ?_) (.inr (by rw [xo.s]; exact hl)))
  have ea : a ≠ C := by
    rcases hq with rfl | hq
    · exact fun z => hL z.symm
    · exact hc _ _ hq
  refine ⟨mm, ?_, fun hh hsb => ⟨_, H', I5.turned (fun b o hb e => hsb.extBut b o hb e) hC hL (.inr hz) hc hp, c m' _ H' (g2.trans g') w' rv⟩⟩
  obtain ⟨o, es, ep, e1, e2⟩ := hn
  exact ⟨o, es, ep, hsa.extBut C o (Ne.symm ea) e1, e2⟩
end
end Ng

end
section
set_option Elab.async false
set_option linter.all false
set_option maxRecDepth 100000
set_option maxHeartbeats 4000000
set_option autoImplicit false
namespace Ng
open PySem PySem.Spec PyProof.Rows L2
def iterChk (N : List Str) (sc : Scope) (G : Gs) (it : Es) : Ck → PySem.Expr → Prop
  | .sq, x => chks N sc G it [x] = true
  | .r1, x => ∃ p a pos, x = .Call (.Name "range" p) [a] [] pos ∧ glB sc "range" = true ∧ chks N sc G it [a] = true
  | .r2, x => ∃ p a b pos, x = .Call (.Name "range" p) [a, b] [] pos ∧ glB sc "range" = true ∧ chks N sc G it [a, b] = true
structure CompOk (N : List Str) (sc : Scope) (G : Gs) (t : Tg) (k : Ck) (it cs : Es) (e : E) (N' : List Str) (cap : List Nat) (elt tg iter : PySem.Expr) (ifs : List PySem.Expr) (scope : Scope) : Prop where
  S : ScOk scope sc
  nd : N'.Nodup
  capL : cap.length ≤ N'.length
  nN : (N'.drop (N'.length - cap.length)).map some = cap.map (fun (i : Nat) => N[i]?)
  fr : ∀ x ∈ N'.drop (N'.length - cap.length), scope.names.lookup x = some .free
  ns : noSet iter = true
  tg : chkT' N' (relab scope sc) t tg = true
  cs : chks N' (relab scope sc) G cs ifs = true
  e : chk N' (relab scope sc) G e elt = true
  it : iterChk N sc G it k iter
theorem nodupB_ok : ∀ {l : List Str}, nodupB l = true → l.Nodup
  | [], _ => List.nodup_nil
  | x :: l, h => by
    have h' : (!l.contains x && nodupB l) = true := h
    simp only [Bool.and_eq_true, Bool.not_eq_true'] at h'
    refine List.nodup_cons.mpr ⟨fun hx => ?_, nodupB_ok h'.2⟩
    have := h'.1
    simp [hx] at this
section
variable {X : Cx} {N : List Str} {sc : Scope} {G : Gs} {cl : Cl}
theorem compChk {t : Tg} {k : Ck} {it cs : Es} {e : E} {N' : List Str} {cap : List Nat} {v : PySem.Expr} (h : chk N sc G (.comp t k it cs e N' cap) v = true) :
    ∃ elt tg iter ifs scope pos, v = .ListComp elt [⟨tg, iter, ifs, 0⟩] scope pos ∧ CompOk N sc G t k it cs e N' cap elt tg iter ifs scope := by
  cases v <;> first | exact absurd (show false = true from h) Bool.false_ne_true | skip
  rename_i elt gens scope pos
  cases gens with
  | nil => exact absurd (show false = true from h) Bool.false_ne_true
  | cons g gs =>
    obtain ⟨tg, iter, ifs, as⟩ := g
    cases gs with
    | cons => cases as with
      | ofNat n => cases n <;> exact absurd (show false = true from h) Bool.false_ne_true
      | negSucc n => exact absurd (show false = true from h) Bool.false_ne_true
    | nil =>
      cases as with
      | negSucc n => exact absurd (show false = true from h) Bool.false_ne_true
      | ofNat n =>
        cases n with
        | succ n => exact absurd (show false = true from h) Bool.false_ne_true
        | zero =>
          have hh : ∃ last : Bool, (scOk scope sc && nodupB N' && capOk N N' cap scope && noSet iter && chkT' N' (relab scope sc) t tg && chks N' (relab scope sc) G cs ifs && chk N' (relab scope sc) G e elt && last) = true ∧ (last = true → iterChk N sc G it k iter) := by
            cases k with
            | sq => exact ⟨_, h, fun z => z⟩
            | r1 =>
              cases iter <;> first | (refine ⟨false, h, fun z => by cases z⟩) | skip
              rename_i fe es kw pos'
              cases fe <;> first | (refine ⟨false, h, fun z => by cases z⟩) | skip
              rename_i x p
              rcases es with _ | ⟨a, _ | ⟨b, es⟩⟩ <;> rcases kw with _ | ⟨kk, kw⟩ <;> first | (refine ⟨false, h, fun z => by cases z⟩) | skip
              refine ⟨_, h, fun z => ?_⟩
              simp only [Bool.and_eq_true, beq_iff_eq] at z
              obtain ⟨⟨rfl, z1⟩, z2⟩ := z
              exact ⟨p, a, pos', rfl, z1, z2⟩
            | r2 =>
              cases iter <;> first | (refine ⟨false, h, fun z => by cases z⟩) | skip
              rename_i fe es kw pos'
              cases fe <;> first | (refine ⟨false, h, fun z => by cases z⟩) | skip
              rename_i x p
              rcases es with _ | ⟨a, _ | ⟨b, _ | ⟨c, es⟩⟩⟩ <;> rcases kw with _ | ⟨kk, kw⟩ <;> first | (refine ⟨false, h, fun z => by cases z⟩) | skip
              refine ⟨_, h, fun z => ?_⟩
              simp only [Bool.and_eq_true, beq_iff_eq] at z
              obtain ⟨⟨rfl, z1⟩, z2⟩ := z
              exact ⟨p, a, b, pos', rfl, z1, z2⟩
          obtain ⟨last, h', hl⟩ := hh
          simp only [Bool.and_eq_true] at h'
          obtain ⟨⟨⟨⟨⟨⟨⟨h1, h2⟩, h3⟩, h4⟩, h5⟩, h6⟩, h7⟩, h8⟩ := h'
          unfold capOk at h3
          simp only [Bool.and_eq_true, decide_eq_true_eq, beq_iff_eq, List.all_eq_true] at h3
          exact ⟨elt, tg, iter, ifs, scope, pos, rfl, scOk_of h1, nodupB_ok h2, h3.1.1, h3.1.2, h3.2, h4, h5, h6, h7, hl h8⟩
theorem tests_false {ifs : List PySem.Expr} {env : Env} {M : Model} {A : Around} {E : Value → Shared → Prop} {s : Shared} {Q : Bool → Shared → Prop} (h : Q false s) : wpAny M A (testsOf ifs env false) Q E s := by
  induction ifs with
  | nil => exact wpAny_pure h
  | cons c l ih =>
    unfold testsOf at ih ⊢
    rw [List.forIn_cons, if_neg Bool.false_ne_true]
    exact wpAny_bind (wpAny_pure ih)
theorem tests_cons {c : PySem.Expr} {l : List PySem.Expr} {env : Env} {M : Model} {A : Around} {E : Value → Shared → Prop} {s : Shared} {Q : Bool → Shared → Prop} (h : wpAny M A (isTrue c env (eval c env)) (fun b s' => wpAny M A (testsOf l env b) Q E s') E s) : wpAny M A (testsOf (c :: l) env true) Q E s := by
  unfold testsOf at h ⊢
  rw [List.forIn_cons, if_pos rfl]
  exact wpAny_bind (wpAny_bind (thn h fun b s' q => wpAny_pure q))
theorem blk_xo {N' : List Str} {scope : Scope} (xo : XOk X N sc) (nd : N'.Nodup) (C : Addr) (s3 : Shared) (H3 : Hp) (fp : List Addr) : XOk (blkX X N' scope C s3 H3 fp) N' (relab scope sc) :=
  ⟨rfl, by rw [← xo.s]; rfl, xo.calm, nd, xo.room, xo.rng, PassesOwn.never⟩
theorem blk_go {N' : List Str} {scope : Scope} (go : GOk X G cl) (C : Addr) (s3 : Shared) (H3 : Hp) (fp : List Addr) : GOk (blkX X N' scope C s3 H3 fp) G cl := ⟨go.fn, go.cst, go.blt, go.ty⟩
/-- what is walked -/
theorem comp_it {t : Tg} {k : Ck} {it cs : Es} {e : E} {N' : List Str} {cap : List Nat} {elt tg iter : PySem.Expr} {ifs : List PySem.Expr} {scope : Scope} (xo : XOk X N sc) (c : CompOk N sc G t k it cs e N' cap elt tg iter ifs scope)
    (hA : ∀ es, chks N sc G it es = true → PA X es (TDA X.K (evs G cl it))) (h1 : ∀ c' x, it = .cons c' .nil → chk N sc G c' x = true → PE X x (TDE X.K (ev G cl c')))
    (pins : List (Addr × Obj)) (s : Shared) (σ : Sg) (H : Hp) (m : List Addr) (r : Ev) (h : Hh) (d : D) (h' : Hh) (I : Inv X pins σ H s) (w : Wd X.K m h H) (st : RSt X.K m H r σ) (ev1 : ev G cl (.comp t k it cs e N' cap) r h = .ok d h') :
    ∃ h1, d = .ref h1.length ∧ wpAny (model X.prog X.w) X.A (eval iter X.env) (fun v s1 => wpAny (model X.prog X.w) X.A (pyIter v)
      (PIE X pins σ tg fun J H2 => ∃ m2, Gr X.K m H m2 H2 ∧ Wd X.K m2 h1 H2 ∧ Turns X.K t (evt G cl cs) (ev G cl e) h1.length h' J m2 H2 (blockE N' cap r) (h1 ++ [.lst []])) X.xe s1) X.xe s := by
  rw [ev] at ev1
  obtain ⟨xs, hh1, e1, e2⟩ := Rs.bind_ok ev1
  obtain ⟨_, hh2, e3, e2⟩ := Rs.bind_ok e2
  cases e2
  refine ⟨hh1, rfl, ?_⟩
  have ci := c.it
  cases k with
  | sq =>
    have ci' : chks N sc G it [iter] = true := ci
    cases it with
    | nil => exact absurd (show false = true from ci') Bool.false_ne_true
    | cons c' l =>
      have z : (noStar iter && chk N sc G c' iter && chks N sc G l []) = true := ci'
      simp only [Bool.and_eq_true] at z
      cases l with
      | cons => exact absurd (show false = true from z.2) Bool.false_ne_true
      | nil =>
        have hp := h1 c' iter rfl z.1.2
        rw [evs] at e1
        obtain ⟨x, h5, ex, e1⟩ := Rs.bind_ok e1
        rw [evs] at e1
        obtain ⟨_, _, e4, e1⟩ := Rs.bind_ok e1
        cases e4; cases e1
        cases x <;> first | (cases e3; done) | skip
        · refine pi_tup hp pins s σ H _ I ⟨m, r, h, _, _, w, st, ex, fun m' v H' g w' rv => ?_⟩
          cases rv with
          | tup hq q => exact ⟨_, rfl, ⟨_, hq⟩, m', g, w', turns_tup hq q e3⟩
        · rename_i n
          simp only [compL] at e3
          split at e3
          · rename_i l el
            refine pi_list hp pins s σ H _ I ⟨m, r, h, _, _, w, st, ex, fun m' v H' g w' rv => ?_⟩
            cases rv with
            | ref ha =>
              obtain ⟨a', vs, ha', hq, _⟩ := w'.lst el
              rw [ha] at ha'; cases ha'
              exact ⟨_, rfl, ⟨_, hq⟩, m', g, w', turns_lst ha e3⟩
          · cases e3
  | r1 =>
    obtain ⟨p, a, pos, rfl, hg, hc⟩ := ci
    have hs : noStar a = true := by
      cases it with
      | nil => exact absurd (show false = true from hc) Bool.false_ne_true
      | cons c' l =>
        have z : (noStar a && chk N sc G c' a && chks N sc G l []) = true := hc
        simp only [Bool.and_eq_true] at z
        exact z.1.1
    refine pi_range1 (glB_ok xo hg) xo.rng (hA _ hc) (star_one [] hs) pins s σ H _ I ⟨m, r, h, xs, hh1, w, st, e1, fun m' vs H' g w' rv => ?_⟩
    rcases xs with _ | ⟨x, _ | ⟨y, xs⟩⟩ <;> first | (cases e3; done) | (cases x <;> (cases e3; done)) | skip
    cases x <;> first | (cases e3; done) | skip
    rename_i j
    simp only [compL] at e3
    split at e3
    · rename_i ho
      cases rv with
      | cons rx rv =>
        cases rx; cases rv
        have tt := turns_rng (K := X.K) (m2 := m') (H2 := H') (lo := 0) (hi := j) e3
        exact ⟨j, rfl, ho.1, ho.2, m', g, w', by simpa using tt⟩
    · cases e3
  | r2 =>
    obtain ⟨p, a, b, pos, rfl, hg, hc⟩ := ci
    have hs : noStar a = true ∧ noStar b = true := by
      cases it with
      | nil => exact absurd (show false = true from hc) Bool.false_ne_true
      | cons c' l =>
        have z : (noStar a && chk N sc G c' a && chks N sc G l [b]) = true := hc
        simp only [Bool.and_eq_true] at z
        cases l with
        | nil => exact absurd (show false = true from z.2) Bool.false_ne_true
        | cons c2 l =>
          have z2 : (noStar b && chk N sc G c2 b && chks N sc G l []) = true := z.2
          simp only [Bool.and_eq_true] at z2
          exact ⟨z.1.1, z2.1.1⟩
    refine pi_range2 (glB_ok xo hg) xo.rng (hA _ hc) (by rw [star_one [b] hs.1, star_one [] hs.2]; rfl) (star_one [] hs.2) pins s σ H _ I ⟨m, r, h, xs, hh1, w, st, e1, fun m' vs H' g w' rv => ?_⟩
    have hx : ∃ i j, xs = [.int i, .int j] ∧ (okR i ∧ okR j) ∧ compS t (evt G cl cs) (ev G cl e) hh1.length (rngD i j) (blockE N' cap r) (hh1 ++ [.lst []]) = .ok () h' := by
      unfold compL at e3
      split at e3 <;> first | (cases e3; done) | skip
      all_goals first
        | (exfalso; contradiction)
        | (split at e3
           · rename_i ho
             exact ⟨_, _, rfl, ho, e3⟩
           · cases e3)
    obtain ⟨i, j, rfl, ho, e3⟩ := hx
    cases rv with
    | cons rx rv =>
      cases rv with
      | cons ry rv =>
        cases rx; cases ry; cases rv
        exact ⟨i, j, rfl, ⟨ho.1.1, ho.1.2, ho.2.1, ho.2.2⟩, m', g, w', turns_rng e3⟩
end
end Ng

end
section
set_option Elab.async false
set_option linter.all false
set_option maxRecDepth 100000
set_option maxHeartbeats 4000000
set_option autoImplicit false
namespace Ng
open PySem PySem.Spec PyProof.Rows L2
theorem boot_ty (t : Ty) : bootBuiltins (Str.ofString t.nm) = some (.type t.nm) := by cases t <;> decide +kernel
theorem ty_dbg (t : Ty) : (Str.ofString t.nm == ("__debug__" : Str)) = false ∧ Str.ofString t.nm ≠ "__name__" := by cases t <;> decide +kernel
theorem boot_blt (f : Blt) : bootBuiltins f.nm = some f.val := by cases f <;> decide +kernel
theorem blt_dbg (f : Blt) : (f.nm == ("__debug__" : Str)) = false ∧ f.nm ≠ "__name__" := by cases f <;> decide +kernel
section
variable {X : Cx} {N : List Str} {sc : Scope} {G : Gs} {cl : Cl}
theorem TDE.one {K : PySem.W.Frag} {fa f : Ev → Hh → Rs D} {k : Ev → D → Hh → Rs D} {s : Sg} {H : Hp} {Q R : VK} (hf : ∀ r h, f r h = (fa r h).bind (k r)) (q : TDE K f s H Q)
    (c : ∀ (m m2 : List Addr) (r : Ev) (d : D) (h2 h' : Hh) (H2 : Hp) (dx : D) (x : V), RSt K m H r s → Gr K m H m2 H2 → Wd K m2 h2 H2 → RSt K m2 H2 r s → RD K m2 H2 dx x → k r dx h2 = .ok d h' → (∀ m' v H', Gr K m2 H2 m' H' → Wd K m' h' H' → RD K m' H' d v → Q v H') → R x H2) : TDE K fa s H R := by
  obtain ⟨m, r, h, d, h', w, st, e, cc⟩ := q
  rw [hf] at e
  obtain ⟨dx, h1, e1, e⟩ := Rs.bind_ok e
  exact ⟨m, r, h, dx, h1, w, st, e1, fun m1 x H1 g1 w1 rx => c m m1 r d h1 h' H1 dx x st g1 w1 (st.mono g1) rx e fun m' v H' g => cc m' v H' (g1.trans g)⟩
end
mutual
theorem sET {X : Cx} {N : List Str} {sc : Scope} {G : Gs} {cl : Cl} (xo : XOk X N sc) (go : GOk X G cl) : ∀ c : E, (∀ e, chk N sc G c e = true → PE X e (TDE X.K (ev G cl c))) ∧ (∀ e, chk N sc G c e = true → PT X e (TDT X.K (ev G cl c)))
  | .var i => by
    have p : ∀ e, chk N sc G (.var i) e = true → PE X e (TDE X.K (ev G cl (.var i))) ∧ PT X e (TDT X.K (ev G cl (.var i))) := fun e h => by
      cases e <;> first | exact absurd (show false = true from h) Bool.false_ne_true | skip
      rename_i x pos
      have h' : (N[i]? == some x && visB sc x && noDbg x) = true := h
      simp only [Bool.and_eq_true, beq_iff_eq] at h'
      obtain ⟨d1, d2, d3⟩ := noDbg_ok h'.2
      have p : PE X (.Name x pos) (TDE X.K (ev G cl (.var i))) := (pv i (by rw [xo.n]; exact h'.1.1) (by rw [xo.s]; exact visB_ok h'.1.2) d1 d2).wk fun s H Q ⟨m, r, hh, d, h', w, st, e1, c⟩ => by
        simp only [ev] at e1
        split at e1
        · rename_i d' ed
          cases e1
          obtain ⟨v, hv, rv⟩ := st.2 i _ ed
          exact ⟨v, hv, c m v H Gr.refl w rv⟩
        · cases e1
      exact ⟨p, tOf p fun _ => rfl⟩
    exact ⟨fun e h => (p e h).1, fun e h => (p e h).2⟩
  | .int i => by
    have p : ∀ e, chk N sc G (.int i) e = true → PE X e (TDE X.K (ev G cl (.int i))) ∧ PT X e (TDT X.K (ev G cl (.int i))) := fun e h => by
      cases e <;> first | exact absurd (show false = true from h) Bool.false_ne_true | skip
      rename_i k j pos
      cases k <;> first | exact absurd (show false = true from h) Bool.false_ne_true | skip
      rename_i i'
      have h' : (i == i') = true := h
      simp only [beq_iff_eq] at h'
      subst h'
      have p : PE X (.Constant (.int i) j pos) (TDE X.K (ev G cl (.int i))) := (pe_int).wk fun s H Q ⟨m, r, hh, d, h', w, st, e1, c⟩ => by
        cases e1
        exact c m _ H Gr.refl w (.int i)
      exact ⟨p, tOf p fun _ => rfl⟩
    exact ⟨fun e h => (p e h).1, fun e h => (p e h).2⟩
  | .bl b => by
    have p : ∀ e, chk N sc G (.bl b) e = true → PE X e (TDE X.K (ev G cl (.bl b))) ∧ PT X e (TDT X.K (ev G cl (.bl b))) := fun e h => by
      cases e <;> first | exact absurd (show false = true from h) Bool.false_ne_true | skip
      rename_i k j pos
      cases k <;> first | exact absurd (show false = true from h) Bool.false_ne_true | skip
      rename_i b'
      have h' : (b == b') = true := h
      simp only [beq_iff_eq] at h'
      subst h'
      have p : PE X (.Constant (.bool b) j pos) (TDE X.K (ev G cl (.bl b))) := (pe_bl).wk fun s H Q ⟨m, r, hh, d, h', w, st, e1, c⟩ => by
        cases e1
        exact c m _ H Gr.refl w (.bl b)
      exact ⟨p, tOf p fun _ => rfl⟩
    exact ⟨fun e h => (p e h).1, fun e h => (p e h).2⟩
  | .non => by
    have p : ∀ e, chk N sc G .non e = true → PE X e (TDE X.K (ev G cl .non)) ∧ PT X e (TDT X.K (ev G cl .non)) := fun e h => by
      cases e <;> first | exact absurd (show false = true from h) Bool.false_ne_true | skip
      rename_i k j pos
      cases k <;> first | exact absurd (show false = true from h) Bool.false_ne_true | skip
      have p : PE X (.Constant .none j pos) (TDE X.K (ev G cl .non)) := (pe_non).wk fun s H Q ⟨m, r, hh, d, h', w, st, e1, c⟩ => by
        cases e1
        exact c m _ H Gr.refl w .non
      exact ⟨p, tOf p fun _ => rfl⟩
    exact ⟨fun e h => (p e h).1, fun e h => (p e h).2⟩
  | .str x => by
    have p : ∀ e, chk N sc G (.str x) e = true → PE X e (TDE X.K (ev G cl (.str x))) ∧ PT X e (TDT X.K (ev G cl (.str x))) := fun e h => by
      cases e <;> first | exact absurd (show false = true from h) Bool.false_ne_true | skip
      rename_i k j pos
      cases k <;> first | exact absurd (show false = true from h) Bool.false_ne_true | skip
      rename_i x'
      have h' : (x == x') = true := h
      simp only [beq_iff_eq] at h'
      subst h'
      have p : PE X (.Constant (.str x) j pos) (TDE X.K (ev G cl (.str x))) := (pe_str).wk fun s H Q ⟨m, r, hh, d, h', w, st, e1, c⟩ => by
        cases e1
        exact c m _ H Gr.refl w (.str x)
      exact ⟨p, tOf p fun _ => rfl⟩
    exact ⟨fun e h => (p e h).1, fun e h => (p e h).2⟩
  | .gc g => by
    have p : ∀ e, chk N sc G (.gc g) e = true → PE X e (TDE X.K (ev G cl (.gc g))) ∧ PT X e (TDT X.K (ev G cl (.gc g))) := fun e h => by
      cases e <;> first | exact absurd (show false = true from h) Bool.false_ne_true | skip
      rename_i x pos
      have h' : ((G.csts[g]?).map (·.1) == some x && glB sc x && noDbg x) = true := h
      simp only [Bool.and_eq_true, beq_iff_eq] at h'
      obtain ⟨d1, d2, d3⟩ := noDbg_ok h'.2
      cases q : G.csts[g]? with
      | none => rw [q] at h'; cases h'.1.1
      | some y =>
        rw [q] at h'
        obtain ⟨y1, y2⟩ := y
        have ex : y1 = x := Option.some.inj h'.1.1
        subst ex
        obtain ⟨v, u, hm, rv, rd⟩ := go.cst g y1 y2 q
        have p : PE X (.Name y1 pos) (TDE X.K (ev G cl (.gc g))) := (pe_glob (glB_ok xo h'.1.2) hm rv d1).wk fun s H Q ⟨m, r, hh, d, h', w, st, e1, c⟩ => by
          simp only [ev, q] at e1
          cases e1
          exact c m _ H Gr.refl w (rd m H)
        exact ⟨p, tOf p fun _ => rfl⟩
    exact ⟨fun e h => (p e h).1, fun e h => (p e h).2⟩
  | .ty t => by
    have p : ∀ e, chk N sc G (.ty t) e = true → PE X e (TDE X.K (ev G cl (.ty t))) ∧ PT X e (TDT X.K (ev G cl (.ty t))) := fun e h => by
      cases e <;> first | exact absurd (show false = true from h) Bool.false_ne_true | skip
      rename_i x pos
      have h' : (x == Str.ofString t.nm && glB sc x) = true := h
      simp only [Bool.and_eq_true, beq_iff_eq] at h'
      obtain ⟨rfl, hg⟩ := h'
      have p : PE X (.Name (Str.ofString t.nm) pos) (TDE X.K (ev G cl (.ty t))) := (pe_bltn (v := .ty t.nm) (glB_ok xo hg) (go.ty t) (boot_ty t) rfl (ty_dbg t).2 (ty_dbg t).1).wk fun s H Q ⟨m, r, hh, d, h', w, st, e1, c⟩ => by
        cases e1
        exact c m _ H Gr.refl w (.ty _)
      exact ⟨p, tOf p fun _ => rfl⟩
    exact ⟨fun e h => (p e h).1, fun e h => (p e h).2⟩
  | .bin op a b => by
    have p : ∀ e, chk N sc G (.bin op a b) e = true → PE X e (TDE X.K (ev G cl (.bin op a b))) ∧ PT X e (TDT X.K (ev G cl (.bin op a b))) := fun e h => by
      cases e <;> first | exact absurd (show false = true from h) Bool.false_ne_true | skip
      rename_i x o y pos
      have h' : (op.op == o && chk N sc G a x && chk N sc G b y) = true := h
      simp only [Bool.and_eq_true, beq_iff_eq] at h'
      obtain ⟨⟨rfl, h1⟩, h2⟩ := h'
      have p : PE X (.BinOp x op.op y pos) (TDE X.K (ev G cl (.bin op a b))) := (pe_op (opBin op) ((sET xo go a).1 x h1) ((sET xo go b).1 y h2)).wk (TDE.op fun r h => by simp only [ev])
      exact ⟨p, tOf p fun _ => rfl⟩
    exact ⟨fun e h => (p e h).1, fun e h => (p e h).2⟩
  | .neg a => by
    have p : ∀ e, chk N sc G (.neg a) e = true → PE X e (TDE X.K (ev G cl (.neg a))) ∧ PT X e (TDT X.K (ev G cl (.neg a))) := fun e h => by
      cases e <;> first | exact absurd (show false = true from h) Bool.false_ne_true | skip
      rename_i o x pos
      cases o <;> first | exact absurd (show false = true from h) Bool.false_ne_true | skip
      have p : PE X (.UnaryOp .USub x pos) (TDE X.K (ev G cl (.neg a))) := (pe_un un_neg ((sET xo go a).1 x h)).wk fun s H Q q => by
        refine TDE.one (fun _ _ => rfl) q fun m m2 r d h2 h' H2 dx y st g w2 st2 rx e c => ?_
        cases rx <;> first | (cases e; done) | skip
        cases e
        exact ⟨_, rfl, c m2 _ H2 Gr.refl w2 (.int _)⟩
      exact ⟨p, tOf p fun _ => rfl⟩
    exact ⟨fun e h => (p e h).1, fun e h => (p e h).2⟩
  | .cmp op a b => by
    have p : ∀ e, chk N sc G (.cmp op a b) e = true → PE X e (TDE X.K (ev G cl (.cmp op a b))) ∧ PT X e (TDT X.K (ev G cl (.cmp op a b))) := fun e h => by
      cases e <;> first | exact absurd (show false = true from h) Bool.false_ne_true | skip
      rename_i x os ys pos
      obtain ⟨o, rfl⟩ : ∃ o, os = [o] := by
        cases os with
        | nil => exact absurd (show false = true from h) Bool.false_ne_true
        | cons o r =>
          cases r with
          | nil => exact ⟨o, rfl⟩
          | cons _ _ => exact absurd (show false = true from h) Bool.false_ne_true
      obtain ⟨y, rfl⟩ : ∃ y, ys = [y] := by
        cases ys with
        | nil => exact absurd (show false = true from h) Bool.false_ne_true
        | cons o r =>
          cases r with
          | nil => exact ⟨o, rfl⟩
          | cons _ _ => exact absurd (show false = true from h) Bool.false_ne_true
      have h' : (op.op == o && noSet y && chk N sc G a x && chk N sc G b y) = true := h
      simp only [Bool.and_eq_true, beq_iff_eq] at h'
      obtain ⟨⟨⟨rfl, h0⟩, h1⟩, h2⟩ := h'
      have hm : behindInMarks op.op y = false := by cases y <;> first | rfl | (cases h0; done)
      refine ⟨(pe_cmpR (opCmp xo.room op) ((sET xo go a).1 x h1) ((sET xo go b).1 y h2) hm).wk (TDE.op fun r h => by simp only [ev]), ?_⟩
      refine (pt_cmpR (opCmp xo.room op) ((sET xo go a).1 x h1) ((sET xo go b).1 y h2) hm).wk fun s H Q ⟨m, r, hh, d, h', k, w, st, e1, ek, c⟩ => ?_
      refine TDE.op (f := ev G cl (.cmp op a b)) (k := cmpD op) (fun r h => by simp only [ev]) s H _ ⟨m, r, hh, d, h', w, st, e1, fun m' v H' g w' rd => ?_⟩
      have e1' := e1
      simp only [ev] at e1'
      obtain ⟨_, _, _, e1'⟩ := Rs.bind_ok e1'
      obtain ⟨_, _, _, e1'⟩ := Rs.bind_ok e1'
      obtain ⟨k', rfl⟩ := cmpD_bl e1'
      cases rd
      have ek' : k' = k := Option.some.inj ek
      subst ek'
      exact ⟨k', rfl, c m' H' g w'⟩
    exact ⟨fun e h => (p e h).1, fun e h => (p e h).2⟩
  | .and a b => by
    have p : ∀ e, chk N sc G (.and a b) e = true → PE X e (TDE X.K (ev G cl (.and a b))) ∧ PT X e (TDT X.K (ev G cl (.and a b))) := fun e h => by
      cases e <;> first | exact absurd (show false = true from h) Bool.false_ne_true | skip
      rename_i o vs pos
      cases o <;> first | exact absurd (show false = true from h) Bool.false_ne_true | skip
      cases vs with
      | nil => exact absurd (show false = true from h) Bool.false_ne_true
      | cons x vs =>
        cases vs with
        | nil => exact absurd (show false = true from h) Bool.false_ne_true
        | cons y rest =>
          have h1 : chk N sc G a x = true := by
            have h' : (chk N sc G a x && _) = true := h
            simp only [Bool.and_eq_true] at h'
            exact h'.1
          have hb : PE X (.BoolOp .And (y :: rest) pos) (TDE X.K (ev G cl b)) ∧ PT X (.BoolOp .And (y :: rest) pos) (TDT X.K (ev G cl b)) := by
            cases rest with
            | nil =>
              have h' : (chk N sc G a x && chk N sc G b y) = true := h
              simp only [Bool.and_eq_true] at h'
              exact ⟨pe_one ((sET xo go b).1 y h'.2), (pw_and1 ((sET xo go b).2 y h'.2)).pt⟩
            | cons z rest =>
              have h' : (chk N sc G a x && chk N sc G b (.BoolOp .And (y :: z :: rest) pos)) = true := h
              simp only [Bool.and_eq_true] at h'
              exact ⟨(sET xo go b).1 _ h'.2, (sET xo go b).2 _ h'.2⟩
          refine ⟨(pe_andG ((sET xo go a).1 x h1) hb.1).wk fun s H Q q => ?_, (pw_and ((sET xo go a).2 x h1) (pw_of hb.2)).pt.wk fun s H Q q => ?_⟩
          · refine TDE.one (fun _ _ => rfl) q fun m m2 r d h2 h' H2 dx v st g w2 st2 rx e c => ?_
            split at e
            · rename_i et
              exact ⟨true, truRel w2 rx et, iteT (⟨m2, r, h2, d, h', w2, st2, e, c⟩)⟩
            · rename_i et
              cases e
              exact ⟨false, truRel w2 rx et, iteF (c m2 v H2 Gr.refl w2 rx)⟩
            · cases e
          · obtain ⟨m, r, hh, d, h', k, w, st, e1, ek, c⟩ := q
            simp only [ev] at e1
            obtain ⟨dx, h1, e0, e1⟩ := Rs.bind_ok e1
            split at e1
            · rename_i et
              exact ⟨m, r, hh, dx, h1, true, w, st, e0, et, fun m' H' g w' => iteT (⟨m', r, h1, d, h', k, w', st.mono g, e1, ek, fun m2 H2 g2 => c m2 H2 (g.trans g2)⟩)⟩
            · rename_i et
              cases e1
              rw [et] at ek
              cases ek
              exact ⟨m, r, hh, _, _, false, w, st, e0, et, fun m' H' g w' => iteF (c m' H' g w')⟩
            · cases e1
    exact ⟨fun e h => (p e h).1, fun e h => (p e h).2⟩
  | .or a b => by
    have p : ∀ e, chk N sc G (.or a b) e = true → PE X e (TDE X.K (ev G cl (.or a b))) ∧ PT X e (TDT X.K (ev G cl (.or a b))) := fun e h => by
      cases e <;> first | exact absurd (show false = true from h) Bool.false_ne_true | skip
      rename_i o vs pos
      cases o <;> first | exact absurd (show false = true from h) Bool.false_ne_true | skip
      cases vs with
      | nil => exact absurd (show false = true from h) Bool.false_ne_true
      | cons x vs =>
        cases vs with
        | nil => exact absurd (show false = true from h) Bool.false_ne_true
        | cons y rest =>
          have h1 : chk N sc G a x = true := by
            have h' : (chk N sc G a x && _) = true := h
            simp only [Bool.and_eq_true] at h'
            exact h'.1
          have hb : PE X (.BoolOp .Or (y :: rest) pos) (TDE X.K (ev G cl b)) ∧ PT X (.BoolOp .Or (y :: rest) pos) (TDT X.K (ev G cl b)) := by
            cases rest with
            | nil =>
              have h' : (chk N sc G a x && chk N sc G b y) = true := h
              simp only [Bool.and_eq_true] at h'
              exact ⟨pe_one ((sET xo go b).1 y h'.2), (pw_or1 ((sET xo go b).2 y h'.2)).pt⟩
            | cons z rest =>
              have h' : (chk N sc G a x && chk N sc G b (.BoolOp .Or (y :: z :: rest) pos)) = true := h
              simp only [Bool.and_eq_true] at h'
              exact ⟨(sET xo go b).1 _ h'.2, (sET xo go b).2 _ h'.2⟩
          refine ⟨(pe_orG ((sET xo go a).1 x h1) hb.1).wk fun s H Q q => ?_, (pw_or ((sET xo go a).2 x h1) (pw_of hb.2)).pt.wk fun s H Q q => ?_⟩
          · refine TDE.one (fun _ _ => rfl) q fun m m2 r d h2 h' H2 dx v st g w2 st2 rx e c => ?_
            split at e
            · rename_i et
              cases e
              exact ⟨true, truRel w2 rx et, iteT (c m2 v H2 Gr.refl w2 rx)⟩
            · rename_i et
              exact ⟨false, truRel w2 rx et, iteF (⟨m2, r, h2, d, h', w2, st2, e, c⟩)⟩
            · cases e
          · obtain ⟨m, r, hh, d, h', k, w, st, e1, ek, c⟩ := q
            simp only [ev] at e1
            obtain ⟨dx, h1, e0, e1⟩ := Rs.bind_ok e1
            split at e1
            · rename_i et
              cases e1
              rw [et] at ek
              cases ek
              exact ⟨m, r, hh, _, _, true, w, st, e0, et, fun m' H' g w' => iteT (c m' H' g w')⟩
            · rename_i et
              exact ⟨m, r, hh, dx, h1, false, w, st, e0, et, fun m' H' g w' => iteF (⟨m', r, h1, d, h', k, w', st.mono g, e1, ek, fun m2 H2 g2 => c m2 H2 (g.trans g2)⟩)⟩
            · cases e1
    exact ⟨fun e h => (p e h).1, fun e h => (p e h).2⟩
  | .not a => by
    have p : ∀ e, chk N sc G (.not a) e = true → PE X e (TDE X.K (ev G cl (.not a))) ∧ PT X e (TDT X.K (ev G cl (.not a))) := fun e h => by
      cases e <;> first | exact absurd (show false = true from h) Bool.false_ne_true | skip
      rename_i o x pos
      cases o <;> first | exact absurd (show false = true from h) Bool.false_ne_true | skip
      refine ⟨(pe_notG ((sET xo go a).1 x h)).wk fun s H Q q => ?_, (pt_not ((sET xo go a).2 x h)).wk fun s H Q q => ?_⟩
      · refine TDE.one (fun _ _ => rfl) q fun m m2 r d h2 h' H2 dx v st g w2 st2 rx e c => ?_
        split at e
        · rename_i k et
          cases e
          exact ⟨k, truRel w2 rx et, c m2 _ H2 Gr.refl w2 (.bl _)⟩
        · cases e
      · obtain ⟨m, r, hh, d, h', k, w, st, e1, ek, c⟩ := q
        simp only [ev] at e1
        obtain ⟨dx, h1, e0, e1⟩ := Rs.bind_ok e1
        split at e1
        · rename_i k' et
          cases e1
          have : (!k') = k := Option.some.inj ek
          subst this
          exact ⟨m, r, hh, dx, h', k', w, st, e0, et, c⟩
        · cases e1
    exact ⟨fun e h => (p e h).1, fun e h => (p e h).2⟩
  | .ite cc a b => by
    have p : ∀ e, chk N sc G (.ite cc a b) e = true → PE X e (TDE X.K (ev G cl (.ite cc a b))) ∧ (e.pos = e.pos → ∃ z x y pos, e = .IfExp z x y pos ∧ chk N sc G cc z = true ∧ chk N sc G a x = true ∧ chk N sc G b y = true) := fun e h => by
      cases e <;> first | exact absurd (show false = true from h) Bool.false_ne_true | skip
      rename_i z x y pos
      have h' : (chk N sc G cc z && chk N sc G a x && chk N sc G b y) = true := h
      simp only [Bool.and_eq_true] at h'
      refine ⟨(pe_ifExp ((sET xo go cc).2 z h'.1.1) ((sET xo go a).1 x h'.1.2) ((sET xo go b).1 y h'.2)).wk fun s H Q ⟨m, r, hh, d, h', w, st, e1, c⟩ => ?_, fun _ => ⟨z, x, y, pos, rfl, h'.1.1, h'.1.2, h'.2⟩⟩
      simp only [ev] at e1
      obtain ⟨dx, h1, e0, e1⟩ := Rs.bind_ok e1
      split at e1
      · rename_i et
        exact ⟨m, r, hh, dx, h1, true, w, st, e0, et, fun m' H' g w' => iteT (⟨m', r, h1, d, h', w', st.mono g, e1, fun m2 v H2 g2 => c m2 v H2 (g.trans g2)⟩)⟩
      · rename_i et
        exact ⟨m, r, hh, dx, h1, false, w, st, e0, et, fun m' H' g w' => iteF (⟨m', r, h1, d, h', w', st.mono g, e1, fun m2 v H2 g2 => c m2 v H2 (g.trans g2)⟩)⟩
      · cases e1
    refine ⟨fun e h => (p e h).1, fun e h => ?_⟩
    obtain ⟨z, x, y, pos, rfl, hz, hx, hy⟩ := (p e h).2 rfl
    intro pins s σ H Q I ⟨m, r, hh, d, h', k, w, st, e1, ek, c⟩
    simp only [ev] at e1
    obtain ⟨dx, h1, e0, e1⟩ := Rs.bind_ok e1
    have hz' := (sET xo go cc).2 z hz
    have hx' := (sET xo go a).2 x hx
    have hy' := (sET xo go b).2 y hy
    show wpAny _ _ (do if ← isTrue z X.env (eval z X.env) then isTrue x X.env (eval x X.env) else isTrue y X.env (eval y X.env)) _ _ _
    split at e1
    · rename_i et
      refine wpAny_bind (thn (hz' pins s σ H (fun kb H1 => kb = true ∧ TDT X.K (ev G cl a) σ H1 Q) I ⟨m, r, hh, dx, h1, true, w, st, e0, et, fun m' H' g w' => ⟨rfl, m', r, h1, d, h', k, w', st.mono g, e1, ek, fun m2 H2 g2 => c m2 H2 (g.trans g2)⟩⟩) fun kb s1 ⟨H1, I1, eb, q1⟩ => ?_)
      subst eb
      exact hx' pins s1 σ H1 Q I1 q1
    · rename_i et
      refine wpAny_bind (thn (hz' pins s σ H (fun kb H1 => kb = false ∧ TDT X.K (ev G cl b) σ H1 Q) I ⟨m, r, hh, dx, h1, false, w, st, e0, et, fun m' H' g w' => ⟨rfl, m', r, h1, d, h', k, w', st.mono g, e1, ek, fun m2 H2 g2 => c m2 H2 (g.trans g2)⟩⟩) fun kb s1 ⟨H1, I1, eb, q1⟩ => ?_)
      subst eb
      exact hy' pins s1 σ H1 Q I1 q1
    · cases e1
  | .ix a b => by
    have p : ∀ e, chk N sc G (.ix a b) e = true → PE X e (TDE X.K (ev G cl (.ix a b))) ∧ PT X e (TDT X.K (ev G cl (.ix a b))) := fun e h => by
      cases e <;> first | exact absurd (show false = true from h) Bool.false_ne_true | skip
      rename_i x y pos
      have h' : (noSlice y && chk N sc G a x && chk N sc G b y) = true := h
      simp only [Bool.and_eq_true] at h'
      have hs : PlainIx y := fun o i => by
        have h0 := h'.1.1
        cases y <;> first | rfl | (cases h0; done)
      have p : PE X (.Subscript x y pos) (TDE X.K (ev G cl (.ix a b))) := (pe_ix ixSeq ((sET xo go a).1 x h'.1.2) ((sET xo go b).1 y h'.2) hs).wk (TDE.op fun r h => by simp only [ev])
      exact ⟨p, tOf p fun _ => rfl⟩
    exact ⟨fun e h => (p e h).1, fun e h => (p e h).2⟩
  | .tup l => by
    have p : ∀ e, chk N sc G (.tup l) e = true → PE X e (TDE X.K (ev G cl (.tup l))) ∧ PT X e (TDT X.K (ev G cl (.tup l))) := fun e h => by
      cases e <;> first | exact absurd (show false = true from h) Bool.false_ne_true | skip
      rename_i es k pos
      have p : PE X (.Tuple es k pos) (TDE X.K (ev G cl (.tup l))) := (pe_tup (sA xo go l es h)).wk fun s H Q ⟨m, r, hh, d, h', w, st, e1, c⟩ => by
        simp only [ev] at e1
        obtain ⟨ds, h1, e0, e1⟩ := Rs.bind_ok e1
        split at e1
        · rename_i hl
          cases e1
          refine ⟨m, r, hh, ds, _, w, st, e0, fun m' vs H' g w' rd => ⟨?_, fun q hq => ?_⟩⟩
          · rw [← rd.length]; exact Nat.le_of_lt (small1000 hl)
          · exact c m' _ _ (g.trans (Gr.tupNew hq)) (w'.keepNew hq) (.tup (.of upd_same) (rd.mono (Gr.tupNew hq)))
        · cases e1
      exact ⟨p, tOf p fun _ => rfl⟩
    exact ⟨fun e h => (p e h).1, fun e h => (p e h).2⟩
  | .lst l => by
    have p : ∀ e, chk N sc G (.lst l) e = true → PE X e (TDE X.K (ev G cl (.lst l))) ∧ PT X e (TDT X.K (ev G cl (.lst l))) := fun e h => by
      cases e <;> first | exact absurd (show false = true from h) Bool.false_ne_true | skip
      rename_i es pos
      have p : PE X (.List es pos) (TDE X.K (ev G cl (.lst l))) := (pe_lst (sA xo go l es h)).wk fun s H Q ⟨m, r, hh, d, h', w, st, e1, c⟩ => by
        simp only [ev] at e1
        obtain ⟨ds, h1, e0, e1⟩ := Rs.bind_ok e1
        split at e1
        · rename_i hl
          cases e1
          refine ⟨m, r, hh, ds, _, w, st, e0, fun m' vs H' g w' rd => ⟨?_, fun q hq => ?_⟩⟩
          · rw [← rd.length]; exact Nat.le_of_lt (small1000 hl)
          · obtain ⟨w2, g2⟩ := w'.lstNew hq rd
            exact c _ _ _ (g.trans g2) w2 (.ref (by rw [← w'.len]; simp))
        · cases e1
      exact ⟨p, tOf p fun _ => rfl⟩
    exact ⟨fun e h => (p e h).1, fun e h => (p e h).2⟩
  | .call f l => by
    have p : ∀ e, chk N sc G (.call f l) e = true → PE X e (TDE X.K (ev G cl (.call f l))) ∧ PT X e (TDT X.K (ev G cl (.call f l))) := fun e h => by
      cases e <;> first | exact absurd (show false = true from h) Bool.false_ne_true | skip
      rename_i fe es kw pos
      cases fe <;> first | exact absurd (show false = true from h) Bool.false_ne_true | skip
      rename_i x np
      cases es with
      | nil => exact absurd (show false = true from h) Bool.false_ne_true
      | cons y ys =>
        cases kw with
        | cons => exact absurd (show false = true from h) Bool.false_ne_true
        | nil =>
          have h' : (G.fns[f]? == some x && glB sc x && noDbg x && chks N sc G l (y :: ys)) = true := h
          simp only [Bool.and_eq_true, beq_iff_eq] at h'
          obtain ⟨⟨⟨h1, h2⟩, h3⟩, h4⟩ := h'
          obtain ⟨d1, d2, d3⟩ := noDbg_ok h3
          obtain ⟨fa, fd, ps, k, F, hr, hm, hk, hb, hlen⟩ := go.fn f x h1
          have h5 : noStar y = true ∧ ∃ l', chks N sc G l' ys = true := by
            cases l with
            | nil => exact absurd (show false = true from h4) Bool.false_ne_true
            | cons c l' =>
              have h6 : (noStar y && chk N sc G c y && chks N sc G l' ys) = true := h4
              simp only [Bool.and_eq_true] at h6
              exact ⟨h6.1.1, l', h6.2⟩
          obtain ⟨h5, l', h6⟩ := h5
          have p : PE X (.Call (.Name x np) (y :: ys) [] pos) (TDE X.K (ev G cl (.call f l))) := (pe_call F hr (glB_ok xo h2) hm hk hb .nil pass0 (sA xo go l (y :: ys) h4) d1 (star_one ys h5) (back_none pos h6)).wk fun s H Q ⟨m, r, hh, d, h', w, st, e1, c⟩ => by
            simp only [ev] at e1
            obtain ⟨ds, h1, e0, e1⟩ := Rs.bind_ok e1
            refine ⟨m, r, hh, ds, h1, w, st, e0, fun m' vs H' g w' rd => ?_⟩
            show spD X.K (cl f) ps.length (vs ++ []) H' Q E0
            rw [List.append_nil]
            exact ⟨by rw [← rd.length]; exact hlen _ _ _ _ e1, m', h1, ds, d, h', w', rd, e1, fun m2 v H2 g2 => c m2 v H2 (g.trans g2)⟩
          exact ⟨p, tOf p fun _ => rfl⟩
    exact ⟨fun e h => (p e h).1, fun e h => (p e h).2⟩
  | .blt f l => by
    have p : ∀ e, chk N sc G (.blt f l) e = true → PE X e (TDE X.K (ev G cl (.blt f l))) ∧ PT X e (TDT X.K (ev G cl (.blt f l))) := fun e h => by
      cases e <;> first | exact absurd (show false = true from h) Bool.false_ne_true | skip
      rename_i fe es kw pos
      cases fe <;> first | exact absurd (show false = true from h) Bool.false_ne_true | skip
      rename_i x np
      cases es with
      | nil => exact absurd (show false = true from h) Bool.false_ne_true
      | cons y ys =>
        cases kw with
        | cons => exact absurd (show false = true from h) Bool.false_ne_true
        | nil =>
          have h' : (x == f.nm && glB sc x && chks N sc G l (y :: ys)) = true := h
          simp only [Bool.and_eq_true, beq_iff_eq] at h'
          obtain ⟨⟨rfl, h2⟩, h4⟩ := h'
          obtain ⟨d1, d3⟩ := blt_dbg f
          have h5 : noStar y = true ∧ ∃ l', chks N sc G l' ys = true := by
            cases l with
            | nil => exact absurd (show false = true from h4) Bool.false_ne_true
            | cons c l' =>
              have h6 : (noStar y && chk N sc G c y && chks N sc G l' ys) = true := h4
              simp only [Bool.and_eq_true] at h6
              exact ⟨h6.1.1, l', h6.2⟩
          obtain ⟨h5, l', h6⟩ := h5
          have im : ∀ s H Q, TDE X.K (ev G cl (.blt f l)) s H Q → tCB (rDc X.K (bltD f)) (TDA X.K (evs G cl l)) s H Q := fun s H Q ⟨m, r, hh, d, h', w, st, e1, c⟩ => by
            simp only [ev] at e1
            obtain ⟨ds, h1, e0, e1⟩ := Rs.bind_ok e1
            exact ⟨m, r, hh, ds, h1, w, st, e0, fun m' vs H' g w' rd => ⟨m', h1, ds, d, h', w', rd, e1, fun m2 v H2 g2 => c m2 v H2 (g.trans g2)⟩⟩
          have p : PE X (.Call (.Name f.nm np) (y :: ys) [] pos) (TDE X.K (ev G cl (.blt f l))) := by
            have cb := callBlt (X := X) f
            have bb := boot_blt f
            have key : ∀ v, f.val = v → (∃ i, v = .builtin i) ∨ (∃ T, v = .type T) := fun v e => by subst e; cases f <;> first | exact .inl ⟨_, rfl⟩ | exact .inr ⟨_, rfl⟩
            rcases key _ rfl with ⟨i, ei⟩ | ⟨T, eT⟩
            · rw [ei] at cb bb
              exact (pe_callB cb (glB_ok xo h2) (go.blt f) bb (sA xo go l (y :: ys) h4) d3 d1 (star_one ys h5) (back_none pos h6)).wk im
            · rw [eT] at cb bb
              exact (pe_callTy cb (glB_ok xo h2) (go.blt f) bb (sA xo go l (y :: ys) h4) d3 d1 (star_one ys h5) (back_none pos h6)).wk im
          exact ⟨p, tOf p fun _ => rfl⟩
    exact ⟨fun e h => (p e h).1, fun e h => (p e h).2⟩
  | .app o a => by
    have p : ∀ e, chk N sc G (.app o a) e = true → PE X e (TDE X.K (ev G cl (.app o a))) ∧ PT X e (TDT X.K (ev G cl (.app o a))) := fun e h => by
      cases e <;> first | exact absurd (show false = true from h) Bool.false_ne_true | skip
      rename_i fe es kw cp
      cases fe <;> first | exact absurd (show false = true from h) Bool.false_ne_true | skip
      rename_i x nm ap
      cases es with
      | nil => exact absurd (show false = true from h) Bool.false_ne_true
      | cons y ys =>
        cases ys with
        | cons => exact absurd (show false = true from h) Bool.false_ne_true
        | nil =>
          cases kw with
          | cons => exact absurd (show false = true from h) Bool.false_ne_true
          | nil =>
            have h' : (nm == ("append" : Str) && (ap.endLine == cp.line) && noStar y && isVar o && chk N sc G o x && chk N sc G a y) = true := h
            simp only [Bool.and_eq_true] at h'
            obtain ⟨⟨⟨⟨⟨h1, h2⟩, h3⟩, h4⟩, h5⟩, h6⟩ := h'
            have h1' : nm = "append" := by simpa using h1
            subst h1'
            have ho := (sET xo go o).1 x h5
            have hx : ∃ z p, x = .Name z p := by
              cases o <;> first | (cases h4; done) | skip
              cases x <;> first | exact absurd (show false = true from h5) Bool.false_ne_true | exact ⟨_, _, rfl⟩
            obtain ⟨z, pz, rfl⟩ := hx
            have hA : PA X [y] (tCons (TDE X.K (ev G cl a)) tNil) := pa_cons ((sET xo go a).1 y h6) pa_nil (star_one [] h3)
            have p : PE X (.Call (.Attribute (.Name z pz) "append" ap) [y] [] cp) (TDE X.K (ev G cl (.app o a))) := (pe_bm PySem.F.plainAttrs_list PySem.F.slot_list_append PySem.F.type_list_append mt_append ho hA rfl (by rw [star_one [] h3]; rfl) h2 (star_one [] h3) rfl).wk fun s H Q q => by
              refine TDE.one (fun _ _ => rfl) q fun m m2 r d h2 h' H2 dx v st g w2 st2 rx e c => ?_
              split at e
              · rename_i hl
                obtain ⟨dy, h3, e3, e⟩ := Rs.bind_ok e
                cases rx <;> first | (cases e; done) | skip
                case ref n a' ha eb =>
                  simp only [appD] at e
                  split at e <;> first | (cases e; done) | skip
                  rename_i l el
                  split at e <;> first | (cases e; done) | skip
                  rename_i hz
                  cases e
                  have hl' : ∃ l0, lstAt h2 n = some l0 := Option.isSome_iff_exists.mp hl
                  obtain ⟨l0, hl'⟩ := hl'
                  obtain ⟨a'', vs0, ha'', hq, _⟩ := w2.lst hl'
                  rw [ha] at ha''; cases ha''
                  refine ⟨.inl ⟨rfl, vs0, hq⟩, m2, r, h2, dy, h3, w2, st2, e3, fun m3 y' H3 g3 w3 ry => ?_⟩
                  have ha3 := g3.pre _ _ ha
                  obtain ⟨vs, hv, rv⟩ : ∃ vs, H3 a' = some (.lst vs) ∧ RDs X.K m3 H3 l vs := w3.ob n _ a' el ha3
                  obtain ⟨_, w4, g4⟩ := w3.lstSet el ha3 (rv.append (.cons ry .nil))
                  exact ⟨a', vs, y', rfl, rfl, hv, by rw [← rv.length]; exact Nat.lt_of_lt_of_le hz (by decide), c m3 _ _ (g3.trans g4) w4 .non⟩
              · cases e
            exact ⟨p, tOf p fun _ => rfl⟩
    exact ⟨fun e h => (p e h).1, fun e h => (p e h).2⟩
  | .comp t k it cs e N' cap => by
    have p : ∀ v, chk N sc G (.comp t k it cs e N' cap) v = true → PE X v (TDE X.K (ev G cl (.comp t k it cs e N' cap))) ∧ PT X v (TDT X.K (ev G cl (.comp t k it cs e N' cap))) := fun v h => by
      obtain ⟨elt, tg, iter, ifs, scope, pos, rfl, c⟩ := compChk h
      have p : PE X (.ListComp elt [⟨tg, iter, ifs, 0⟩] scope pos) (TDE X.K (ev G cl (.comp t k it cs e N' cap))) := comp_pe xo c.S c.capL c.nN c.fr
        (fun C s3 H3 fp => ⟨pgT' (blk_xo xo c.nd C s3 H3 fp) c.tg, sB (blk_xo xo c.nd C s3 H3 fp) (blk_go go C s3 H3 fp) cs ifs c.cs, (sET (blk_xo xo c.nd C s3 H3 fp) (blk_go go C s3 H3 fp) e).1 elt c.e⟩) c.ns
        (comp_it xo c (fun es hc => sA xo go it es hc) fun c' x ec hx => by
          cases it with
          | nil => cases ec
          | cons c0 l =>
            injection ec with ec _
            subst ec
            exact (sET xo go c0).1 x hx)
      exact ⟨p, tOf p fun _ => rfl⟩
    exact ⟨fun e h => (p e h).1, fun e h => (p e h).2⟩
theorem sB {X : Cx} {N : List Str} {sc : Scope} {G : Gs} {cl : Cl} (xo : XOk X N sc) (go : GOk X G cl) : ∀ (l : Es) (es : List PySem.Expr), chks N sc G l es = true → PTs X es (TDB X.K (evt G cl l))
  | .nil, [], _ => fun pins s σ H Q I ⟨m, r, hh, b, h', w, st, e1, c⟩ => by
    rw [evt] at e1
    cases e1
    exact wpAny_pure ⟨H, I, c m H Gr.refl w⟩
  | .cons c l, e :: es, h => fun pins s σ H Q I ⟨m, r, hh, b, h', w, st, e1, cc⟩ => by
    have h' : (noStar e && chk N sc G c e && chks N sc G l es) = true := h
    simp only [Bool.and_eq_true] at h'
    rw [evt] at e1
    obtain ⟨d, h1, e0, e1⟩ := Rs.bind_ok e1
    refine tests_cons ?_
    split at e1
    · rename_i et
      refine thn ((sET xo go c).2 e h'.1.2 pins s σ H (fun k H1 => k = true ∧ TDB X.K (evt G cl l) σ H1 Q) I ⟨m, r, hh, d, h1, true, w, st, e0, et, fun m' H' g w' => ⟨rfl, m', r, h1, b, _, w', st.mono g, e1, fun m2 H2 g2 => cc m2 H2 (g.trans g2)⟩⟩) fun k s1 ⟨H1, I1, ek, q1⟩ => ?_
      subst ek
      exact sB xo go l es h'.2 pins s1 σ H1 Q I1 q1
    · rename_i et
      cases e1
      refine thn ((sET xo go c).2 e h'.1.2 pins s σ H (fun k H1 => k = false ∧ Q false H1) I ⟨m, r, hh, d, _, false, w, st, e0, et, fun m' H' g w' => ⟨rfl, cc m' H' g w'⟩⟩) fun k s1 ⟨H1, I1, ek, q1⟩ => ?_
      subst ek
      exact tests_false ⟨H1, I1, q1⟩
    · cases e1
  | .nil, _ :: _, h => absurd (show false = true from h) Bool.false_ne_true
  | .cons _ _, [], h => absurd (show false = true from h) Bool.false_ne_true
theorem sA {X : Cx} {N : List Str} {sc : Scope} {G : Gs} {cl : Cl} (xo : XOk X N sc) (go : GOk X G cl) : ∀ (l : Es) (es : List PySem.Expr), chks N sc G l es = true → PA X es (TDA X.K (evs G cl l))
  | .nil, [], _ => L2.PA.wk pa_nil fun s H Q ⟨m, r, hh, ds, h', w, st, e1, c⟩ => by
    cases e1
    exact c m [] H Gr.refl w .nil
  | .cons c l, e :: es, h => by
    have h' : (noStar e && chk N sc G c e && chks N sc G l es) = true := h
    simp only [Bool.and_eq_true] at h'
    refine L2.PA.wk (pa_cons ((sET xo go c).1 e h'.1.2) (sA xo go l es h'.2) (star_one es h'.1.1)) fun s H Q ⟨m, r, hh, ds, h', w, st, e1, cc⟩ => ?_
    simp only [evs] at e1
    obtain ⟨d, h1, e0, e1⟩ := Rs.bind_ok e1
    obtain ⟨ds', h2, e2, e1⟩ := Rs.bind_ok e1
    cases e1
    exact ⟨m, r, hh, d, h1, w, st, e0, fun m1 v H1 g1 w1 rv => ⟨m1, r, h1, ds', _, w1, st.mono g1, e2, fun m2 vs H2 g2 w2 rvs => cc m2 _ H2 (g1.trans g2) w2 (.cons (rv.mono g2) rvs)⟩⟩
  | .nil, _ :: _, h => absurd (show false = true from h) Bool.false_ne_true
  | .cons _ _, [], h => absurd (show false = true from h) Bool.false_ne_true
end
end Ng

end
section
set_option Elab.async false
set_option linter.all false
set_option maxRecDepth 100000
set_option maxHeartbeats 4000000
set_option autoImplicit false
namespace Ng
open PySem PySem.Spec PyProof.Rows L2

/-! ### statements -/
inductive Ir where
  | r1 (e : E) | r2 (a b : E) | sq (e : E)
mutual
inductive S where
  | asg (t : Tg) (e : E) | asc (i : Nat) (e : E) | ex (e : E) | ret (e : E) | iff (c : E) (a b : Ss) | forr (t : Tg) (it : Ir) (b : Ss) | whl (c : E) (b : Ss)
  | pass | brk | cont | stx (o i e : E) | never
inductive Ss where
  | nil | cons (s : S) (r : Ss)
end
inductive Fl where
  | nx (r : Ev) | rt (d : D) | bk (r : Ev) | ct (r : Ev)
def forS (t : Tg) (body : Ev → Hh → Rs Fl) : List D → Ev → Hh → Rs Fl
  | [], r, h => .ok (.nx r) h
  | d :: ds, r, h => match setT t d r with
    | none => .bad
    | some r1 => (body r1 h).bind fun fl h => match fl with
      | .nx r2 => forS t body ds r2 h
      | .ct r2 => forS t body ds r2 h
      | .bk r2 => .ok (.nx r2) h
      | .rt d => .ok (.rt d) h
def forI (t : Tg) (body : Ev → Hh → Rs Fl) (n : Nat) : Nat → Nat → Ev → Hh → Rs Fl
  | 0, _, _, _ => .bad
  | k + 1, i, r, h => match lstAt h n with
    | none => .bad
    | some l => match l[i]? with
      | none => .ok (.nx r) h
      | some d => match setT t d r with
        | none => .bad
        | some r1 => (body r1 h).bind fun fl h => match fl with
          | .nx r2 => forI t body n k (i + 1) r2 h
          | .ct r2 => forI t body n k (i + 1) r2 h
          | .bk r2 => .ok (.nx r2) h
          | .rt d => .ok (.rt d) h
def whileF (c : Ev → Hh → Rs D) (body : Ev → Hh → Rs Fl) : Nat → Ev → Hh → Rs Fl
  | 0, _, _ => .bad
  | k + 1, r, h => (c r h).bind fun x h => match truD x h with
    | none => .bad
    | some false => .ok (.nx r) h
    | some true => (body r h).bind fun fl h => match fl with
      | .nx r2 => whileF c body k r2 h
      | .ct r2 => whileF c body k r2 h
      | .bk r2 => .ok (.nx r2) h
      | .rt d => .ok (.rt d) h
def stxD (x y z : D) (h : Hh) : Rs Unit := match x, y with
  | .ref n, .int k => match h[n]? with
    | some (.lst l) => match ixN l.length k with
      | some j => .ok () (h.set n (.lst (l.set j z)))
      | none => .bad
    | _ => .bad
  | _, _ => .bad
def forD (W : Nat) (t : Tg) (body : Ev → Hh → Rs Fl) (x : D) (r : Ev) (h : Hh) : Rs Fl := match x with
  | .tup l => forS t body l r h
  | .ref n => forI t body n W 0 r h
  | _ => .bad
mutual
def xs (G : Gs) (cl : Cl) (W : Nat) : S → Ev → Hh → Rs Fl
  | .asg t e, r, h => (ev G cl e r h).bind fun x h => match setT t x r with
    | some r1 => .ok (.nx r1) h
    | none => .bad
  | .asc i e, r, h => (ev G cl e r h).bind fun x h => .ok (.nx (r.set i (some x))) h
  | .ex e, r, h => (ev G cl e r h).bind fun _ h => .ok (.nx r) h
  | .ret e, r, h => (ev G cl e r h).bind fun x h => .ok (.rt x) h
  | .iff c a b, r, h => (ev G cl c r h).bind fun x h => match truD x h with
    | some true => xss G cl W a r h
    | some false => xss G cl W b r h
    | none => .bad
  | .forr t (.r1 e) b, r, h => (ev G cl e r h).bind fun x h => match x with
    | .int j => if okR j then forS t (xss G cl W b) (rngD 0 j) r h else .bad
    | _ => .bad
  | .forr t (.r2 e e') b, r, h => (ev G cl e r h).bind fun x h => (ev G cl e' r h).bind fun y h => match x, y with
    | .int i, .int j => if okR i ∧ okR j then forS t (xss G cl W b) (rngD i j) r h else .bad
    | _, _ => .bad
  | .forr t (.sq e) b, r, h => (ev G cl e r h).bind fun x h => forD W t (xss G cl W b) x r h
  | .whl c b, r, h => whileF (ev G cl c) (xss G cl W b) W r h
  | .pass, r, h => .ok (.nx r) h
  | .brk, r, h => .ok (.bk r) h
  | .cont, r, h => .ok (.ct r) h
  | .stx o i e, r, h => (ev G cl e r h).bind fun z h => (ev G cl o r h).bind fun x h => (ev G cl i r h).bind fun y h => (stxD x y z h).bind fun _ h => .ok (.nx r) h
  | .never, _, _ => .bad
def xss (G : Gs) (cl : Cl) (W : Nat) : Ss → Ev → Hh → Rs Fl
  | .nil, r, h => .ok (.nx r) h
  | .cons s l, r, h => (xs G cl W s r h).bind fun fl h => match fl with
    | .nx r2 => xss G cl W l r2 h
    | f => .ok f h
end
def noComp : PySem.Expr → Bool
  | .ListComp _ _ _ _ => false
  | .SetComp _ _ _ _ => false
  | .DictComp _ _ _ _ _ => false
  | _ => true
def noTup : PySem.Expr → Bool
  | .Tuple _ _ _ => false
  | _ => true
def isComp : E → Bool
  | .comp _ _ _ _ _ _ _ => true
  | _ => false
def swOk (y : Str) (py : Pos) : PySem.Expr → Bool
  | .ListComp _ _ scope pos => py.line == pos.line && !(scope.names.any fun (n, k) => n == y && (k == .local || k == .cell))
  | _ => false
def chkNs (N : List Str) (sc : Scope) : List Nat → List PySem.Expr → Bool
  | [], [] => true
  | i :: is, .Name x _ :: es => N[i]? == some x && locB sc x && chkNs N sc is es
  | _, _ => false
def chkT (N : List Str) (sc : Scope) : Tg → PySem.Expr → Bool
  | .nm i, .Name x _ => N[i]? == some x && locB sc x
  | .tp l, .Tuple es _ _ => chkNs N sc l es
  | _, _ => false
def chkI (N : List Str) (sc : Scope) (G : Gs) : Ir → PySem.Expr → Bool
  | .r1 e, .Call (.Name x _) [a] [] _ => x == ("range" : Str) && glB sc x && noStar a && chk N sc G e a
  | .r2 e e', .Call (.Name x _) [a, b] [] _ => x == ("range" : Str) && glB sc x && noStar a && noStar b && chk N sc G e a && chk N sc G e' b
  | .sq e, a => noSet a && chk N sc G e a
  | _, _ => false
def isStx : PySem.Expr → Bool
  | .Subscript _ _ _ => true
  | _ => false
mutual
def chkS (N : List Str) (sc : Scope) (G : Gs) : S → PySem.Stmt → Bool
  | .asg (.nm i) e, .Assign [.Name x _] v _ => N[i]? == some x && locB sc x && noComp v && chk N sc G e v
  | .asg (.tp l) e, .Assign [.Tuple es _ _] v _ => chkNs N sc l es && noComp v && noTup v && chk N sc G e v
  | .asc i e, .Assign [.Name y py] v spos => N[i]? == some y && sc.kind == .function && sc.names.lookup y == some .local && isComp e && swOk y py v && chk N sc G e v
  | .ex e, .Expr v _ => noComp v && chk N sc G e v
  | .ret e, .Return (some v) _ => chk N sc G e v
  | .iff c a b, .If t x y _ => chk N sc G c t && chkSs N sc G a x && chkSs N sc G b y
  | .forr t it b, .For tg i x [] _ => chkT N sc t tg && noSet i && chkI N sc G it i && chkSs N sc G b x
  | .whl c b, .While t x [] _ => chk N sc G c t && chkSs N sc G b x
  | .pass, .Pass _ => true
  | .brk, .Break _ => true
  | .cont, .Continue _ => true
  | .stx o i e, .Assign [.Subscript x y _] v _ => noComp v && noSlice y && chk N sc G e v && chk N sc G o x && chk N sc G i y
  | .never, _ => true
  | _, _ => false
def chkSs (N : List Str) (sc : Scope) (G : Gs) : Ss → List PySem.Stmt → Bool
  | .nil, [] => true
  | .cons s l, x :: r => chkS N sc G s x && chkSs N sc G l r
  | _, _ => false
end

/-! ### readings -/
def FlOk (K : PySem.W.Frag) (m : List Addr) (H : Hp) (D : Ends) : Fl → Prop
  | .nx r => ∀ s, RSt K m H r s → D.nx s H
  | .rt d => ∀ v, RD K m H d v → D.rt v H
  | .bk r => ∀ s, RSt K m H r s → D.bk s H
  | .ct r => ∀ s, RSt K m H r s → D.ct s H
def TDS (K : PySem.W.Frag) (f : Ev → Hh → Rs Fl) : TS := fun D s H => ∃ m r h fl h', Wd K m h H ∧ RSt K m H r s ∧ f r h = .ok fl h' ∧ ∀ m' H', Gr K m H m' H' → Wd K m' h' H' → FlOk K m' H' D fl
theorem _root_.L2.PS.wk {X : Cx} {e : PySem.Stmt} {t t' : TS} (h : PS X e t) (i : ∀ D s H, t' D s H → t D s H) : PS X e t' := fun pins s σ H D I q => h pins s σ H D I (i _ _ _ q)
theorem _root_.L2.PSs.wk {X : Cx} {e : List PySem.Stmt} {t t' : TS} (h : PSs X e t) (i : ∀ D s H, t' D s H → t D s H) : PSs X e t' := fun pins s σ H D I q => h pins s σ H D I (i _ _ _ q)
section
variable {X : Cx} {N : List Str} {sc : Scope} {G : Gs} {cl : Cl}
/-! ### targets -/
theorem chkNs_of : ∀ {l : List Nat} {es : List PySem.Expr}, chkNs N sc l es = true → l.length = es.length ∧ ∀ (j : Nat) i e, l[j]? = some i → es[j]? = some e → chkT N sc (.nm i) e = true
  | [], [], _ => ⟨rfl, fun j i e h => by simp at h⟩
  | i :: is, e :: es, h => by
    cases e <;> first | exact absurd (show false = true from h) Bool.false_ne_true | skip
    rename_i x pos
    have h' : (N[i]? == some x && locB sc x && chkNs N sc is es) = true := h
    rw [Bool.and_eq_true] at h'
    obtain ⟨i1, i2⟩ := chkNs_of h'.2
    refine ⟨by simp [i1], fun j i' e' e1 e2 => ?_⟩
    cases j with
    | zero =>
      simp at e1 e2
      subst e1; subst e2
      exact h'.1
    | succ j => exact i2 j i' e' (by simpa using e1) (by simpa using e2)
  | [], _ :: _, h => absurd (show false = true from h) Bool.false_ne_true
  | _ :: _, [], h => absurd (show false = true from h) Bool.false_ne_true
theorem pgT (xo : XOk X N sc) (hfn : ∀ x, X.fn x = true) {t : Tg} {tg : PySem.Expr} (h : chkT N sc t tg = true) : PG X tg (TDG X.K t) := by
  refine pgT_of (fun e i => chkT N sc (.nm i) e) (fun e i he => ?_) xo.calm ?_
  · cases e <;> first | exact absurd (show false = true from he) Bool.false_ne_true | skip
    rename_i x pos
    have h' : (N[i]? == some x && locB sc x) = true := he
    simp only [Bool.and_eq_true, beq_iff_eq] at h'
    exact ⟨x, pos, rfl, pg_name xo.nd (by rw [xo.n]; exact h'.1) (by rw [xo.s]; exact locB_ok h'.2) (.inl (hfn x))⟩
  · cases t with
    | nm i => exact h
    | tp l =>
      cases tg <;> first | exact absurd (show false = true from h) Bool.false_ne_true | skip
      rename_i es k pos
      obtain ⟨h1, h2⟩ := chkNs_of (show chkNs N sc l es = true from h)
      exact ⟨es, k, pos, rfl, h1, h2⟩
end
end Ng

end
section
set_option Elab.async false
set_option linter.all false
set_option maxRecDepth 100000
set_option maxHeartbeats 4000000
set_option autoImplicit false
namespace Ng
open PySem PySem.Spec PyProof.Rows L2
section
variable {X : Cx} {N : List Str} {sc : Scope} {G : Gs} {cl : Cl} {W : Nat} {K : PySem.W.Frag}
/-- what a loop's body does to what is wanted: the loop's own ends -/
theorem FlOk.body {Z : Ends} {m0 : List Addr} {H0 : Hp} {fl : Fl} {h' : Hh} {P : Sg → Hp → Prop} {fl1 : Fl} {h2 : Hh} {next : Ev → Hh → Rs Fl}
    (c : ∀ m' H', Gr K m0 H0 m' H' → Wd K m' h' H' → FlOk K m' H' Z fl)
    (e : (match fl1 with
      | .nx r2 => next r2 h2
      | .ct r2 => next r2 h2
      | .bk r2 => .ok (.nx r2) h2
      | .rt d => .ok (.rt d) h2) = Rs.ok fl h')
    {m2 : List Addr} {H2 : Hp} (g : Gr K m0 H0 m2 H2) (w : Wd K m2 h2 H2) (hP : ∀ r s, RSt K m2 H2 r s → next r h2 = .ok fl h' → P s H2) : FlOk K m2 H2 { Z with nx := P, ct := P, bk := Z.nx } fl1 := by
  cases fl1 with
  | nx r => exact fun s st => hP r s st e
  | ct r => exact fun s st => hP r s st e
  | bk r => cases e; exact fun s st => c m2 H2 g w s st
  | rt d => cases e; exact fun v rd => c m2 H2 g w v rd
/-- one turn of a loop over items that stay -/
theorem turnS {t : Tg} {body : Ev → Hh → Rs Fl} {Z : Ends} {m0 : List Addr} {H0 : Hp} {fl : Fl} {h' : Hh} {d : D} {ds : List D} {P : Sg → Hp → Prop} {m1 : List Addr} {r1 : Ev} {h1 : Hh} {s1 : Sg} {H1 : Hp} {v : V}
    (c : ∀ m' H', Gr K m0 H0 m' H' → Wd K m' h' H' → FlOk K m' H' Z fl) (g : Gr K m0 H0 m1 H1) (w : Wd K m1 h1 H1) (st : RSt K m1 H1 r1 s1) (rd : RD K m1 H1 d v) (e : forS t body (d :: ds) r1 h1 = .ok fl h')
    (hP : ∀ m2 H2 r2 h2 s2, Gr K m0 H0 m2 H2 → Wd K m2 h2 H2 → RSt K m2 H2 r2 s2 → forS t body ds r2 h2 = .ok fl h' → P s2 H2) :
    TDG K t v s1 H1 fun s2 H2 => TDS K body { Z with nx := P, ct := P, bk := Z.nx } s2 H2 := by
  simp only [forS] at e
  split at e
  · cases e
  · rename_i r2 er
    obtain ⟨fl1, h2, e1, e⟩ := Rs.bind_ok e
    exact ⟨m1, h1, r1, d, r2, w, st, rd, er, fun s2 st2 => ⟨m1, r2, h1, fl1, h2, w, st2, e1, fun m' H' g' w' => FlOk.body (next := forS t body ds) c e (g.trans g') w' fun r s st' e' => hP m' H' r h2 s (g.trans g') w' st' e'⟩⟩
theorem for_tupD {t : Tg} {body : Ev → Hh → Rs Fl} {Z : Ends} {m0 : List Addr} {H0 : Hp} {fl : Fl} {h0 h' : Hh} {ds : List D} {vs : List V} {r0 : Ev} {s0 : Sg} {a : Addr}
    (c : ∀ m' H', Gr K m0 H0 m' H' → Wd K m' h' H' → FlOk K m' H' Z fl) (w : Wd K m0 h0 H0) (st : RSt K m0 H0 r0 s0) (hq : SqT K H0 a vs) (q : RDs K m0 H0 ds vs) (e : forS t body ds r0 h0 = .ok fl h') :
    ∃ Wv : Nat → Nat → Sg → Hp → Prop, (∃ m, Wv 0 m s0 H0) ∧ ∀ i m s H, Wv i m s H →
      ((Itt K a).stop i H ∧ Z.nx s H) ∨ ((Itt K a).go i H ∧ ∃ P : Sg → Hp → Prop, (∀ s' H', P s' H' → ∃ m', m' < m ∧ Wv (i + 1) m' s' H') ∧ ∀ x H', (Itt K a).yld i H x H' → TDG K t x s H' fun s2 H2 => TDS K body { Z with nx := P, ct := P, bk := Z.nx } s2 H2) := by
  refine for_tup (K := K) (a := a) (xs := vs) (fun i s H => ∃ m r h, Gr K m0 H0 m H ∧ Wd K m h H ∧ RSt K m H r s ∧ forS t body (ds.drop i) r h = .ok fl h')
    ⟨m0, r0, h0, .refl, w, st, e⟩ (fun i s H _ ⟨m, r, h, g, _⟩ => g.tup _ _ hq) ?_ ?_
  · rintro i x s H hi ⟨m, r, h, g, w1, st1, e1⟩
    obtain ⟨d, hd, rd⟩ := q.getV hi
    have ed : ds.drop i = d :: ds.drop (i + 1) := by
      obtain ⟨hl, z⟩ := List.getElem?_eq_some_iff.mp hd
      rw [← z]; exact List.drop_eq_getElem_cons hl
    rw [ed] at e1
    exact turnS c g w1 st1 (rd.mono g) e1 fun m2 H2 r2 h2 s2 g2 w2 st2 e2 => ⟨m2, r2, h2, g2, w2, st2, e2⟩
  · rintro s H ⟨m, r, h, g, w1, st1, e1⟩
    rw [← q.length, List.drop_length] at e1
    cases e1
    exact c m H g w1 s st1
theorem for_rngD {t : Tg} {body : Ev → Hh → Rs Fl} {Z : Ends} {m0 : List Addr} {H0 : Hp} {fl : Fl} {h0 h' : Hh} {lo hi : Int} {r0 : Ev} {s0 : Sg}
    (c : ∀ m' H', Gr K m0 H0 m' H' → Wd K m' h' H' → FlOk K m' H' Z fl) (w : Wd K m0 h0 H0) (st : RSt K m0 H0 r0 s0) (e : forS t body (rngD lo hi) r0 h0 = .ok fl h') :
    ∃ Wv : Nat → Nat → Sg → Hp → Prop, (∃ m, Wv 0 m s0 H0) ∧ ∀ i m s H, Wv i m s H →
      ((Itr lo (hi - lo).toNat).stop i H ∧ Z.nx s H) ∨ ((Itr lo (hi - lo).toNat).go i H ∧ ∃ P : Sg → Hp → Prop, (∀ s' H', P s' H' → ∃ m', m' < m ∧ Wv (i + 1) m' s' H') ∧ ∀ x H', (Itr lo (hi - lo).toNat).yld i H x H' → TDG K t x s H' fun s2 H2 => TDS K body { Z with nx := P, ct := P, bk := Z.nx } s2 H2) := by
  refine for_range (lo := lo) (n := (hi - lo).toNat) (fun i s H => ∃ m r h, Gr K m0 H0 m H ∧ Wd K m h H ∧ RSt K m H r s ∧ forS t body ((rngD lo hi).drop i) r h = .ok fl h')
    ⟨m0, r0, h0, .refl, w, st, e⟩ ?_ ?_
  · rintro i s H hi' ⟨m, r, h, g, w1, st1, e1⟩
    have hd : (rngD lo hi)[i]? = some (D.int (lo + i)) := by
      unfold rngD
      rw [List.getElem?_map, List.getElem?_range hi']
      rfl
    have ed : (rngD lo hi).drop i = D.int (lo + i) :: (rngD lo hi).drop (i + 1) := by
      obtain ⟨hl, z⟩ := List.getElem?_eq_some_iff.mp hd
      rw [← z]; exact List.drop_eq_getElem_cons hl
    rw [ed] at e1
    exact turnS c g w1 st1 (.int _) e1 fun m2 H2 r2 h2 s2 g2 w2 st2 e2 => ⟨m2, r2, h2, g2, w2, st2, e2⟩
  · rintro s H ⟨m, r, h, g, w1, st1, e1⟩
    have hl : (rngD lo hi).length = (hi - lo).toNat := by unfold rngD; simp
    rw [← hl, List.drop_length] at e1
    cases e1
    exact c m H g w1 s st1
theorem for_lstD {t : Tg} {body : Ev → Hh → Rs Fl} {Z : Ends} {m0 : List Addr} {H0 : Hp} {fl : Fl} {h0 h' : Hh} {n : Nat} {r0 : Ev} {s0 : Sg} {a : Addr}
    (c : ∀ m' H', Gr K m0 H0 m' H' → Wd K m' h' H' → FlOk K m' H' Z fl) (w : Wd K m0 h0 H0) (st : RSt K m0 H0 r0 s0) (ha : m0[n]? = some a) (e : forI t body n W 0 r0 h0 = .ok fl h') :
    ∃ Wv : Nat → Nat → Sg → Hp → Prop, (∃ m, Wv 0 m s0 H0) ∧ ∀ i m s H, Wv i m s H →
      ((Itl K a).stop i H ∧ Z.nx s H) ∨ ((Itl K a).go i H ∧ ∃ P : Sg → Hp → Prop, (∀ s' H', P s' H' → ∃ m', m' < m ∧ Wv (i + 1) m' s' H') ∧ ∀ x H', (Itl K a).yld i H x H' → TDG K t x s H' fun s2 H2 => TDS K body { Z with nx := P, ct := P, bk := Z.nx } s2 H2) := by
  refine ⟨fun i k s H => ∃ m r h, Gr K m0 H0 m H ∧ Wd K m h H ∧ RSt K m H r s ∧ forI t body n k i r h = .ok fl h', ⟨W, m0, r0, h0, .refl, w, st, e⟩, ?_⟩
  rintro i k s H ⟨m, r, h, g, w1, st1, e1⟩
  cases k with
  | zero => cases e1
  | succ k =>
    simp only [forI] at e1
    split at e1
    · cases e1
    · rename_i l el
      obtain ⟨a', vs, ha', hq, q⟩ := w1.lst el
      have := g.pre _ _ ha
      rw [this] at ha'; cases ha'
      split at e1
      · rename_i en
        cases e1
        refine .inl ⟨⟨vs, hq, ?_⟩, c m H g w1 s st1⟩
        rw [← q.length]; exact List.getElem?_eq_none_iff.mp en
      · rename_i d ed
        obtain ⟨v, hv, rd⟩ := q.get ed
        refine .inr ⟨⟨vs, v, hq, hv⟩, fun s' H' => ∃ m r h, Gr K m0 H0 m H' ∧ Wd K m h H' ∧ RSt K m H' r s' ∧ forI t body n k (i + 1) r h = .ok fl h', fun s' H' p => ⟨k, Nat.lt_succ_self _, p⟩, fun x H' y => ?_⟩
        obtain ⟨rfl, y⟩ := y
        have hx := y vs hq
        rw [hv] at hx; cases hx
        split at e1
        · cases e1
        · rename_i r2 er
          obtain ⟨fl1, h2, e2, e1⟩ := Rs.bind_ok e1
          exact ⟨m, h, r, d, r2, w1, st1, rd, er, fun s2 st2 => ⟨m, r2, h, fl1, h2, w1, st2, e2, fun m' H' g' w' => FlOk.body (next := forI t body n k (i + 1)) c e1 (g.trans g') w' fun r s st' e' => ⟨m', r, h2, g.trans g', w', st', e'⟩⟩⟩
theorem whileD {f : Ev → Hh → Rs D} {body : Ev → Hh → Rs Fl} {Z : Ends} {m0 : List Addr} {H0 : Hp} {fl : Fl} {h0 h' : Hh} {r0 : Ev} {s0 : Sg}
    (c : ∀ m' H', Gr K m0 H0 m' H' → Wd K m' h' H' → FlOk K m' H' Z fl) (w : Wd K m0 h0 H0) (st : RSt K m0 H0 r0 s0) (e : whileF f body W r0 h0 = .ok fl h') : tWhile (TDT K f) (TDS K body) Z s0 H0 := by
  refine ⟨fun k s H => ∃ m r h, Gr K m0 H0 m H ∧ Wd K m h H ∧ RSt K m H r s ∧ whileF f body k r h = .ok fl h', ⟨W, m0, r0, h0, .refl, w, st, e⟩, ?_⟩
  rintro k s H ⟨m, r, h, g, w1, st1, e1⟩
  cases k with
  | zero => cases e1
  | succ k =>
    simp only [whileF] at e1
    obtain ⟨x, h1, ex, e1⟩ := Rs.bind_ok e1
    split at e1
    · cases e1
    · rename_i et
      cases e1
      exact ⟨m, r, h, x, _, false, w1, st1, ex, et, fun m' H' g' w' => iteF (c m' H' (g.trans g') w' s (st1.mono g'))⟩
    · rename_i et
      obtain ⟨fl1, h2, e2, e1⟩ := Rs.bind_ok e1
      exact ⟨m, r, h, x, h1, true, w1, st1, ex, et, fun m' H' g' w' => iteT ⟨fun s' H' => ∃ m r h, Gr K m0 H0 m H' ∧ Wd K m h H' ∧ RSt K m H' r s' ∧ whileF f body k r h = .ok fl h', fun s' H' p => ⟨k, Nat.lt_succ_self _, p⟩,
        m', r, h1, fl1, h2, w', st1.mono g', e2, fun m3 H3 g3 w3 => FlOk.body (next := whileF f body k) c e1 ((g.trans g').trans g3) w3 fun r s st' e' => ⟨m3, r, h2, (g.trans g').trans g3, w3, st', e'⟩⟩⟩
end
end Ng

end
section
set_option Elab.async false
set_option linter.all false
set_option maxRecDepth 100000
set_option maxHeartbeats 4000000
set_option autoImplicit false
namespace Ng
open PySem PySem.Spec PyProof.Rows L2
section
variable {X : Cx} {N : List Str} {sc : Scope} {G : Gs} {cl : Cl} {W : Nat}
theorem noComp_sw {v : PySem.Expr} {t : Option PySem.Expr} {l : Nat} (h : noComp v = true) : swapsWith v t l X.env = pure false := by
  cases v <;> first | rfl | (cases h; done)
theorem noComp_sole {v tg : PySem.Expr} {l : Nat} (h : noComp v = true) : swapsWithSole [tg] v l X.env = pure false := noComp_sw (t := some tg) h
/-- an expression, then what is done with its value -/
theorem TDS.one {K : PySem.W.Frag} {fa : Ev → Hh → Rs D} {f : Ev → Hh → Rs Fl} {k : Ev → D → Hh → Rs Fl} {s : Sg} {H : Hp} {Z : Ends} {R : VK} (hf : ∀ r h, f r h = (fa r h).bind (k r)) (q : TDS K f Z s H)
    (c : ∀ (m2 : List Addr) (r : Ev) (fl : Fl) (h2 h' : Hh) (H2 : Hp) (dx : D) (x : V), Wd K m2 h2 H2 → RSt K m2 H2 r s → RD K m2 H2 dx x → k r dx h2 = .ok fl h' → (∀ m' H', Gr K m2 H2 m' H' → Wd K m' h' H' → FlOk K m' H' Z fl) → R x H2) : TDE K fa s H R := by
  obtain ⟨m, r, h, d, h', w, st, e, cc⟩ := q
  rw [hf] at e
  obtain ⟨dx, h1, e1, e⟩ := Rs.bind_ok e
  exact ⟨m, r, h, dx, h1, w, st, e1, fun m1 x H1 g1 w1 rx => c m1 r d h1 h' H1 dx x w1 (st.mono g1) rx e fun m' H' g => cc m' H' (g1.trans g)⟩
def gSt (K : PySem.W.Frag) : TSet := fun o i v H Q => ∃ m h x y z h', Wd K m h H ∧ RD K m H x o ∧ RD K m H y i ∧ RD K m H z v ∧ stxD x y z h = .ok () h' ∧ ∀ m' H', Gr K m H m' H' → Wd K m' h' H' → Q H'
theorem setD : PSet X (gSt X.K) := by
  intro pins s σ H o i v ov iv u Q I ro ri rv ⟨m, h, x, y, z, h', w, r1, r2, r3, e, c⟩
  cases r1 <;> first | (cases e; done) | skip
  rename_i n a ha
  cases r2 <;> first | (cases e; done) | skip
  rename_i k
  simp only [stxD] at e
  split at e
  · rename_i l el
    split at e
    · rename_i j ej
      cases e
      obtain ⟨vs, hv, rvs⟩ : ∃ vs, H a = some (.lst vs) ∧ RDs X.K m H l vs := w.ob n _ a el ha
      obtain ⟨_, w4, g4⟩ := w.lstSet el ha (rvs.set r3 j)
      exact set_list pins s σ H _ _ v ov iv u Q I ro ri rv ⟨a, vs, k, j, rfl, rfl, hv, by rw [← rvs.length]; exact ej, c m _ g4 w4⟩
    · cases e
  · cases e
theorem range_dbg : ((Str.ofString "range") == ("__debug__" : Str)) = false := by decide +kernel
mutual
theorem sS (xo : XOk X N sc) (go : GOk X G cl) (hfn : ∀ x, X.fn x = true) : ∀ (c : S) (e : PySem.Stmt), chkS N sc G c e = true → PS X e (TDS X.K (xs G cl W c))
  | .asg (.nm i) a, e, h => by
    cases e <;> first | exact absurd (show false = true from h) Bool.false_ne_true | skip
    rename_i tgs v pos
    cases tgs with
    | nil => exact absurd (show false = true from h) Bool.false_ne_true
    | cons tg tgs =>
      cases tgs with
      | cons => cases tg <;> exact absurd (show false = true from h) Bool.false_ne_true
      | nil =>
        cases tg <;> first | exact absurd (show false = true from h) Bool.false_ne_true | skip
        rename_i x px
        have h' : (N[i]? == some x && locB sc x && noComp v && chk N sc G a v) = true := h
        simp only [Bool.and_eq_true, beq_iff_eq] at h'
        refine (ps_set (i := i) xo.nd (by rw [xo.n]; exact h'.1.1.1) (by rw [xo.s]; exact locB_ok h'.1.1.2) ((sET xo go a).1 v h'.2) (noComp_sw h'.1.2) (.inl (hfn x))).wk fun Z s H q => ?_
        refine TDS.one (fun r h => by rw [xs]) q fun m2 r fl h2 h' H2 dx y w2 st2 rx e c => ?_
        cases e
        exact c m2 H2 .refl w2 _ (st2.set i rx)
  | .asg (.tp l) a, e, h => by
    cases e <;> first | exact absurd (show false = true from h) Bool.false_ne_true | skip
    rename_i tgs v pos
    cases tgs with
    | nil => exact absurd (show false = true from h) Bool.false_ne_true
    | cons tg tgs =>
      cases tgs with
      | cons => cases tg <;> exact absurd (show false = true from h) Bool.false_ne_true
      | nil =>
        cases tg <;> first | exact absurd (show false = true from h) Bool.false_ne_true | skip
        rename_i es k px
        have h' : (chkNs N sc l es && noComp v && noTup v && chk N sc G a v) = true := h
        simp only [Bool.and_eq_true] at h'
        have hw : swappedStores [.Tuple es k px] v X.env = pure none := by
          have h0 := h'.1.2
          cases v <;> first | rfl | (cases h0; done)
        refine (ps_asg ((sET xo go a).1 v h'.2) (pgT xo hfn (t := .tp l) (tg := .Tuple es k px) h'.1.1.1) (noComp_sole h'.1.1.2) hw rfl).wk fun Z s H q => ?_
        refine TDS.one (fun r h => by rw [xs]) q fun m2 r fl h2 h' H2 dx y w2 st2 rx e c => ?_
        split at e
        · rename_i r1 er
          cases e
          exact ⟨m2, _, r, dx, r1, w2, st2, rx, er, fun s' st' => c m2 H2 .refl w2 s' st'⟩
        · cases e
  | .asc i a, e, h => by
    cases e <;> first | exact absurd (show false = true from h) Bool.false_ne_true | skip
    rename_i tgs v spos
    cases tgs with
    | nil => exact absurd (show false = true from h) Bool.false_ne_true
    | cons tg tgs =>
      cases tgs with
      | cons => cases tg <;> exact absurd (show false = true from h) Bool.false_ne_true
      | nil =>
        cases tg <;> first | exact absurd (show false = true from h) Bool.false_ne_true | skip
        rename_i y py
        have h' : (N[i]? == some y && sc.kind == .function && sc.names.lookup y == some .local && isComp a && swOk y py v && chk N sc G a v) = true := h
        simp only [Bool.and_eq_true, beq_iff_eq] at h'
        obtain ⟨⟨⟨⟨⟨h1, hk⟩, h2⟩, h3⟩, h4⟩, h5⟩ := h'
        cases a <;> first | (cases h3; done) | skip
        rename_i t k it cs e N' cap
        obtain ⟨elt, tg, iter, ifs, scope, pos, rfl, c⟩ := compChk h5
        have hsw : swapsWith (.ListComp elt [⟨tg, iter, ifs, 0⟩] scope pos) (some (.Name y py)) spos.line X.env = pure true := by
          have hb : X.env.blockKind = .function := by
            unfold Env.blockKind
            rw [xo.s, hk]
            rfl
          have hy : X.env.kindOf y = some .local := by show X.env.scope.names.lookup y = _; rw [xo.s]; exact h2
          have h4' : (py.line == pos.line && !(scope.names.any fun (n, k) => n == y && (k == .local || k == .cell))) = true := h4
          show (pure (X.env.blockKind == .function && X.env.kindOf y == some .local && py.line == pos.line && !(scope.names.any fun (n, k) => n == y && (k == .local || k == .cell))) : Sem Bool) = pure true
          rw [hb, hy]
          rw [Bool.and_assoc, h4']
          rfl
        refine (comp_ps (i := i) xo c.S c.capL c.nN c.fr (fun C s3 H3 fp => ⟨pgT' (blk_xo xo c.nd C s3 H3 fp) c.tg, sB (blk_xo xo c.nd C s3 H3 fp) (blk_go go C s3 H3 fp) cs ifs c.cs, (sET (blk_xo xo c.nd C s3 H3 fp) (blk_go go C s3 H3 fp) e).1 elt c.e⟩) c.ns
          (comp_it (cl := cl) xo c (fun es hc => sA xo go it es hc) fun c' x ec hx => (sET xo go c').1 x hx) h1 h2 hsw).wk fun Z s H q => ?_
        refine TDS.one (fun r h => by rw [xs]) q fun m2 r fl h2 h' H2 dx y w2 st2 rx e c => ?_
        cases e
        exact c m2 H2 .refl w2 _ (st2.set i rx)
  | .ex a, e, h => by
    cases e <;> first | exact absurd (show false = true from h) Bool.false_ne_true | skip
    rename_i v pos
    have h' : (noComp v && chk N sc G a v) = true := h
    simp only [Bool.and_eq_true] at h'
    refine (ps_expr ((sET xo go a).1 v h'.2) (noComp_sw h'.1)).wk fun Z s H q => ?_
    refine TDS.one (fun r h => by rw [xs]) q fun m2 r fl h2 h' H2 dx y w2 st2 rx e c => ?_
    cases e
    exact c m2 H2 .refl w2 _ st2
  | .ret a, e, h => by
    cases e <;> first | exact absurd (show false = true from h) Bool.false_ne_true | skip
    rename_i v pos
    cases v with
    | none => exact absurd (show false = true from h) Bool.false_ne_true
    | some v =>
      refine (ps_ret ((sET xo go a).1 v h)).wk fun Z s H q => ?_
      refine TDS.one (fun r h => by rw [xs]) q fun m2 r fl h2 h' H2 dx y w2 st2 rx e c => ?_
      cases e
      exact c m2 H2 .refl w2 _ rx
  | .iff a b1 b2, e, h => by
    cases e <;> first | exact absurd (show false = true from h) Bool.false_ne_true | skip
    rename_i t x y pos
    have h' : (chk N sc G a t && chkSs N sc G b1 x && chkSs N sc G b2 y) = true := h
    simp only [Bool.and_eq_true] at h'
    refine (ps_if ((sET xo go a).2 t h'.1.1) (sSs xo go hfn b1 x h'.1.2) (sSs xo go hfn b2 y h'.2)).wk fun Z s H ⟨m, r, hh, fl, h', w, st, e1, c⟩ => ?_
    rw [xs] at e1
    obtain ⟨dx, h1, e0, e1⟩ := Rs.bind_ok e1
    split at e1
    · rename_i et
      exact ⟨m, r, hh, dx, h1, true, w, st, e0, et, fun m' H' g w' => iteT ⟨m', r, h1, fl, h', w', st.mono g, e1, fun m2 H2 g2 => c m2 H2 (g.trans g2)⟩⟩
    · rename_i et
      exact ⟨m, r, hh, dx, h1, false, w, st, e0, et, fun m' H' g w' => iteF ⟨m', r, h1, fl, h', w', st.mono g, e1, fun m2 H2 g2 => c m2 H2 (g.trans g2)⟩⟩
    · cases e1
  | .forr t (.r1 a) b, e, h => by
    cases e <;> first | exact absurd (show false = true from h) Bool.false_ne_true | skip
    rename_i tg it x els pos
    cases els with
    | cons => exact absurd (show false = true from h) Bool.false_ne_true
    | nil =>
      have h' : (chkT N sc t tg && noSet it && chkI N sc G (.r1 a) it && chkSs N sc G b x) = true := h
      simp only [Bool.and_eq_true] at h'
      obtain ⟨⟨⟨h1, h2⟩, h3⟩, h4⟩ := h'
      have hs : ∀ z, foldedSetIterable it X.env z = pure z := fun z => by cases it <;> first | rfl | (cases h2; done)
      have hi : ∃ p a' pos', it = .Call (.Name "range" p) [a'] [] pos' ∧ glB sc "range" = true ∧ noStar a' = true ∧ chk N sc G a a' = true := by
        cases it <;> first | exact absurd (show false = true from h3) Bool.false_ne_true | skip
        rename_i fe es kw pos'
        cases fe <;> first | exact absurd (show false = true from h3) Bool.false_ne_true | skip
        rename_i nm p
        cases es with
        | nil => exact absurd (show false = true from h3) Bool.false_ne_true
        | cons a' es =>
          cases es with
          | cons => exact absurd (show false = true from h3) Bool.false_ne_true
          | nil =>
            cases kw with
            | cons => exact absurd (show false = true from h3) Bool.false_ne_true
            | nil =>
              have h5 : (nm == ("range" : Str) && glB sc nm && noStar a' && chk N sc G a a') = true := h3
              simp only [Bool.and_eq_true, beq_iff_eq] at h5
              obtain ⟨⟨⟨rfl, h6⟩, h7⟩, h8⟩ := h5
              exact ⟨p, a', pos', rfl, h6, h7, h8⟩
      obtain ⟨p, a', pos', rfl, h6, h7, h8⟩ := hi
      have hA : PA X [a'] (tCons (TDE X.K (ev G cl a)) tNil) := pa_cons ((sET xo go a).1 a' h8) pa_nil (star_one [] h7)
      refine (ps_for xo.po xo.calm (pi_range1 (glB_ok xo h6) xo.rng hA (star_one [] h7)) (pgT xo hfn h1) (sSs xo go hfn b x h4) hs).wk fun Z s H q => ?_
      refine TDS.one (fun r h => by rw [xs]) q fun m2 r fl h2 h' H2 dx y w2 st2 rx e c => ?_
      cases rx <;> first | (cases e; done) | skip
      rename_i j
      simp only at e
      split at e
      · rename_i ho
        refine ⟨j, rfl, ho.1, ho.2, ?_⟩
        have := for_rngD (lo := 0) (hi := j) c w2 st2 e
        simpa using this
      · cases e
  | .forr t (.r2 a a2) b, e, h => by
    cases e <;> first | exact absurd (show false = true from h) Bool.false_ne_true | skip
    rename_i tg it x els pos
    cases els with
    | cons => exact absurd (show false = true from h) Bool.false_ne_true
    | nil =>
      have h' : (chkT N sc t tg && noSet it && chkI N sc G (.r2 a a2) it && chkSs N sc G b x) = true := h
      simp only [Bool.and_eq_true] at h'
      obtain ⟨⟨⟨h1, h2⟩, h3⟩, h4⟩ := h'
      have hs : ∀ z, foldedSetIterable it X.env z = pure z := fun z => by cases it <;> first | rfl | (cases h2; done)
      have hi : ∃ p a' b' pos', it = .Call (.Name "range" p) [a', b'] [] pos' ∧ glB sc "range" = true ∧ noStar a' = true ∧ noStar b' = true ∧ chk N sc G a a' = true ∧ chk N sc G a2 b' = true := by
        cases it <;> first | exact absurd (show false = true from h3) Bool.false_ne_true | skip
        rename_i fe es kw pos'
        cases fe <;> first | exact absurd (show false = true from h3) Bool.false_ne_true | skip
        rename_i nm p
        cases es with
        | nil => exact absurd (show false = true from h3) Bool.false_ne_true
        | cons a' es =>
          cases es with
          | nil => exact absurd (show false = true from h3) Bool.false_ne_true
          | cons b' es =>
            cases es with
            | cons => exact absurd (show false = true from h3) Bool.false_ne_true
            | nil =>
              cases kw with
              | cons => exact absurd (show false = true from h3) Bool.false_ne_true
              | nil =>
                have h5 : (nm == ("range" : Str) && glB sc nm && noStar a' && noStar b' && chk N sc G a a' && chk N sc G a2 b') = true := h3
                simp only [Bool.and_eq_true, beq_iff_eq] at h5
                obtain ⟨⟨⟨⟨⟨rfl, h6⟩, h7⟩, h8⟩, h9⟩, h10⟩ := h5
                exact ⟨p, a', b', pos', rfl, h6, h7, h8, h9, h10⟩
      obtain ⟨p, a', b', pos', rfl, h6, h7, h8, h9, h10⟩ := hi
      have hA : PA X [a', b'] (tCons (TDE X.K (ev G cl a)) (tCons (TDE X.K (ev G cl a2)) tNil)) := pa_cons ((sET xo go a).1 a' h9) (pa_cons ((sET xo go a2).1 b' h10) pa_nil (star_one [] h8)) (star_one [b'] h7)
      refine (ps_for xo.po xo.calm (pi_range2 (glB_ok xo h6) xo.rng hA (by rw [star_one [b'] h7, star_one [] h8]; rfl) (star_one [] h8)) (pgT xo hfn h1) (sSs xo go hfn b x h4) hs).wk fun Z s H q => ?_
      refine TDS.one (fun r h => by rw [xs]) q fun m2 r fl h2 h' H2 dx y w2 st2 rx e c => ?_
      obtain ⟨dy, h3, e3, e⟩ := Rs.bind_ok e
      refine ⟨m2, r, h2, dy, h3, w2, st2, e3, fun m3 y' H3 g3 w3 ry => ?_⟩
      have rx' := rx.mono g3
      cases rx' <;> first | (cases e; done) | skip
      rename_i i _
      cases ry <;> first | (cases e; done) | skip
      rename_i j
      simp only at e
      split at e
      · rename_i ho
        refine ⟨i, j, rfl, ⟨ho.1.1, ho.1.2, ho.2.1, ho.2.2⟩, ?_⟩
        exact for_rngD (lo := i) (hi := j) (fun m' H' g' => c m' H' (g3.trans g')) w3 (st2.mono g3) e
      · cases e
  | .forr t (.sq a) b, e, h => by
    cases e <;> first | exact absurd (show false = true from h) Bool.false_ne_true | skip
    rename_i tg it x els pos
    cases els with
    | cons => exact absurd (show false = true from h) Bool.false_ne_true
    | nil =>
      have h' : (chkT N sc t tg && noSet it && (noSet it && chk N sc G a it) && chkSs N sc G b x) = true := h
      simp only [Bool.and_eq_true] at h'
      obtain ⟨⟨⟨h1, h2⟩, _, h3⟩, h4⟩ := h'
      have hs : ∀ z, foldedSetIterable it X.env z = pure z := fun z => by cases it <;> first | rfl | (cases h2; done)
      have hp := (sET xo go a).1 it h3
      have p1 := ps_for xo.po xo.calm (pi_list hp) (pgT xo hfn h1) (sSs xo go hfn b x h4) hs (pos := pos)
      have p2 := ps_for xo.po xo.calm (pi_tup hp) (pgT xo hfn h1) (sSs xo go hfn b x h4) hs (pos := pos)
      intro pins s σ H Z I q
      obtain ⟨m, r, hh, fl, h', w, st, e1, c⟩ := q
      have e1' := e1
      rw [xs] at e1'
      obtain ⟨dx, h5, e0, e2⟩ := Rs.bind_ok e1'
      have q : TDS X.K (xs G cl W (.forr t (.sq a) b)) Z σ H := ⟨m, r, hh, fl, h', w, st, e1, c⟩
      have mk : ∀ (R : VK), (∀ (m2 : List Addr) (H2 : Hp) (y : V), Gr X.K m H m2 H2 → Wd X.K m2 h5 H2 → RD X.K m2 H2 dx y → R y H2) → TDE X.K (ev G cl a) σ H R := fun R k => ⟨m, r, hh, dx, h5, w, st, e0, fun m2 y H2 g2 w2 ry => k m2 H2 y g2 w2 ry⟩
      cases dx <;> first | (cases e2; done) | skip
      · refine p2 pins s σ H Z I (mk _ fun m2 H2 y g2 w2 ry => ?_)
        cases ry with
        | tup hq q' => exact ⟨_, rfl, ⟨_, hq⟩, for_tupD (fun m' H' g' => c m' H' (g2.trans g')) w2 (st.mono g2) hq q' e2⟩
      · rename_i n
        refine p1 pins s σ H Z I (mk _ fun m2 H2 y g2 w2 ry => ?_)
        cases ry with
        | ref ha =>
          have hl : ∃ l, lstAt h5 n = some l := by
            cases W with
            | zero => cases e2
            | succ k =>
              simp only [forD, forI] at e2
              split at e2
              · cases e2
              · rename_i l el
                exact ⟨l, el⟩
          obtain ⟨l, hl⟩ := hl
          obtain ⟨a', vs, ha', hq, _⟩ := w2.lst hl
          rw [ha] at ha'; cases ha'
          exact ⟨_, rfl, ⟨_, hq⟩, for_lstD (W := W) (fun m' H' g' => c m' H' (g2.trans g')) w2 (st.mono g2) ha e2⟩
  | .whl a b, e, h => by
    cases e <;> first | exact absurd (show false = true from h) Bool.false_ne_true | skip
    rename_i t x els pos
    cases els with
    | cons => exact absurd (show false = true from h) Bool.false_ne_true
    | nil =>
      have h' : (chk N sc G a t && chkSs N sc G b x) = true := h
      simp only [Bool.and_eq_true] at h'
      refine (ps_while xo.po ((sET xo go a).2 t h'.1) (sSs xo go hfn b x h'.2)).wk fun Z s H ⟨m, r, hh, fl, h', w, st, e1, c⟩ => ?_
      rw [xs] at e1
      exact whileD c w st e1
  | .pass, e, h => by
    cases e <;> first | exact absurd (show false = true from h) Bool.false_ne_true | skip
    refine (ps_pass).wk fun Z s H ⟨m, r, hh, fl, h', w, st, e1, c⟩ => ?_
    rw [xs] at e1
    cases e1
    exact c m H .refl w s st
  | .brk, e, h => by
    cases e <;> first | exact absurd (show false = true from h) Bool.false_ne_true | skip
    refine (ps_break).wk fun Z s H ⟨m, r, hh, fl, h', w, st, e1, c⟩ => ?_
    rw [xs] at e1
    cases e1
    exact c m H .refl w s st
  | .cont, e, h => by
    cases e <;> first | exact absurd (show false = true from h) Bool.false_ne_true | skip
    refine (ps_continue).wk fun Z s H ⟨m, r, hh, fl, h', w, st, e1, c⟩ => ?_
    rw [xs] at e1
    cases e1
    exact c m H .refl w s st
  | .stx o i a, e, h => by
    cases e <;> first | exact absurd (show false = true from h) Bool.false_ne_true | skip
    rename_i tgs v pos
    cases tgs with
    | nil => exact absurd (show false = true from h) Bool.false_ne_true
    | cons tg tgs =>
      cases tgs with
      | cons => cases tg <;> exact absurd (show false = true from h) Bool.false_ne_true
      | nil =>
        cases tg <;> first | exact absurd (show false = true from h) Bool.false_ne_true | skip
        rename_i x y px
        have h' : (noComp v && noSlice y && chk N sc G a v && chk N sc G o x && chk N sc G i y) = true := h
        simp only [Bool.and_eq_true] at h'
        obtain ⟨⟨⟨⟨h1, h2⟩, h3⟩, h4⟩, h5⟩ := h'
        refine (ps_asg ((sET xo go a).1 v h3) (pg_sub ((sET xo go o).1 x h4) ((sET xo go i).1 y h5) setD (fun _ => by cases y <;> first | rfl | (cases h2; done))) (noComp_sole h1) rfl rfl).wk fun Z s H q => ?_
        refine TDS.one (fun r h => by rw [xs]) q fun m2 r fl h2 h' H2 dz z w2 st2 rz e c => ?_
        obtain ⟨dx, h6, e6, e⟩ := Rs.bind_ok e
        obtain ⟨dy, h7, e7, e⟩ := Rs.bind_ok e
        obtain ⟨_, h8, e8, e⟩ := Rs.bind_ok e
        cases e
        exact ⟨m2, r, h2, dx, h6, w2, st2, e6, fun m3 x' H3 g3 w3 rx => ⟨m3, r, h6, dy, h7, w3, st2.mono g3, e7, fun m4 y' H4 g4 w4 ry => ⟨m4, h7, dx, dy, dz, h', w4, rx.mono g4, ry, rz.mono (g3.trans g4), e8, fun m5 H5 g5 w5 => c m5 H5 ((g3.trans g4).trans g5) w5 s (st2.mono ((g3.trans g4).trans g5))⟩⟩⟩
  | .never, e, h => (ps_never).wk fun Z s H ⟨m, r, hh, fl, h', w, st, e1, c⟩ => by
    rw [xs] at e1
    cases e1
theorem sSs (xo : XOk X N sc) (go : GOk X G cl) (hfn : ∀ x, X.fn x = true) : ∀ (c : Ss) (e : List PySem.Stmt), chkSs N sc G c e = true → PSs X e (TDS X.K (xss G cl W c))
  | .nil, [], _ => (pss_nil).wk fun Z s H ⟨m, r, hh, fl, h', w, st, e1, c⟩ => by
    rw [xss] at e1
    cases e1
    exact c m H .refl w s st
  | .cons a l, x :: xs', h => by
    have h' : (chkS N sc G a x && chkSs N sc G l xs') = true := h
    simp only [Bool.and_eq_true] at h'
    refine (pss_cons (sS xo go hfn a x h'.1) (sSs xo go hfn l xs' h'.2)).wk fun Z s H ⟨m, r, hh, fl, h', w, st, e1, c⟩ => ?_
    rw [xss] at e1
    obtain ⟨f, h1, e0, e1⟩ := Rs.bind_ok e1
    refine ⟨m, r, hh, f, h1, w, st, e0, fun m1 H1 g1 w1 => ?_⟩
    cases f with
    | nx r2 => exact fun s' st' => ⟨m1, r2, h1, fl, h', w1, st', e1, fun m2 H2 g2 => c m2 H2 (g1.trans g2)⟩
    | rt d => cases e1; exact c m1 H1 g1 w1
    | bk r2 => cases e1; exact c m1 H1 g1 w1
    | ct r2 => cases e1; exact c m1 H1 g1 w1
  | .nil, _ :: _, h => absurd (show false = true from h) Bool.false_ne_true
  | .cons _ _, [], h => absurd (show false = true from h) Bool.false_ne_true
end
end
end Ng

end
section
set_option Elab.async false
set_option linter.all false
set_option maxRecDepth 100000
set_option maxHeartbeats 4000000
set_option autoImplicit false
namespace Ng
open PySem PySem.Spec PyProof.Rows L2

/-! ### a program's defs -/
structure Fc where
  np : Nat
  ns : Nat
  body : Ss
def endD : Fl → Hh → Rs D
  | .rt d, h => .ok d h
  | .nx _, h => .ok .non h
  | _, _ => .bad
def callD (G : Gs) (T : Nat → Option Fc) (W : Nat) : Nat → Cl
  | 0, _, _, _ => .bad
  | n + 1, f, ds, h => match T f with
    | none => .bad
    | some c => if ds.length = c.np then (xss G (callD G T W n) W c.body (ds.map some ++ List.replicate (c.ns - c.np) none) h).bind endD else .bad
structure FcOk (K : PySem.W.Frag) (mg : Str → Option Value) (G : Gs) (x : Str) (c : Fc) : Prop where
  ex : ∃ st fa fd N ps qual, Fun K x qual st fa fd ∧ FnScope N ps (defScope st) ∧ ps.length = c.np ∧ N.length = c.ns ∧ Binds K fd ps [] ∧ mg x = some (.ref fa) ∧ chkSs N (defScope st) G c.body (defBody st) = true
structure PrOk (K : PySem.W.Frag) (mg : Str → Option Value) (G : Gs) (T : Nat → Option Fc) : Prop where
  fn : ∀ (f : Nat) (x : Str), G.fns[f]? = some x → ∃ c, T f = some c ∧ FcOk K mg G x c
  cst : ∀ (g : Nat) (x : Str) (d : D), G.csts[g]? = some (x, d) → ∃ v u, mg x = some u ∧ RelV v u ∧ ∀ m H, RD K m H d v
  blt : ∀ f : Blt, mg f.nm = none
  ty : ∀ t : Ty, mg (Str.ofString t.nm) = none
  rng : mg "range" = none
theorem RSt.start {K : PySem.W.Frag} {m : List Addr} {H : Hp} {ds : List D} {vs : List V} (r : RDs K m H ds vs) (k : Nat) : RSt K m H (ds.map some ++ List.replicate k none) (vs.map some ++ List.replicate k none) := by
  refine ⟨by simp [r.length], fun i d e => ?_⟩
  by_cases hi : i < ds.length
  · rw [List.getElem?_append_left (by simpa using hi), List.getElem?_map] at e
    cases z : ds[i]? with
    | none => rw [z] at e; cases e
    | some d' =>
      rw [z] at e
      have e' : d' = d := by
        have e2 : some (some d') = some (some d) := e
        injection e2 with e2; injection e2
      subst e'
      obtain ⟨v, hv, rv⟩ := r.get z
      exact ⟨v, by rw [List.getElem?_append_left (by rw [List.length_map, ← r.length]; exact hi), List.getElem?_map, hv]; rfl, rv⟩
  · rw [List.getElem?_append_right (by simpa using hi), List.getElem?_replicate] at e
    split at e <;> cases e
section
variable {P : Program} {w : World} {K : PySem.W.Frag} {mg : Str → Option Value} {base : Heap} {G : Gs} {T : Nat → Option Fc} {W : Nat}
abbrev AllFn (P : Program) (w : World) (K : PySem.W.Frag) (mg : Str → Option Value) (base : Heap) (G : Gs) (T : Nat → Option Fc) (W n : Nat) : Prop := ∀ (f : Nat) (x : Str), G.fns[f]? = some x → ∃ fa fd ps, FnOk P w K mg base CX0 n fa fd ps (spD K (callD G T W n f) ps.length) ∧ mg x = some (.ref fa) ∧ PySem.W.keepIn K (.ref fa) = true ∧ Binds K fd ps [] ∧ ∀ ds h d h', callD G T W n f ds h = .ok d h' → ds.length = ps.length
theorem fn_step (pr : PrOk K mg G T) {n f : Nat} (ih : AllFn P w K mg base G T W n) {x qual : Str} {c : Fc} {st : PySem.Stmt} {fa : Addr} {fd : FuncData} {N ps : List Str} (hc : T f = some c) (F : Fun K x qual st fa fd) (S : FnScope N ps (defScope st)) (h1 : ps.length = c.np) (h2 : N.length = c.ns)
    (hk : chkSs N (defScope st) G c.body (defBody st) = true) : FnOk P w K mg base CX0 (n + 1) fa fd ps (spD K (callD G T W (n + 1) f) ps.length) := by
  refine F.ok S (fun vs H Q E h => h.1) (fun cdv A outer s H vs Q E hr h => ?_)
  obtain ⟨hl, m, h, ds, d, h', wd, rd, e, cc⟩ := h
  simp only [callD, hc] at e
  split at e
  · rename_i hn
    obtain ⟨fl, h1', e1, e⟩ := Rs.bind_ok e
    let X : Cx := (cxOf CX0 P w K mg base N qual (defScope st) fa cdv A outer s H E).nox
    have xo : XOk X N (defScope st) := ⟨rfl, rfl, rfl, S.nd, ⟨n, hr⟩, pr.rng, PassesOwn.never⟩
    have go : GOk X G (callD G T W n) := ⟨fun f' x' hf' => by
      obtain ⟨fa', fd', ps', F', hm', hk', hb', hl'⟩ := ih f' x' hf'
      exact ⟨fa', fd', ps', n, F', hr, hm', hk', hb', hl'⟩, pr.cst, pr.blt, pr.ty⟩
    refine ⟨_, sSs (W := W) xo go (fun _ => rfl) c.body (defBody st) hk, m, _, h, fl, h1', wd, ?_, e1, fun m' H' g w' => ?_⟩
    · show RSt K m H _ (vs.map some ++ List.replicate (N.length - vs.length) none)
      rw [show N.length - vs.length = c.ns - c.np by omega]
      exact RSt.start rd _
    · cases fl with
      | rt d' => cases e; exact fun v rv => cc m' v H' g w' rv
      | nx r' => cases e; exact fun s' _ => cc m' .non H' g w' .non
      | bk r' => cases e
      | ct r' => cases e
  · cases e
theorem fn_all (pr : PrOk K mg G T) : ∀ n : Nat, AllFn P w K mg base G T W n := by
  intro n
  induction n with
  | zero =>
    intro f x hf
    obtain ⟨c, hc, st, fa, fd, N, ps, qual, F, S, h1, h2, hb, hm, hk⟩ := pr.fn f x hf
    refine ⟨fa, fd, ps, ⟨fun vs H Q E h => h.1, fun A outer s H args us vs Q E _ _ _ _ h => ?_⟩, hm, F.kp, hb, fun ds h d h' e => by cases e⟩
    obtain ⟨_, m, h, ds, d, h', _, _, e, _⟩ := h
    cases e
  | succ n ih =>
    intro f x hf
    obtain ⟨c, hc, st, fa, fd, N, ps, qual, F, S, h1, h2, hb, hm, hk⟩ := pr.fn f x hf
    refine ⟨fa, fd, ps, fn_step pr ih hc F S h1 h2 hk, hm, F.kp, hb, fun ds h d h' e => ?_⟩
    simp only [callD, hc] at e
    split at e
    · rename_i hn
      rw [hn, h1]
    · cases e
end
theorem cstT {K : PySem.W.Frag} {m : List Addr} {H : Hp} {a : Addr} {dd : Option Addr} {its : Array Value} {n : Nat} {sl : Array (Option Value)} {ds : List D} {vs : List V} (h : K.lookup a = some ⟨.type "tuple", dd, .seq its n, sl⟩) (hz : its.size ≤ sizeLine)
    (v : Vals vs its.toList) (r : RDs K m H ds vs) : RD K m H (.tup ds) (.ref a) := .tup (.inr ⟨_, its, n, h, rfl, rfl, hz, v⟩) r
theorem sqR_of {K : PySem.W.Frag} {H : Hp} {a : Addr} {xs : List V} (hO : Only H) (h : SqL K H a xs) : SqR K H a xs := by
  rcases h with (h | h) | h
  · rcases hO a with z | ⟨o, ys, z⟩
    · rw [z] at h; cases h
    · rw [z] at h; cases h
  · exact .inl h
  · exact .inr h
/-- THE LAW: its run over plain data gives True at every script of at most n ints -/
theorem law_of {G : Gs} {T : Nat → Option Fc} {W : Nat} {l : PySem.W.OpenLaw} {n k lw : Nat} {q : Program} {loose : List Str} {XP : (Str → Option Value) → Heap → Prop} {YP : World → Heap → Prop} {d : DefRec} {K : Params → PySem.W.Frag} {x : Str}
    (run : ∀ ns : List Int, ns.length ≤ n → ∃ h', callD G T W (k + 1) lw [.ref 0] [.ro (ns.map D.int)] = .ok (.bl true) h')
    (hn : l.most = some n) (hn2 : n ≤ sizeLine) (hdf : d.params.defaults = []) (hr : Room (k + 1) callerA)
    (hY : ∀ (w : World) (h : Heap), YP w h → (K w.params).In h)
    (F : ∀ (w : World) (mg : Str → Option Value) (fa : Addr) (h : Heap), (K w.params).In h → h.Ns mainGlobals mg → mg d.name = some (.ref fa) →
      PrOk (K w.params) mg G T ∧ ∃ fd : FuncData, (∀ (s : Shared) (u : Value), BindsTo s fd ⟨[u], []⟩ [(x, u)]) ∧ ∃ c st N qual, T lw = some c ∧ Fun (K w.params) d.name qual st fa fd ∧ FnScope N [x] (defScope st) ∧ 1 = c.np ∧ N.length = c.ns ∧ chkSs N (defScope st) G c.body (defBody st) = true) :
    PySem.W.WalkO q loose XP YP l.row.toRowW d [] (fun f vs => PySem.call f vs) := by
  refine L2.walk_of (n := n) (k := k + 1) (x := x) (CX := fun _ => CX0) (sp := fun w => spD (K w.params) (callD G T W (k + 1) lw) 1) hn hn2 hdf hr hY (fun w mg fa h KX hns hm => ?_) (fun w H a ns hl hO hS => ?_) fun _ _ _ _ _ z => z
  · obtain ⟨pr, fd, hb, c, st, N, qual, hc, Fu, S, h1, h2, hk⟩ := F w mg fa h KX hns hm
    exact ⟨fd, hb, fun base _ _ => fn_step pr (fn_all pr k) hc Fu S h1 h2 hk⟩
  · obtain ⟨h', e⟩ := run ns hl
    refine ⟨rfl, [a], [.ro (ns.map D.int)], [.ref 0], .bl true, h', ⟨rfl, fun i j b o u e1 e2 e3 e4 w1 w2 => ?_, fun i o b e1 e2 => ?_⟩, .cons (.ref rfl) .nil, e, fun m' v H' _ _ rd => ?_⟩
    · cases i with
      | zero =>
        cases j with
        | zero => rfl
        | succ j => simp at e4
      | succ i => simp at e3
    · cases i with
      | zero =>
        simp at e1 e2
        subst e1; subst e2
        exact ⟨_, sqR_of hO hS, RDs.ints ns⟩
      | succ i => simp at e1
    · cases rd; rfl
end Ng

end
section
set_option Elab.async false
set_option linter.all false
set_option maxRecDepth 100000
set_option maxHeartbeats 4000000
set_option autoImplicit false
namespace Ng
open PySem L2
/-! ### reckoning -/
section
variable {A B : Type} (G : Gs) (cl : Cl) (W : Nat) (r : Ev) (h : Hh)
theorem beq_eq_decide' {α : Type} [BEq α] [LawfulBEq α] [DecidableEq α] (i j : α) : (i == j) = decide (i = j) := by
  by_cases e : i = j
  · subst e; simp
  · rw [decide_eq_false e]; exact beq_eq_false_iff_ne.mpr e
@[simp] theorem bindOk (a : A) (f : A → Hh → Rs B) : (Rs.ok a h).bind f = f a h := rfl
@[simp] theorem bindBad (f : A → Hh → Rs B) : (Rs.bad : Rs A).bind f = .bad := rfl
@[simp] theorem evVar (i : Nat) : ev G cl (.var i) r h = (match r[i]? with | some (some d) => .ok d h | _ => .bad) := by rw [ev] <;> rfl
@[simp] theorem ge0 (a : Option D) (l : Ev) : (a :: l)[0]? = some a := rfl
@[simp] theorem gd0 (a : D) (l : List D) : (a :: l)[0]? = some a := rfl
@[simp] theorem evInt (i : Int) : ev G cl (.int i) r h = .ok (.int i) h := by rw [ev] <;> rfl
@[simp] theorem evBl (i : Bool) : ev G cl (.bl i) r h = .ok (.bl i) h := by rw [ev] <;> rfl
@[simp] theorem evNon : ev G cl .non r h = .ok .non h := by rw [ev] <;> rfl
@[simp] theorem evStr (i : Str) : ev G cl (.str i) r h = .ok (.str i) h := by rw [ev] <;> rfl
@[simp] theorem evGc (i : Nat) : ev G cl (.gc i) r h = (match G.csts[i]? with | some p => .ok p.2 h | none => .bad) := by rw [ev] <;> (cases G.csts[i]? <;> rfl)
@[simp] theorem evTy (t : Ty) : ev G cl (.ty t) r h = .ok (.ty t.nm) h := by rw [ev] <;> rfl
@[simp] theorem evBin (op : Bop) (a b : E) : ev G cl (.bin op a b) r h = (ev G cl a r h).bind fun x h => (ev G cl b r h).bind fun y h => binD op x y h := by rw [ev] <;> rfl
@[simp] theorem evNeg (a : E) : ev G cl (.neg a) r h = (ev G cl a r h).bind fun x h => match x with | .int i => .ok (.int (-i)) h | _ => .bad := by rw [ev] <;> rfl
@[simp] theorem evCmp (op : Cop) (a b : E) : ev G cl (.cmp op a b) r h = (ev G cl a r h).bind fun x h => (ev G cl b r h).bind fun y h => cmpD op x y h := by rw [ev] <;> rfl
@[simp] theorem evAnd (a b : E) : ev G cl (.and a b) r h = (ev G cl a r h).bind fun x h => match truD x h with | some true => ev G cl b r h | some false => .ok x h | none => .bad := by rw [ev] <;> rfl
@[simp] theorem evOr (a b : E) : ev G cl (.or a b) r h = (ev G cl a r h).bind fun x h => match truD x h with | some true => .ok x h | some false => ev G cl b r h | none => .bad := by rw [ev] <;> rfl
@[simp] theorem evNot (a : E) : ev G cl (.not a) r h = (ev G cl a r h).bind fun x h => match truD x h with | some b => .ok (.bl (!b)) h | none => .bad := by rw [ev] <;> rfl
@[simp] theorem evIte (c a b : E) : ev G cl (.ite c a b) r h = (ev G cl c r h).bind fun x h => match truD x h with | some true => ev G cl a r h | some false => ev G cl b r h | none => .bad := by rw [ev] <;> rfl
@[simp] theorem evIx (a b : E) : ev G cl (.ix a b) r h = (ev G cl a r h).bind fun x h => (ev G cl b r h).bind fun y h => ixD x y h := by rw [ev] <;> rfl
@[simp] theorem evTup (l : Es) : ev G cl (.tup l) r h = (evs G cl l r h).bind fun ds h => if ds.length ≤ 1000 then .ok (.tup ds) h else .bad := by rw [ev] <;> rfl
@[simp] theorem evLst (l : Es) : ev G cl (.lst l) r h = (evs G cl l r h).bind fun ds h => if ds.length ≤ 1000 then .ok (.ref h.length) (h ++ [.lst ds]) else .bad := by rw [ev] <;> rfl
@[simp] theorem evCall (f : Nat) (l : Es) : ev G cl (.call f l) r h = (evs G cl l r h).bind fun ds h => cl f ds h := by rw [ev] <;> rfl
@[simp] theorem evBlt (f : Blt) (l : Es) : ev G cl (.blt f l) r h = (evs G cl l r h).bind fun ds h => bltD f ds h := by rw [ev] <;> rfl
@[simp] theorem evApp (o e : E) : ev G cl (.app o e) r h = (ev G cl o r h).bind fun x h => if isLst x h = true then (ev G cl e r h).bind fun y h => appD x y h else .bad := by rw [ev] <;> rfl
@[simp] theorem evtNil : evt G cl .nil r h = .ok true h := by rw [evt] <;> rfl
@[simp] theorem evtCons (e : E) (l : Es) : evt G cl (.cons e l) r h = (ev G cl e r h).bind fun x h => match truD x h with | some true => evt G cl l r h | some false => .ok false h | none => .bad := by rw [evt] <;> rfl
theorem evComp (t : Tg) (k : Ck) (it cs : Es) (e : E) (N : List Str) (cap : List Nat) : ev G cl (.comp t k it cs e N cap) r h = (evs G cl it r h).bind fun xs h => (compL t (evt G cl cs) (ev G cl e) h.length k xs h (blockE N cap r) (h ++ [.lst []])).bind fun _ h' => .ok (.ref h.length) h' := by rw [ev] <;> rfl
@[simp] theorem evsNil : evs G cl .nil r h = .ok [] h := by rw [evs] <;> rfl
@[simp] theorem evsCons (e : E) (l : Es) : evs G cl (.cons e l) r h = (ev G cl e r h).bind fun d h => (evs G cl l r h).bind fun ds h => .ok (d :: ds) h := by rw [evs] <;> rfl
@[simp] theorem xsAsg (t : Tg) (e : E) : xs G cl W (.asg t e) r h = (ev G cl e r h).bind fun x h => match setT t x r with | some r1 => .ok (.nx r1) h | none => .bad := by rw [xs] <;> rfl
@[simp] theorem xsAsc (i : Nat) (e : E) : xs G cl W (.asc i e) r h = (ev G cl e r h).bind fun x h => .ok (.nx (r.set i (some x))) h := by rw [xs] <;> rfl
@[simp] theorem xsEx (e : E) : xs G cl W (.ex e) r h = (ev G cl e r h).bind fun _ h => .ok (.nx r) h := by rw [xs] <;> rfl
@[simp] theorem xsRet (e : E) : xs G cl W (.ret e) r h = (ev G cl e r h).bind fun x h => .ok (.rt x) h := by rw [xs] <;> rfl
@[simp] theorem xsIff (c : E) (a b : Ss) : xs G cl W (.iff c a b) r h = (ev G cl c r h).bind fun x h => match truD x h with | some true => xss G cl W a r h | some false => xss G cl W b r h | none => .bad := by rw [xs] <;> rfl
@[simp] theorem xsFor1 (t : Tg) (e : E) (b : Ss) : xs G cl W (.forr t (.r1 e) b) r h = (ev G cl e r h).bind fun x h => match x with | .int j => if okR j then forS t (xss G cl W b) (rngD 0 j) r h else .bad | _ => .bad := by rw [xs] <;> rfl
@[simp] theorem xsFor2 (t : Tg) (e e' : E) (b : Ss) : xs G cl W (.forr t (.r2 e e') b) r h = (ev G cl e r h).bind fun x h => (ev G cl e' r h).bind fun y h => match x, y with | .int i, .int j => if okR i ∧ okR j then forS t (xss G cl W b) (rngD i j) r h else .bad | _, _ => .bad := by rw [xs] <;> rfl
@[simp] theorem xsForS (t : Tg) (e : E) (b : Ss) : xs G cl W (.forr t (.sq e) b) r h = (ev G cl e r h).bind fun x h => forD W t (xss G cl W b) x r h := by rw [xs] <;> rfl
@[simp] theorem xsWhl (c : E) (b : Ss) : xs G cl W (.whl c b) r h = whileF (ev G cl c) (xss G cl W b) W r h := by rw [xs] <;> rfl
@[simp] theorem xsPass : xs G cl W .pass r h = .ok (.nx r) h := by rw [xs] <;> rfl
@[simp] theorem xsBrk : xs G cl W .brk r h = .ok (.bk r) h := by rw [xs] <;> rfl
@[simp] theorem xsCont : xs G cl W .cont r h = .ok (.ct r) h := by rw [xs] <;> rfl
@[simp] theorem xsStx (o i e : E) : xs G cl W (.stx o i e) r h = (ev G cl e r h).bind fun z h => (ev G cl o r h).bind fun x h => (ev G cl i r h).bind fun y h => (stxD x y z h).bind fun _ h => .ok (.nx r) h := by rw [xs] <;> rfl
@[simp] theorem xssNil : xss G cl W .nil r h = .ok (.nx r) h := by rw [xss] <;> rfl
@[simp] theorem xssCons (s : S) (l : Ss) : xss G cl W (.cons s l) r h = (xs G cl W s r h).bind fun fl h => match fl with | .nx r2 => xss G cl W l r2 h | f => .ok f h := by rw [xss] <;> rfl
theorem xssNx {s : S} {l : Ss} {r r' : Ev} {h h' : Hh} {G : Gs} {cl : Cl} {W : Nat} (e : xs G cl W s r h = .ok (.nx r') h') : xss G cl W (.cons s l) r h = xss G cl W l r' h' := by rw [xssCons, e]; rfl
theorem xssRt {s : S} {l : Ss} {r : Ev} {d : D} {h h' : Hh} {G : Gs} {cl : Cl} {W : Nat} (e : xs G cl W s r h = .ok (.rt d) h') : xss G cl W (.cons s l) r h = .ok (.rt d) h' := by rw [xssCons, e]; rfl
@[simp] theorem setNm (i : Nat) (d : D) : setT (.nm i) d r = some (r.set i (some d)) := rfl
@[simp] theorem setTp (l : List Nat) (ds : List D) : setT (.tp l) (.tup ds) r = if ds.length = l.length then some (setAll l ds r) else none := rfl
@[simp] theorem setAll0 : setAll [] [] r = r := rfl
@[simp] theorem setAll1 (i : Nat) (is : List Nat) (d : D) (ds : List D) : setAll (i :: is) (d :: ds) r = setAll is ds (r.set i (some d)) := rfl
@[simp] theorem bAdd (i j : Int) : binD .add (.int i) (.int j) h = .ok (.int (i + j)) h := rfl
@[simp] theorem bSub (i j : Int) : binD .sub (.int i) (.int j) h = .ok (.int (i - j)) h := rfl
theorem bMulL {i j : Int} (a : -18446744073709551616 < i) (b : i < 18446744073709551616) : binD .mul (.int i) (.int j) h = .ok (.int (i * j)) h := by
  show (if _ then _ else _) = _
  rw [if_pos (.inl ⟨a, b⟩)]
theorem bMulR {i j : Int} (a : -18446744073709551616 < j) (b : j < 18446744073709551616) : binD .mul (.int i) (.int j) h = .ok (.int (i * j)) h := by
  show (if _ then _ else _) = _
  rw [if_pos (.inr ⟨a, b⟩)]
theorem bDiv {i j : Int} (a : 0 < j) (b : j < 1073741824) : binD .fdiv (.int i) (.int j) h = .ok (.int (i / j)) h := by
  show (if _ then _ else _) = _
  rw [if_pos ⟨a, b⟩]
theorem bMod {i j : Int} (a : 0 < j) : binD .mod (.int i) (.int j) h = .ok (.int (i % j)) h := by
  show (if _ then _ else _) = _
  rw [if_pos a]
@[simp] theorem bPow18 : binD .pow (.int 10) (.int 18) h = .ok (.int 1000000000000000000) h := rfl
@[simp] theorem bPow27 : binD .pow (.int 10) (.int 27) h = .ok (.int 1000000000000000000000000000) h := rfl
@[simp] theorem cLt (i j : Int) : cmpD .lt (.int i) (.int j) h = .ok (.bl (decide (i < j))) h := rfl
@[simp] theorem cLe (i j : Int) : cmpD .le (.int i) (.int j) h = .ok (.bl (decide (i ≤ j))) h := rfl
@[simp] theorem cGt (i j : Int) : cmpD .gt (.int i) (.int j) h = .ok (.bl (decide (j < i))) h := rfl
@[simp] theorem cGe (i j : Int) : cmpD .ge (.int i) (.int j) h = .ok (.bl (decide (j ≤ i))) h := rfl
@[simp] theorem cEqI (i j : Int) : cmpD .eq (.int i) (.int j) h = .ok (.bl (decide (i = j))) h := by rw [← beq_eq_decide']; rfl
@[simp] theorem cNeI (i j : Int) : cmpD .ne (.int i) (.int j) h = .ok (.bl (!decide (i = j))) h := by rw [← beq_eq_decide']; rfl
@[simp] theorem cEqB (i j : Bool) : cmpD .eq (.bl i) (.bl j) h = .ok (.bl (decide (i = j))) h := by rw [← beq_eq_decide']; rfl
@[simp] theorem cNeB (i j : Bool) : cmpD .ne (.bl i) (.bl j) h = .ok (.bl (!decide (i = j))) h := by rw [← beq_eq_decide']; rfl
@[simp] theorem cEqS (i j : Str) : cmpD .eq (.str i) (.str j) h = .ok (.bl (decide (i = j))) h := by rw [← beq_eq_decide']; rfl
@[simp] theorem cNeS (i j : Str) : cmpD .ne (.str i) (.str j) h = .ok (.bl (!decide (i = j))) h := by rw [← beq_eq_decide']; rfl
@[simp] theorem cNeT (a b : List D) : cmpD .ne (.tup a) (.tup b) h = (match eqL (eqD 19) a b with | some k => .ok (.bl (!k)) h | none => .bad) := rfl
@[simp] theorem cEqT (a b : List D) : cmpD .eq (.tup a) (.tup b) h = (match eqL (eqD 19) a b with | some k => .ok (.bl k) h | none => .bad) := rfl
@[simp] theorem eqL0 (f : D → D → Option Bool) : eqL f [] [] = some true := rfl
@[simp] theorem eqL1 (f : D → D → Option Bool) (x y : D) (xs ys : List D) : eqL f (x :: xs) (y :: ys) = (match f x y, eqL f xs ys with | some a, some b => some (a && b) | _, _ => none) := rfl
@[simp] theorem eqDI (n : Nat) (i j : Int) : eqD n (.int i) (.int j) = some (decide (i = j)) := by rw [← beq_eq_decide']; cases n <;> rfl
@[simp] theorem eqDS (n : Nat) (i j : Str) : eqD n (.str i) (.str j) = some (decide (i = j)) := by rw [← beq_eq_decide']; cases n <;> rfl
@[simp] theorem eqDT (n : Nat) (a b : List D) : eqD (n + 1) (.tup a) (.tup b) = eqL (eqD n) a b := rfl
@[simp] theorem isInt (i : Int) : isinL (.int i) (.ty "int") h = .ok (.bl true) h := rfl
@[simp] theorem isIntB (i : Int) : isinL (.int i) (.ty "bool") h = .ok (.bl false) h := rfl
@[simp] theorem isIntT (i : Int) : isinL (.int i) (.ty "tuple") h = .ok (.bl false) h := rfl
@[simp] theorem isIntL (i : Int) : isinL (.int i) (.ty "list") h = .ok (.bl false) h := rfl
@[simp] theorem isIntTL (i : Int) : isinL (.int i) (.tup [.ty "tuple", .ty "list"]) h = .ok (.bl false) h := rfl
@[simp] theorem isTupT (l : List D) : isinL (.tup l) (.ty "tuple") h = .ok (.bl true) h := rfl
@[simp] theorem isTupL (l : List D) : isinL (.tup l) (.ty "list") h = .ok (.bl false) h := rfl
@[simp] theorem isTupTL (l : List D) : isinL (.tup l) (.tup [.ty "tuple", .ty "list"]) h = .ok (.bl true) h := rfl
@[simp] theorem isTupB (l : List D) : isinL (.tup l) (.ty "bool") h = .ok (.bl false) h := rfl
@[simp] theorem isTupI (l : List D) : isinL (.tup l) (.ty "int") h = .ok (.bl false) h := rfl
@[simp] theorem nmInt : Ty.int.nm = "int" := rfl
@[simp] theorem nmBool : Ty.bool.nm = "bool" := rfl
@[simp] theorem nmStr : Ty.str.nm = "str" := rfl
@[simp] theorem nmTup : Ty.tuple.nm = "tuple" := rfl
@[simp] theorem nmLst : Ty.list.nm = "list" := rfl
@[simp] theorem cIsN (x : D) : cmpD .is x .non h = .ok (.bl (isNon x)) h := rfl
@[simp] theorem cIsNt (x : D) : cmpD .isnot x .non h = .ok (.bl (!isNon x)) h := rfl
@[simp] theorem tBl (b : Bool) : truD (.bl b) h = some b := rfl
@[simp] theorem tInt (i : Int) : truD (.int i) h = some (i != 0) := rfl
@[simp] theorem sTup (l : List D) : seqD (.tup l) h = some l := rfl
@[simp] theorem sRef (n : Nat) : seqD (.ref n) h = lstAt h n := rfl
@[simp] theorem iTup (l : List D) (i : Int) : ixD (.tup l) (.int i) h = (match atI l i with | some d => .ok d h | none => .bad) := by
  show (match atI l i with | some d => Rs.ok d h | none => .bad) = _
  rfl
@[simp] theorem iRef (n : Nat) (i : Int) : ixD (.ref n) (.int i) h = (match lstAt h n with | some l => (match atI l i with | some d => .ok d h | none => .bad) | none => .bad) := by
  unfold ixD
  have e : seqD (.ref n) h = lstAt h n := rfl
  rw [e]
  cases lstAt h n <;> rfl
@[simp] theorem bLen (x : D) : bltD .len [x] h = (match seqD x h with | some l => .ok (.int l.length) h | none => .bad) := rfl
@[simp] theorem bIs (x y : D) : bltD .isinst [x, y] h = isinL x y h := rfl
@[simp] theorem bIntI (i : Int) : bltD .int [.int i] h = .ok (.int i) h := rfl
@[simp] theorem bIntB (i : Bool) : bltD .int [.bl i] h = .ok (.int (if i then 1 else 0)) h := rfl
@[simp] theorem bList (x : D) : bltD .list [x] h = (match seqD x h with | some l => .ok (.ref h.length) (h ++ [.lst l]) | none => .bad) := rfl
@[simp] theorem isLstR (n : Nat) : isLst (.ref n) h = (lstAt h n).isSome := rfl
@[simp] theorem appR (n : Nat) (y : D) : appD (.ref n) y h = (match h[n]? with | some (.lst l) => if l.length < 1000000 then .ok .non (h.set n (.lst (l ++ [y]))) else .bad | _ => .bad) := rfl
@[simp] theorem lstAt_last (l : List D) : lstAt (h ++ [.lst l]) h.length = some l := by simp [lstAt, lstOf]
theorem lstAt_app {n : Nat} {l : List D} (o : List O) (e : lstAt h n = some l) : lstAt (h ++ o) n = some l := by
  unfold lstAt at e ⊢
  cases q : h[n]? with
  | none => rw [q] at e; cases e
  | some u =>
    rw [List.getElem?_append_left (List.getElem?_eq_some_iff.mp q).1, q]
    rw [q] at e; exact e
@[simp] theorem get_last (o : O) : (h ++ [o])[h.length]? = some o := by simp
@[simp] theorem set_last (o o' : O) : (h ++ [o]).set h.length o' = h ++ [o'] := by simp
@[simp] theorem forS0 (t : Tg) (b : Ev → Hh → Rs Fl) : forS t b [] r h = .ok (.nx r) h := rfl
@[simp] theorem forS1 (t : Tg) (b : Ev → Hh → Rs Fl) (d : D) (ds : List D) : forS t b (d :: ds) r h = (match setT t d r with | none => .bad | some r1 => (b r1 h).bind fun fl h => match fl with | .nx r2 => forS t b ds r2 h | .ct r2 => forS t b ds r2 h | .bk r2 => .ok (.nx r2) h | .rt d => .ok (.rt d) h) := rfl
@[simp] theorem forDT (t : Tg) (b : Ev → Hh → Rs Fl) (l : List D) : forD W t b (.tup l) r h = forS t b l r h := rfl
@[simp] theorem forDR (t : Tg) (b : Ev → Hh → Rs Fl) (n : Nat) : forD W t b (.ref n) r h = forI t b n W 0 r h := rfl
@[simp] theorem endRt (d : D) : endD (.rt d) h = .ok d h := rfl
@[simp] theorem endNx (d : Ev) : endD (.nx d) h = .ok .non h := rfl
end
theorem call_eq {G : Gs} {T : Nat → Option Fc} {W n f : Nat} {c : Fc} {ds : List D} {h : Hh} (hc : T f = some c) (hl : ds.length = c.np) : callD G T W (n + 1) f ds h = (xss G (callD G T W n) W c.body (ds.map some ++ List.replicate (c.ns - c.np) none) h).bind endD := by
  simp only [callD, hc]
  rw [if_pos hl]
end Ng

end
section
set_option Elab.async false
set_option linter.all false
set_option maxRecDepth 100000
set_option maxHeartbeats 4000000
set_option autoImplicit false
namespace Ng
open PySem L2
/-! ### the draws -/
def dW1c : E := (.and (.cmp .gt (.var 3) (.int 0)) (.cmp .lt (.blt .len (.cons (.var 5) .nil)) (.var 2)))
def dW1b : Ss := (.cons (.ex (.app (.var 5) (.bin .mod (.var 3) (.int 1013)))) (.cons (.asg (.nm 3) (.bin .fdiv (.var 3) (.int 1013))) .nil))
def dW2c : E := (.cmp .lt (.blt .len (.cons (.var 5) .nil)) (.var 2))
def dW2b : Ss := (.cons (.asg (.nm 6) (.bin .add (.blt .len (.cons (.var 5) .nil)) (.int 1))) (.cons (.asg (.nm 4) (.bin .mod (.bin .add (.bin .add (.bin .mul (.var 4) (.int 48271)) (.bin .mul (.bin .mul (.var 6) (.var 6)) (.int 6133))) (.int 17)) (.int 2147483647))) (.cons (.ex (.app (.var 5) (.bin .mod (.bin .mod (.bin .mul (.bin .mod (.var 4) (.int 65521)) (.bin .add (.bin .mod (.bin .fdiv (.var 4) (.int 65521)) (.int 32749)) (.int 1))) (.int 1000003)) (.int 1013)))) .nil)))
def InR (row : List Int) : Prop := ∀ v ∈ row, 0 ≤ v ∧ v < 1013
theorem InR.snoc {row : List Int} {v : Int} (h : InR row) (a : 0 ≤ v) (b : v < 1013) : InR (row ++ [v]) := fun u hu => by
  rcases List.mem_append.mp hu with hu | hu
  · exact h u hu
  · have : u = v := by simpa using hu
    subst this; exact ⟨a, b⟩
section
variable (G : Gs) (cl : Cl) (W : Nat) (h : Hh)
theorem dW1 (M : Nat) (hM : M ≤ 1000) (d0 d1 d4 : Option D) (d6 : Option D) : ∀ (k : Nat) (row : List Int) (cell : Int), row.length ≤ M → InR row → M - row.length < k →
    ∃ row' cell', row'.length ≤ M ∧ InR row' ∧ whileF (ev G cl dW1c) (xss G cl W dW1b) k [d0, d1, some (.int M), some (.int cell), d4, some (.ref h.length), d6] (h ++ [.lst (row.map D.int)])
      = .ok (.nx [d0, d1, some (.int M), some (.int cell'), d4, some (.ref h.length), d6]) (h ++ [.lst (row'.map D.int)])
  | 0, _, _, _, _, hk => by omega
  | k + 1, row, cell, hl, hr, hk => by
    by_cases hc : 0 < cell
    · by_cases hm : row.length < M
      · have hm' : ((row.length : Int) < (M : Int)) := by omega
        have hb : InR (row ++ [cell % 1013]) := hr.snoc (Int.emod_nonneg _ (by decide)) (Int.emod_lt_of_pos _ (by decide))
        obtain ⟨row', cell', h1, h2, h3⟩ := dW1 M hM d0 d1 d4 d6 k (row ++ [cell % 1013]) (cell / 1013) (by simp; omega) hb (by simp; omega)
        refine ⟨row', cell', h1, h2, ?_⟩
        rw [← h3]
        have hz : row.length < 1000000 := by omega
        simp (disch := omega) [whileF, dW1c, dW1b, hc, hm', hm, hz, bMod, bDiv]
      · refine ⟨row, cell, hl, hr, ?_⟩
        have hm' : ¬ ((row.length : Int) < (M : Int)) := by omega
        simp [whileF, dW1c, hc, hm', hm]
    · refine ⟨row, cell, hl, hr, ?_⟩
      simp [whileF, dW1c, hc]
def nxS (mark seed : Int) : Int := (seed * 48271 + mark * mark * 6133 + 17) % 2147483647
def nxV (s : Int) : Int := (s % 65521) * (s / 65521 % 32749 + 1) % 1000003 % 1013
theorem dT2 (d0 d1 d2 d3 d5 : Option D) (mark seed : Int) (hm : 0 ≤ mark) (hm2 : mark < 100000) (hh : Hh) :
    xs G cl W (.asg (.nm 4) (.bin .mod (.bin .add (.bin .add (.bin .mul (.var 4) (.int 48271)) (.bin .mul (.bin .mul (.var 6) (.var 6)) (.int 6133))) (.int 17)) (.int 2147483647))) [d0, d1, d2, d3, some (.int seed), d5, some (.int mark)] hh
      = .ok (.nx [d0, d1, d2, d3, some (.int (nxS mark seed)), d5, some (.int mark)]) hh := by
  have m1 : binD .mul (.int mark) (.int mark) hh = .ok (.int (mark * mark)) hh := bMulL hh (by omega) (by omega)
  have m2 : binD .mul (.int seed) (.int 48271) hh = .ok (.int (seed * 48271)) hh := bMulR hh (by omega) (by omega)
  have m3 : ∀ x : Int, binD .mul (.int x) (.int 6133) hh = .ok (.int (x * 6133)) hh := fun x => bMulR hh (by omega) (by omega)
  have q1 : ∀ x : Int, binD .mod (.int x) (.int 2147483647) hh = .ok (.int (x % 2147483647)) hh := fun x => bMod hh (by omega)
  have e1 : ∀ x : Int, (seed * 48271 + mark * mark * 6133 + 17) % 2147483647 = nxS mark seed := fun _ => rfl
  simp only [xsAsg, evBin, evVar, List.getElem?_cons_succ, ge0, evInt, bindOk, m1, m2, m3, bAdd, q1, setNm, List.set_cons_succ, List.set_cons_zero, e1 0]
theorem dT3 (d0 d1 d2 d3 d6 : Option D) (row : List Int) (seed : Int) (hz : row.length < 1000000) :
    xs G cl W (.ex (.app (.var 5) (.bin .mod (.bin .mod (.bin .mul (.bin .mod (.var 4) (.int 65521)) (.bin .add (.bin .mod (.bin .fdiv (.var 4) (.int 65521)) (.int 32749)) (.int 1))) (.int 1000003)) (.int 1013)))) [d0, d1, d2, d3, some (.int seed), some (.ref h.length), d6] (h ++ [.lst (row.map D.int)])
      = .ok (.nx [d0, d1, d2, d3, some (.int seed), some (.ref h.length), d6]) (h ++ [.lst ((row ++ [nxV seed]).map D.int)]) := by
  have hk := Int.emod_nonneg seed (show (65521 : Int) ≠ 0 by decide)
  have hk2 := Int.emod_lt_of_pos seed (show (0 : Int) < 65521 by decide)
  have m4 : ∀ (x : Int) hh, binD .mul (.int (seed % 65521)) (.int x) hh = .ok (.int ((seed % 65521) * x)) hh := fun x hh => bMulL hh (by omega) (by omega)
  have q2 : ∀ (x : Int) hh, binD .mod (.int x) (.int 65521) hh = .ok (.int (x % 65521)) hh := fun x hh => bMod hh (by omega)
  have q3 : ∀ (x : Int) hh, binD .mod (.int x) (.int 32749) hh = .ok (.int (x % 32749)) hh := fun x hh => bMod hh (by omega)
  have q4 : ∀ (x : Int) hh, binD .mod (.int x) (.int 1000003) hh = .ok (.int (x % 1000003)) hh := fun x hh => bMod hh (by omega)
  have q5 : ∀ (x : Int) hh, binD .mod (.int x) (.int 1013) hh = .ok (.int (x % 1013)) hh := fun x hh => bMod hh (by omega)
  have q6 : ∀ (x : Int) hh, binD .fdiv (.int x) (.int 65521) hh = .ok (.int (x / 65521)) hh := fun x hh => bDiv hh (by omega) (by omega)
  have e2 : ∀ s : Int, (s % 65521) * (s / 65521 % 32749 + 1) % 1000003 % 1013 = nxV s := fun _ => rfl
  simp only [xsEx, evBin, evVar, List.getElem?_cons_succ, ge0, evInt, bindOk, evApp, isLstR, lstAt_last, Option.isSome_some, if_true, bAdd, q2, q3, q4, q5, q6, m4, e2, appR, get_last, List.length_map, hz, if_pos, set_last, List.map_append, List.map_cons, List.map_nil]
theorem dT1 (d0 d1 d2 d3 d4 d6 : Option D) (row : List Int) :
    xs G cl W (.asg (.nm 6) (.bin .add (.blt .len (.cons (.var 5) .nil)) (.int 1))) [d0, d1, d2, d3, d4, some (.ref h.length), d6] (h ++ [.lst (row.map D.int)])
      = .ok (.nx [d0, d1, d2, d3, d4, some (.ref h.length), some (.int ((row.length : Int) + 1))]) (h ++ [.lst (row.map D.int)]) := by
  simp only [xsAsg, evBin, evBlt, evsCons, evsNil, evVar, List.getElem?_cons_succ, ge0, evInt, bindOk, bLen, sRef, lstAt_last, List.length_map, bAdd, setNm, List.set_cons_succ, List.set_cons_zero]
theorem dW2turn (d0 d1 d2 d3 d6 : Option D) (row : List Int) (seed : Int) (hz : row.length < 1000) :
    xss G cl W dW2b [d0, d1, d2, d3, some (.int seed), some (.ref h.length), d6] (h ++ [.lst (row.map D.int)])
      = .ok (.nx [d0, d1, d2, d3, some (.int (nxS ((row.length : Int) + 1) seed)), some (.ref h.length), some (.int ((row.length : Int) + 1))]) (h ++ [.lst ((row ++ [nxV (nxS ((row.length : Int) + 1) seed)]).map D.int)]) := by
  rw [dW2b, xssNx (dT1 G cl W h d0 d1 d2 d3 _ d6 row), xssNx (dT2 G cl W d0 d1 d2 d3 _ _ seed (by omega) (by omega) _), xssNx (dT3 G cl W h _ _ _ _ _ row _ (by omega)), xssNil]
theorem dW2 (M : Nat) (hM : M ≤ 1000) (d0 d1 d3 : Option D) : ∀ (k : Nat) (row : List Int) (seed : Int) (d6 : Option D), row.length ≤ M → InR row → M - row.length < k →
    ∃ row' seed' d6', row'.length = M ∧ InR row' ∧ whileF (ev G cl dW2c) (xss G cl W dW2b) k [d0, d1, some (.int M), d3, some (.int seed), some (.ref h.length), d6] (h ++ [.lst (row.map D.int)])
      = .ok (.nx [d0, d1, some (.int M), d3, some (.int seed'), some (.ref h.length), d6']) (h ++ [.lst (row'.map D.int)]) := by
  intro k
  induction k with
  | zero => intro row seed d6 _ _ hk; omega
  | succ k ih =>
    intro row seed d6 hl hr hk
    by_cases hm : row.length < M
    · have hm' : ((row.length : Int) < (M : Int)) := by omega
      obtain ⟨row', seed', d6', h1, h2, h3⟩ := ih (row ++ [nxV (nxS ((row.length : Int) + 1) seed)]) (nxS ((row.length : Int) + 1) seed) (some (.int ((row.length : Int) + 1))) (by simp; omega)
        (hr.snoc (Int.emod_nonneg _ (by decide)) (Int.emod_lt_of_pos _ (by decide))) (by simp; omega)
      refine ⟨row', seed', d6', h1, h2, ?_⟩
      rw [← h3]
      have hc : ev G cl dW2c [d0, d1, some (.int M), d3, some (.int seed), some (.ref h.length), d6] (h ++ [.lst (row.map D.int)]) = .ok (.bl true) (h ++ [.lst (row.map D.int)]) := by simp [dW2c, hm]
      simp only [whileF, hc, bindOk, tBl, dW2turn G cl W h d0 d1 _ d3 d6 row seed (by omega)]
    · refine ⟨row, seed, d6, by omega, hr, ?_⟩
      have hc : ev G cl dW2c [d0, d1, some (.int M), d3, some (.int seed), some (.ref h.length), d6] (h ++ [.lst (row.map D.int)]) = .ok (.bl false) (h ++ [.lst (row.map D.int)]) := by simp [dW2c, hm]
      simp only [whileF, hc, bindOk, tBl]
def dIf : S := .iff (.cmp .lt (.var 1) (.blt .len (.cons (.var 0) .nil))) (.cons (.asg (.nm 3) (.ix (.var 0) (.var 1))) .nil) (.cons (.iff (.cmp .gt (.blt .len (.cons (.var 0) .nil)) (.int 0)) (.cons (.asg (.nm 3) (.bin .add (.bin .add (.bin .mod (.ix (.var 0) (.bin .mod (.var 1) (.blt .len (.cons (.var 0) .nil)))) (.int 999983)) (.bin .mul (.bin .mul (.var 1) (.var 1)) (.int 97))) (.int 1))) .nil) .nil) .nil)
def drawsB : Ss := (.cons (.asg (.nm 3) (.bin .add (.bin .mul (.int 7) (.var 1)) (.int 1))) (.cons dIf (.cons (.asg (.nm 4) (.bin .add (.bin .add (.bin .mod (.var 3) (.int 999983)) (.bin .mul (.int 31) (.var 1))) (.int 5))) (.cons (.asg (.nm 5) (.lst .nil)) (.cons (.iff (.cmp .ge (.var 3) (.bin .pow (.int 10) (.int 18))) (.cons (.whl dW1c dW1b) .nil) .nil) (.cons (.whl dW2c dW2b) (.cons (.ret (.var 5)) .nil)))))))
theorem atI_ok {l : List Int} {i : Int} (a : 0 ≤ i) (b : i < l.length) : ∃ v, atI (l.map D.int) i = some (.int v) := by
  have hb : i.toNat < l.length := by omega
  refine ⟨l[i.toNat], ?_⟩
  have := atI_nat (xs := l.map D.int) (j := i.toNat) (v := .int l[i.toNat]) (by rw [List.getElem?_map, List.getElem?_eq_getElem hb]; rfl)
  rwa [show ((i.toNat : Nat) : Int) = i by omega] at this
theorem dIf_ok (s : Nat) (ns : List Int) (at' c0 : Int) (d2 d4 d5 d6 : Option D) (h0 : 0 ≤ at') (h1 : at' < 100000) (hs : lstAt h s = some (ns.map D.int)) :
    ∃ c : Int, xs G cl W dIf [some (.ref s), some (.int at'), d2, some (.int c0), d4, d5, d6] h = .ok (.nx [some (.ref s), some (.int at'), d2, some (.int c), d4, d5, d6]) h := by
  by_cases hl : at' < (ns.length : Int)
  · obtain ⟨v, hv⟩ := atI_ok h0 hl
    exact ⟨v, by simp [dIf, hs, hl, hv]⟩
  · by_cases hp : (0 : Int) < ns.length
    · obtain ⟨v, hv⟩ := atI_ok (l := ns) (i := at' % ns.length) (Int.emod_nonneg _ (by omega)) (Int.emod_lt_of_pos _ hp)
      have m0 : ∀ x : Int, binD .mod (.int x) (.int ns.length) h = .ok (.int (x % ns.length)) h := fun x => bMod h hp
      have m1 : binD .mul (.int at') (.int at') h = .ok (.int (at' * at')) h := bMulL h (by omega) (by omega)
      have m2 : ∀ x : Int, binD .mul (.int x) (.int 97) h = .ok (.int (x * 97)) h := fun x => bMulR h (by omega) (by omega)
      have m3 : ∀ x : Int, binD .mod (.int x) (.int 999983) h = .ok (.int (x % 999983)) h := fun x => bMod h (by omega)
      refine ⟨v % 999983 + at' * at' * 97 + 1, ?_⟩
      simp only [dIf, xsIff, xssCons, xssNil, xsAsg, evCmp, evVar, List.getElem?_cons_succ, ge0, evBlt, evsCons, evsNil, bindOk, bLen, sRef, hs, List.length_map, cLt, tBl, hl, decide_false, evInt, cGt, hp, decide_true, evBin, evIx, m0, iRef, hv, m1, m2, m3, bAdd, setNm, List.set_cons_succ, List.set_cons_zero]
    · have hp2 : ¬ (0 < ns.length) := by omega
      exact ⟨c0, by simp [dIf, hs, hl, hp, hp2]⟩
/-- THE DRAWS: a new list of that many ints from 0 to 1012 -/
theorem draws_ok (s : Nat) (ns : List Int) (at' : Int) (M : Nat) (hM : M ≤ 1000) (h0 : 0 ≤ at') (h1 : at' < 100000) (hs : lstAt h s = some (ns.map D.int)) (hW : 2000 ≤ W) :
    ∃ row : List Int, row.length = M ∧ InR row ∧ xss G cl W drawsB [some (.ref s), some (.int at'), some (.int M), none, none, none, none] h = .ok (.rt (.ref h.length)) (h ++ [.lst (row.map D.int)]) := by
  have a1 : xs G cl W (.asg (.nm 3) (.bin .add (.bin .mul (.int 7) (.var 1)) (.int 1))) [some (.ref s), some (.int at'), some (.int M), none, none, none, none] h = .ok (.nx [some (.ref s), some (.int at'), some (.int M), some (.int (7 * at' + 1)), none, none, none]) h := by
    have m1 : binD .mul (.int 7) (.int at') h = .ok (.int (7 * at')) h := bMulL h (by omega) (by omega)
    simp only [xsAsg, evBin, evVar, List.getElem?_cons_succ, ge0, evInt, bindOk, m1, bAdd, setNm, List.set_cons_succ, List.set_cons_zero]
  obtain ⟨c, a2⟩ := dIf_ok G cl W h s ns at' (7 * at' + 1) (some (.int M)) none none none h0 h1 hs
  have a3 : xs G cl W (.asg (.nm 4) (.bin .add (.bin .add (.bin .mod (.var 3) (.int 999983)) (.bin .mul (.int 31) (.var 1))) (.int 5))) [some (.ref s), some (.int at'), some (.int M), some (.int c), none, none, none] h = .ok (.nx [some (.ref s), some (.int at'), some (.int M), some (.int c), some (.int (c % 999983 + 31 * at' + 5)), none, none]) h := by
    have m1 : binD .mul (.int 31) (.int at') h = .ok (.int (31 * at')) h := bMulL h (by omega) (by omega)
    have m3 : ∀ x : Int, binD .mod (.int x) (.int 999983) h = .ok (.int (x % 999983)) h := fun x => bMod h (by omega)
    simp only [xsAsg, evBin, evVar, List.getElem?_cons_succ, ge0, evInt, bindOk, m1, m3, bAdd, setNm, List.set_cons_succ, List.set_cons_zero]
  have a4 : ∀ x : Int, xs G cl W (.asg (.nm 5) (.lst .nil)) [some (.ref s), some (.int at'), some (.int M), some (.int c), some (.int x), none, none] h = .ok (.nx [some (.ref s), some (.int at'), some (.int M), some (.int c), some (.int x), some (.ref h.length), none]) (h ++ [.lst (([] : List Int).map D.int)]) := fun x => by
    simp [xsAsg]
  have a5 : ∀ x : Int, ∃ row c', row.length ≤ M ∧ InR row ∧ xs G cl W (.iff (.cmp .ge (.var 3) (.bin .pow (.int 10) (.int 18))) (.cons (.whl dW1c dW1b) .nil) .nil) [some (.ref s), some (.int at'), some (.int M), some (.int c), some (.int x), some (.ref h.length), none] (h ++ [.lst (([] : List Int).map D.int)])
      = .ok (.nx [some (.ref s), some (.int at'), some (.int M), some (.int c'), some (.int x), some (.ref h.length), none]) (h ++ [.lst (row.map D.int)]) := fun x => by
    by_cases hc : (1000000000000000000 : Int) ≤ c
    · obtain ⟨row, c', r1, r2, r3⟩ := dW1 G cl W h M hM (some (.ref s)) (some (.int at')) (some (.int x)) none W [] c (Nat.zero_le _) (fun _ z => by cases z) (by simp; omega)
      refine ⟨row, c', r1, r2, ?_⟩
      simp only [xsIff, evCmp, evVar, List.getElem?_cons_succ, ge0, evBin, evInt, bindOk, bPow18, cGe, hc, decide_true, tBl, xssCons, xsWhl, r3, xssNil]
    · refine ⟨[], c, Nat.zero_le _, (fun _ z => by cases z), ?_⟩
      simp only [xsIff, evCmp, evVar, List.getElem?_cons_succ, ge0, evBin, evInt, bindOk, bPow18, cGe, hc, decide_false, tBl, xssNil]
  obtain ⟨row1, c', r1, r2, a5⟩ := a5 (c % 999983 + 31 * at' + 5)
  obtain ⟨row, sd, d6, q1, q2, a6⟩ := dW2 G cl W h M hM (some (.ref s)) (some (.int at')) (some (.int c')) W row1 (c % 999983 + 31 * at' + 5) none r1 r2 (by omega)
  refine ⟨row, q1, q2, ?_⟩
  rw [drawsB, xssNx a1, xssNx a2, xssNx a3, xssNx (a4 _), xssNx a5, xssNx (show xs G cl W (.whl dW2c dW2b) _ _ = _ from (xsWhl G cl W _ _ dW2c dW2b).trans a6)]
  exact xssRt (by simp only [xsRet, evVar, List.getElem?_cons_succ, ge0, bindOk])
end
end Ng

end
section
set_option Elab.async false
set_option linter.all false
set_option maxRecDepth 100000
set_option maxHeartbeats 4000000
set_option autoImplicit false
namespace Ng
open PySem L2
/-! ### loops that look at all items -/
theorem lstAt_more {h : Hh} {n : Nat} {l : List D} (g : Hh) (e : lstAt h n = some l) : lstAt (h ++ g) n = some l := lstAt_app h g e
theorem forS_all {t : Tg} {body : Ev → Hh → Rs Fl} (F : Ev → Prop) : ∀ (l : List D), (∀ d ∈ l, ∀ r h, F r → ∃ r1 r2 g, setT t d r = some r1 ∧ body r1 h = .ok (.nx r2) (h ++ g) ∧ F r2) → ∀ r h, F r → ∃ r' g, forS t body l r h = .ok (.nx r') (h ++ g) ∧ F r'
  | [], _, r, h, hF => ⟨r, [], by simp, hF⟩
  | d :: l, hb, r, h, hF => by
    obtain ⟨r1, r2, g, e1, e2, f2⟩ := hb d List.mem_cons_self r h hF
    obtain ⟨r', g', e3, f3⟩ := forS_all F l (fun d hd => hb d (List.mem_cons_of_mem _ hd)) r2 (h ++ g) f2
    refine ⟨r', g ++ g', ?_, f3⟩
    rw [← List.append_assoc, ← e3, forS1, e1]
    show (body r1 h).bind _ = _
    rw [e2]
    rfl
theorem forS_allP {t : Tg} {body : Ev → Hh → Rs Fl} (F : Ev → Hh → Prop) : ∀ (l : List D), (∀ d ∈ l, ∀ r h, F r h → ∃ r1 r2 g, setT t d r = some r1 ∧ body r1 h = .ok (.nx r2) (h ++ g) ∧ F r2 (h ++ g)) → ∀ r h, F r h → ∃ r' g, forS t body l r h = .ok (.nx r') (h ++ g) ∧ F r' (h ++ g)
  | [], _, r, h, hF => ⟨r, [], by simp, by simpa using hF⟩
  | d :: l, hb, r, h, hF => by
    obtain ⟨r1, r2, g, e1, e2, f2⟩ := hb d List.mem_cons_self r h hF
    obtain ⟨r', g', e3, f3⟩ := forS_allP F l (fun d hd => hb d (List.mem_cons_of_mem _ hd)) r2 (h ++ g) f2
    refine ⟨r', g ++ g', ?_, by rw [← List.append_assoc]; exact f3⟩
    rw [← List.append_assoc, ← e3, forS1, e1]
    show (body r1 h).bind _ = _
    rw [e2]
    rfl
theorem forS_id {t : Tg} {body : Ev → Hh → Rs Fl} (F : Ev → Prop) (h : Hh) : ∀ (l : List D), (∀ d ∈ l, ∀ r, F r → ∃ r1 r2, setT t d r = some r1 ∧ body r1 h = .ok (.nx r2) h ∧ F r2) → ∀ r, F r → ∃ r', forS t body l r h = .ok (.nx r') h ∧ F r'
  | [], _, r, hF => ⟨r, by simp, hF⟩
  | d :: l, hb, r, hF => by
    obtain ⟨r1, r2, e1, e2, f2⟩ := hb d List.mem_cons_self r hF
    obtain ⟨r', e3, f3⟩ := forS_id F h l (fun d hd => hb d (List.mem_cons_of_mem _ hd)) r2 f2
    refine ⟨r', ?_, f3⟩
    rw [← e3, forS1, e1]
    show (body r1 h).bind _ = _
    rw [e2]
    rfl
theorem forI_all {t : Tg} {body : Ev → Hh → Rs Fl} {n : Nat} {l : List D} (F : Ev → Prop) (hb : ∀ d ∈ l, ∀ r h, F r → lstAt h n = some l → ∃ r1 r2 g, setT t d r = some r1 ∧ body r1 h = .ok (.nx r2) (h ++ g) ∧ F r2) :
    ∀ (k i : Nat) (r : Ev) (h : Hh), F r → lstAt h n = some l → i ≤ l.length → l.length - i < k → ∃ r' g, forI t body n k i r h = .ok (.nx r') (h ++ g) ∧ F r' := by
  intro k
  induction k with
  | zero => intro i r h _ _ _ hk; omega
  | succ k ih =>
    intro i r h hF hl hi hk
    by_cases hlt : i < l.length
    · have ed : l[i]? = some l[i] := List.getElem?_eq_getElem hlt
      obtain ⟨r1, r2, g, e1, e2, f2⟩ := hb l[i] (List.getElem_mem hlt) r h hF hl
      obtain ⟨r', g', e3, f3⟩ := ih (i + 1) r2 (h ++ g) f2 (lstAt_more g hl) hlt (by omega)
      refine ⟨r', g ++ g', ?_, f3⟩
      rw [← List.append_assoc, ← e3]
      simp only [forI, hl, ed, e1, e2, bindOk]
    · have ed : l[i]? = none := List.getElem?_eq_none_iff.mpr (by omega)
      exact ⟨r, [], by simp [forI, hl, ed], hF⟩
theorem t8 {t : Int} (h0 : 0 ≤ t) (h1 : t < 8) : t = 0 ∨ t = 1 ∨ t = 2 ∨ t = 3 ∨ t = 4 ∨ t = 5 ∨ t = 6 ∨ t = 7 := by omega
/-- the eight turns -/
def tx (t x y : Int) : Int := if t = 0 then x else if t = 1 then -y else if t = 2 then -x else if t = 3 then y else if t = 4 then -x else if t = 5 then -y else if t = 6 then x else y
def ty (t x y : Int) : Int := if t = 0 then y else if t = 1 then x else if t = 2 then -y else if t = 3 then -x else if t = 4 then y else if t = 5 then -x else if t = 6 then -y else x
section
variable (h : Hh)
@[simp] theorem isStrTL (i : Str) : isinL (.str i) (.tup [.ty "tuple", .ty "list"]) h = .ok (.bl false) h := rfl
@[simp] theorem isBlTL (i : Bool) : isinL (.bl i) (.tup [.ty "tuple", .ty "list"]) h = .ok (.bl false) h := rfl
@[simp] theorem isNonTL : isinL .non (.tup [.ty "tuple", .ty "list"]) h = .ok (.bl false) h := rfl
@[simp] theorem isStrB (i : Str) : isinL (.str i) (.ty "bool") h = .ok (.bl false) h := rfl
@[simp] theorem isStrI (i : Str) : isinL (.str i) (.ty "int") h = .ok (.bl false) h := rfl
@[simp] theorem isStrS (i : Str) : isinL (.str i) (.ty "str") h = .ok (.bl true) h := rfl
@[simp] theorem isBlB (i : Bool) : isinL (.bl i) (.ty "bool") h = .ok (.bl true) h := rfl
@[simp] theorem inN : isNon .non = true := rfl
@[simp] theorem inI (i : Int) : isNon (.int i) = false := rfl
@[simp] theorem inS (i : Str) : isNon (.str i) = false := rfl
@[simp] theorem inB (i : Bool) : isNon (.bl i) = false := rfl
@[simp] theorem inT (i : List D) : isNon (.tup i) = false := rfl
@[simp] theorem inR (i : Nat) : isNon (.ref i) = false := rfl
end
/-- plain data, no deeper than that -/
def pd : Nat → D → Bool
  | _, .int _ => true
  | _, .str _ => true
  | _, .bl _ => true
  | _, .non => true
  | k + 1, .tup l => decide (l.length ≤ 1000) && l.all (pd k)
  | _, _ => false
theorem rngD_mem {j : Nat} {d : D} (hd : d ∈ rngD 0 j) : ∃ k : Nat, k < j ∧ d = .int k := by
  unfold rngD at hd
  obtain ⟨k, hk, rfl⟩ := List.mem_map.mp hd
  exact ⟨k, by simpa using hk, by simp⟩
end Ng

end
section
set_option Elab.async false
set_option linter.all false
set_option maxRecDepth 100000
set_option maxHeartbeats 4000000
set_option autoImplicit false
namespace Ng
open PySem L2
/-! ### a comprehension whose items are all kept; a loop by its invariant -/
theorem get_mid (h0 g : Hh) (o : O) : (h0 ++ o :: g)[h0.length]? = some o := by simp
theorem set_mid (h0 g : Hh) (o o' : O) : (h0 ++ o :: g).set h0.length o' = h0 ++ o' :: g := by simp
theorem app_mid (h0 g : Hh) (l : List D) (y : D) (hl : l.length < 1000000) : appD (.ref h0.length) y (h0 ++ .lst l :: g) = .ok .non (h0 ++ .lst (l ++ [y]) :: g) := by
  rw [appR, get_mid]
  show (if _ then _ else _) = _
  rw [if_pos hl, set_mid]
theorem lstAt_mid (h0 g : Hh) (l : List D) : lstAt (h0 ++ .lst l :: g) h0.length = some l := by
  unfold lstAt; rw [get_mid]; rfl
theorem compS_all {t : Tg} {cs : Ev → Hh → Rs Bool} {f : Ev → Hh → Rs D} {h0 : Hh} (F : Ev → Prop) (P : D → Prop) : ∀ (l : List D),
    (∀ d ∈ l, ∀ r ys g, F r → ∃ r1 y g', setT t d r = some r1 ∧ cs r1 (h0 ++ .lst ys :: g) = .ok true (h0 ++ .lst ys :: g) ∧ f r1 (h0 ++ .lst ys :: g) = .ok y (h0 ++ .lst ys :: (g ++ g')) ∧ P y ∧ F r1) →
    ∀ r ys g, F r → ys.length + l.length < 1000000 → ∃ zs g', compS t cs f h0.length l r (h0 ++ .lst ys :: g) = .ok () (h0 ++ .lst (ys ++ zs) :: g') ∧ zs.length = l.length ∧ ∀ z ∈ zs, P z
  | [], _, r, ys, g, _, _ => ⟨[], g, by simp [compS], rfl, by simp⟩
  | d :: l, hb, r, ys, g, hF, hl => by
    obtain ⟨r1, y, g1, e1, e2, e3, p, f1⟩ := hb d List.mem_cons_self r ys g hF
    obtain ⟨zs, g', e4, hz, pz⟩ := compS_all F P l (fun d hd => hb d (List.mem_cons_of_mem _ hd)) r1 (ys ++ [y]) (g ++ g1) f1 (by simp at hl ⊢; omega)
    refine ⟨y :: zs, g', ?_, by simp [hz], by
      intro z hz'
      rcases List.mem_cons.mp hz' with rfl | h
      · exact p
      · exact pz z h⟩
    simp only [compS, e1, e2, bindOk, if_true, e3, app_mid _ _ _ _ (show ys.length < 1000000 by simp at hl; omega), e4]
    simp
theorem forS_inv {t : Tg} {body : Ev → Hh → Rs Fl} (I : Nat → Ev → Hh → Prop) : ∀ (l : List D) (i : Nat), (∀ j d, l[j]? = some d → ∀ r h, I (i + j) r h → ∃ r1 r2 h2, setT t d r = some r1 ∧ body r1 h = .ok (.nx r2) h2 ∧ I (i + j + 1) r2 h2) →
    ∀ r h, I i r h → ∃ r' h', forS t body l r h = .ok (.nx r') h' ∧ I (i + l.length) r' h'
  | [], i, _, r, h, hI => ⟨r, h, by simp, hI⟩
  | d :: l, i, hb, r, h, hI => by
    obtain ⟨r1, r2, h2, e1, e2, i2⟩ := hb 0 d rfl r h hI
    obtain ⟨r', h', e3, i3⟩ := forS_inv I l (i + 1) (fun j d hd r h hI => by
      have := hb (j + 1) d (by simpa using hd) r h (by rw [show i + (j + 1) = i + 1 + j by omega]; exact hI)
      rw [show i + (j + 1) = i + 1 + j by omega] at this
      exact this) r2 h2 i2
    refine ⟨r', h', ?_, by rw [List.length_cons, show i + (l.length + 1) = i + 1 + l.length by omega]; exact i3⟩
    rw [← e3, forS1, e1]
    show (body r1 h).bind _ = _
    rw [e2]
    rfl
theorem rngD_get (j k : Nat) (hk : k < j) : (rngD 0 j)[k]? = some (D.int k) := by
  unfold rngD
  rw [List.getElem?_map, List.getElem?_range (by simpa using hk)]
  simp
theorem rngD_len (j : Nat) : (rngD 0 j).length = j := by unfold rngD; simp
theorem evComp_r1 {G : Gs} {cl : Cl} {t : Tg} {it cs : Es} {e : E} {N : List Str} {cap : List Nat} {r : Ev} {h h1 h' : Hh} {j : Int} (hi : evs G cl it r h = .ok [.int j] h1) (hj : okR j)
    (hc : compS t (evt G cl cs) (ev G cl e) h1.length (rngD 0 j) (blockE N cap r) (h1 ++ [O.lst []]) = .ok () h') : ev G cl (.comp t .r1 it cs e N cap) r h = .ok (.ref h1.length) h' := by
  rw [evComp, hi]
  show (compL t _ _ _ .r1 [.int j] h1 _ _).bind _ = _
  have e' : compL t (evt G cl cs) (ev G cl e) h1.length .r1 [.int j] h1 (blockE N cap r) (h1 ++ [O.lst []]) = .ok () h' := by
    show (if okR j then _ else _) = _
    rw [if_pos hj]; exact hc
  rw [e']; rfl
theorem evComp_tup {G : Gs} {cl : Cl} {t : Tg} {it cs : Es} {e : E} {N : List Str} {cap : List Nat} {r : Ev} {h h1 h' : Hh} {l : List D} (hi : evs G cl it r h = .ok [.tup l] h1)
    (hc : compS t (evt G cl cs) (ev G cl e) h1.length l (blockE N cap r) (h1 ++ [O.lst []]) = .ok () h') : ev G cl (.comp t .sq it cs e N cap) r h = .ok (.ref h1.length) h' := by
  rw [evComp, hi]
  show (compS t _ _ _ l _ _).bind _ = _
  rw [hc]; rfl
theorem evComp_lst {G : Gs} {cl : Cl} {t : Tg} {it cs : Es} {e : E} {N : List Str} {cap : List Nat} {r : Ev} {h h1 h' : Hh} {n : Nat} {l : List D} (hi : evs G cl it r h = .ok [.ref n] h1) (hl : lstAt h1 n = some l)
    (hc : compI t (evt G cl cs) (ev G cl e) h1.length n (l.length + 1) 0 (blockE N cap r) (h1 ++ [O.lst []]) = .ok () h') : ev G cl (.comp t .sq it cs e N cap) r h = .ok (.ref h1.length) h' := by
  rw [evComp, hi]
  show (compL t _ _ _ .sq [.ref n] h1 _ _).bind _ = _
  have e' : compL t (evt G cl cs) (ev G cl e) h1.length .sq [.ref n] h1 (blockE N cap r) (h1 ++ [O.lst []]) = .ok () h' := by
    show (match lstAt h1 n with | some l => compI t (evt G cl cs) (ev G cl e) h1.length n (l.length + 1) 0 (blockE N cap r) (h1 ++ [O.lst []]) | none => .bad) = _
    rw [hl]; exact hc
  rw [e']; rfl
theorem xsFor_r1 {G : Gs} {cl : Cl} {W : Nat} {t : Tg} {e : E} {b : Ss} {r : Ev} {h h1 h' : Hh} {j : Int} {fl : Fl} (hi : ev G cl e r h = .ok (.int j) h1) (hj : okR j) (hf : forS t (xss G cl W b) (rngD 0 j) r h1 = .ok fl h') : xs G cl W (.forr t (.r1 e) b) r h = .ok fl h' := by
  rw [xsFor1, hi]
  show (if okR j then _ else _) = _
  rw [if_pos hj]; exact hf
theorem okR_nat {n : Nat} (h : n ≤ 1000000) : okR (n : Int) := by unfold okR; omega
end Ng

end
section
set_option Elab.async false
set_option linter.all false
set_option maxRecDepth 100000
set_option maxHeartbeats 4000000
set_option autoImplicit false
namespace Ng
open PySem L2
/-! ### motions as triples -/
def tb (t : Int) : Int := if 4 ≤ t then t else (-t) % 4
theorem tb_in {t : Int} (h0 : 0 ≤ t) (h1 : t < 8) : 0 ≤ tb t ∧ tb t < 8 := by
  unfold tb; split <;> omega
def tbh (a b : Int) : Int := (if 4 ≤ b then b - a else b + a) % 4 + (if decide (4 ≤ a) = decide (4 ≤ b) then 0 else 4)
theorem tbh_in (a b : Int) : 0 ≤ tbh a b ∧ tbh a b < 8 := by
  unfold tbh; split <;> split <;> omega
abbrev M3 := Int × Int × Int
def mo (m : M3) : D := .tup [.int m.1, .int m.2.1, .int m.2.2]
def ok8 (m : M3) : Prop := 0 ≤ m.1 ∧ m.1 < 8
def bh (m n : M3) : M3 := (tbh m.1 n.1, tx n.1 m.2.1 m.2.2 + n.2.1, ty n.1 m.2.1 m.2.2 + n.2.2)
def bk (m : M3) : M3 := (tb m.1, -tx (tb m.1) m.2.1 m.2.2, -ty (tb m.1) m.2.1 m.2.2)
def act (m : M3) (x : Int × Int) : Int × Int := (tx m.1 x.1 x.2 + m.2.1, ty m.1 x.1 x.2 + m.2.2)
def pl (x : Int × Int) : D := .tup [.int x.1, .int x.2]
/-- a turn by its matrix -/
def cf (t : Int) : Int × Int × Int × Int := if t = 0 then (1, 0, 0, 1) else if t = 1 then (0, -1, 1, 0) else if t = 2 then (-1, 0, 0, -1) else if t = 3 then (0, 1, -1, 0) else if t = 4 then (-1, 0, 0, 1) else if t = 5 then (0, -1, -1, 0) else if t = 6 then (1, 0, 0, -1) else (0, 1, 1, 0)
theorem tx_cf (t x y : Int) : tx t x y = (cf t).1 * x + (cf t).2.1 * y := by
  unfold tx cf
  split
  · simp
  split
  · simp
  split
  · simp
  split
  · simp
  split
  · simp
  split
  · simp
  split
  · simp
  · simp
theorem ty_cf (t x y : Int) : ty t x y = (cf t).2.2.1 * x + (cf t).2.2.2 * y := by
  unfold ty cf
  split
  · simp
  split
  · simp
  split
  · simp
  split
  · simp
  split
  · simp
  split
  · simp
  split
  · simp
  · simp
theorem t00 (t : Int) : tx t 0 0 = 0 ∧ ty t 0 0 = 0 := by rw [tx_cf, ty_cf]; simp
theorem bh8 (m n : M3) : ok8 (bh m n) := tbh_in m.1 n.1
theorem bk8 {m : M3} (h : ok8 m) : ok8 (bk m) := tb_in h.1 h.2
theorem fin8 {t : Int} (h0 : 0 ≤ t) (h1 : t < 8) : ∃ k : Fin 8, t = (k.1 : Int) := ⟨⟨t.toNat, by omega⟩, by simp; omega⟩
theorem tbhA : ∀ a b c : Fin 8, tbh (tbh (a.1 : Int) (b.1 : Int)) (c.1 : Int) = tbh (a.1 : Int) (tbh (b.1 : Int) (c.1 : Int)) := by decide +kernel
theorem tbhC : ∀ a b : Fin 8, cf (tbh (a.1 : Int) (b.1 : Int)) = ((cf (b.1 : Int)).1 * (cf (a.1 : Int)).1 + (cf (b.1 : Int)).2.1 * (cf (a.1 : Int)).2.2.1, (cf (b.1 : Int)).1 * (cf (a.1 : Int)).2.1 + (cf (b.1 : Int)).2.1 * (cf (a.1 : Int)).2.2.2,
    (cf (b.1 : Int)).2.2.1 * (cf (a.1 : Int)).1 + (cf (b.1 : Int)).2.2.2 * (cf (a.1 : Int)).2.2.1, (cf (b.1 : Int)).2.2.1 * (cf (a.1 : Int)).2.1 + (cf (b.1 : Int)).2.2.2 * (cf (a.1 : Int)).2.2.2) := by decide +kernel
/-- two turns, one behind the other -/
theorem t_bh {t u : Int} (h0 : 0 ≤ t) (h1 : t < 8) (h2 : 0 ≤ u) (h3 : u < 8) (x y : Int) : tx (tbh t u) x y = tx u (tx t x y) (ty t x y) ∧ ty (tbh t u) x y = ty u (tx t x y) (ty t x y) := by
  obtain ⟨i, rfl⟩ := fin8 h0 h1
  obtain ⟨j, rfl⟩ := fin8 h2 h3
  simp only [tx_cf, ty_cf, tbhC i j]
  constructor
  · rw [Int.add_mul, Int.add_mul, Int.mul_add, Int.mul_add]
    simp only [Int.mul_assoc]; omega
  · rw [Int.add_mul, Int.add_mul, Int.mul_add, Int.mul_add]
    simp only [Int.mul_assoc]; omega
theorem t_add (t x y x' y' : Int) : tx t (x + x') (y + y') = tx t x y + tx t x' y' ∧ ty t (x + x') (y + y') = ty t x y + ty t x' y' := by
  simp only [tx_cf, ty_cf, Int.mul_add]
  constructor <;> omega
theorem t_neg (t x y : Int) : tx t (-x) (-y) = -tx t x y ∧ ty t (-x) (-y) = -ty t x y := by
  simp only [tx_cf, ty_cf, Int.mul_neg]
  constructor <;> omega
theorem tbhB : ∀ a : Fin 8, tbh (a.1 : Int) (tb (a.1 : Int)) = 0 ∧ tbh (tb (a.1 : Int)) (a.1 : Int) = 0 ∧ tbh 0 (a.1 : Int) = (a.1 : Int) ∧ tbh (a.1 : Int) 0 = (a.1 : Int) := by decide +kernel
theorem tbhD : ∀ a b : Fin 8, tbh (tb (a.1 : Int)) (tb (b.1 : Int)) = tb (tbh (b.1 : Int) (a.1 : Int)) := by decide +kernel
theorem t_0 (x y : Int) : tx 0 x y = x ∧ ty 0 x y = y := ⟨rfl, rfl⟩
theorem t_bk {t : Int} (h0 : 0 ≤ t) (h1 : t < 8) (x y : Int) : tx (tb t) (tx t x y) (ty t x y) = x ∧ ty (tb t) (tx t x y) (ty t x y) = y ∧ tx t (tx (tb t) x y) (ty (tb t) x y) = x ∧ ty t (tx (tb t) x y) (ty (tb t) x y) = y := by
  obtain ⟨b0, b1⟩ := tb_in h0 h1
  have z1 := t_bh h0 h1 b0 b1 x y
  have z2 := t_bh b0 b1 h0 h1 x y
  obtain ⟨i, rfl⟩ := fin8 h0 h1
  have z := tbhB i
  rw [z.1] at z1
  rw [z.2.1] at z2
  exact ⟨z1.1.symm, z1.2.symm, z2.1.symm, z2.2.symm⟩
theorem bh_assoc {a b c : M3} (ha : ok8 a) (hb : ok8 b) (hc : ok8 c) : bh (bh a b) c = bh a (bh b c) := by
  obtain ⟨t, p, q⟩ := a
  obtain ⟨u, r, s⟩ := b
  obtain ⟨v, x, y⟩ := c
  obtain ⟨a0, a1⟩ := ha
  obtain ⟨b0, b1⟩ := hb
  obtain ⟨c0, c1⟩ := hc
  simp only at a0 a1 b0 b1 c0 c1
  have z2 := t_bh b0 b1 c0 c1 p q
  obtain ⟨i, rfl⟩ := fin8 a0 a1
  obtain ⟨j, rfl⟩ := fin8 b0 b1
  obtain ⟨k, rfl⟩ := fin8 c0 c1
  simp only [bh, tbhA i j k, Prod.mk.injEq, true_and]
  simp only [(t_add _ _ _ _ _).1, (t_add _ _ _ _ _).2, z2.1, z2.2]
  constructor <;> omega
theorem bh_0 {m : M3} (h : ok8 m) : bh (0, 0, 0) m = m := by
  obtain ⟨t, p, q⟩ := m
  obtain ⟨h0, h1⟩ := h
  simp only at h0 h1
  obtain ⟨i, rfl⟩ := fin8 h0 h1
  simp [bh, (tbhB i).2.2.1, (t00 _).1, (t00 _).2]
theorem bh_r0 {m : M3} (h : ok8 m) : bh m (0, 0, 0) = m := by
  obtain ⟨t, p, q⟩ := m
  obtain ⟨h0, h1⟩ := h
  simp only at h0 h1
  obtain ⟨i, rfl⟩ := fin8 h0 h1
  simp [bh, (tbhB i).2.2.2, t_0]
theorem bh_inv {m : M3} (h : ok8 m) : bh m (bk m) = (0, 0, 0) := by
  obtain ⟨t, p, q⟩ := m
  obtain ⟨h0, h1⟩ := h
  simp only at h0 h1
  obtain ⟨i, rfl⟩ := fin8 h0 h1
  simp [bh, bk, (tbhB i).1]
  constructor <;> omega
theorem bh_inv' {m : M3} (h : ok8 m) : bh (bk m) m = (0, 0, 0) := by
  obtain ⟨t, p, q⟩ := m
  obtain ⟨h0, h1⟩ := h
  simp only at h0 h1
  have z := t_bk h0 h1 p q
  obtain ⟨i, rfl⟩ := fin8 h0 h1
  simp [bh, bk, (tbhB i).2.1, (t_neg _ _ _).1, (t_neg _ _ _).2, z.2.2.1, z.2.2.2]
  constructor <;> omega
theorem bk_bh {a m : M3} (ha : ok8 a) (hm : ok8 m) : bh (bk m) (bk a) = bk (bh a m) := by
  obtain ⟨t, p, q⟩ := m
  obtain ⟨u, r, s⟩ := a
  obtain ⟨a0, a1⟩ := ha
  obtain ⟨b0, b1⟩ := hm
  simp only at a0 a1 b0 b1
  have c1 := tb_in b0 b1
  have c2 := tb_in a0 a1
  have z1 := t_bh c1.1 c1.2 c2.1 c2.2 p q
  have z2 := t_bh c1.1 c1.2 c2.1 c2.2 (tx t r s) (ty t r s)
  have z3 := t_bk b0 b1 r s
  rw [z3.1, z3.2.1] at z2
  obtain ⟨i, rfl⟩ := fin8 b0 b1
  obtain ⟨j, rfl⟩ := fin8 a0 a1
  rw [tbhD i j] at z1 z2
  simp only [bh, bk, tbhD i j, (t_add _ _ _ _ _).1, (t_add _ _ _ _ _).2, (t_neg _ _ _).1, (t_neg _ _ _).2, Prod.mk.injEq, true_and, z1.1, z1.2, z2.1, z2.2]
  constructor <;> omega
theorem act_bh {a m : M3} (ha : ok8 a) (hm : ok8 m) (x : Int × Int) : act (bh a m) x = act m (act a x) := by
  obtain ⟨t, p, q⟩ := m
  obtain ⟨u, r, s⟩ := a
  obtain ⟨a0, a1⟩ := ha
  obtain ⟨b0, b1⟩ := hm
  simp only at a0 a1 b0 b1
  have z := t_bh a0 a1 b0 b1 x.1 x.2
  simp only [act, bh, z.1, z.2, (t_add _ _ _ _ _).1, (t_add _ _ _ _ _).2, Prod.mk.injEq]
  constructor <;> omega
theorem act_bk {a : M3} (ha : ok8 a) (x : Int × Int) : act (bk a) (act a x) = x := by
  obtain ⟨t, p, q⟩ := a
  obtain ⟨x, y⟩ := x
  obtain ⟨b0, b1⟩ := ha
  simp only at b0 b1
  have z := t_bk b0 b1 x y
  simp only [act, bk, (t_add _ _ _ _ _).1, (t_add _ _ _ _ _).2, z.1, z.2.1, Prod.mk.injEq]
  constructor <;> omega
theorem act_bk' {a : M3} (ha : ok8 a) (x : Int × Int) : act a (act (bk a) x) = x := by
  obtain ⟨t, p, q⟩ := a
  obtain ⟨x, y⟩ := x
  obtain ⟨b0, b1⟩ := ha
  simp only at b0 b1
  have z := t_bk b0 b1 x y
  have z' := t_bk b0 b1 p q
  simp only [act, bk, (t_add _ _ _ _ _).1, (t_add _ _ _ _ _).2, (t_neg _ _ _).1, (t_neg _ _ _).2, z.2.2.1, z.2.2.2, z'.2.2.1, z'.2.2.2, Prod.mk.injEq]
  constructor <;> omega
theorem act_0 (x : Int × Int) : act (0, 0, 0) x = x := by simp [act, t_0]
theorem bk_0 : bk (0, 0, 0) = (0, 0, 0) := by decide
end Ng

end
section
namespace Pk05
open PySem L2 Ng
def top (i : Nat) : PySem.Stmt := PySem.Challenge.pw_nightglass_k05_whole_rows_of_motions.main.body.getD i (.Pass ⟨0, 0, 0, 0⟩)
def G : Gs := ⟨["turned", "turn_behind", "turn_back", "moved", "leading", "behind", "back", "_law_draws", "_law_far", "_law_turned", "_law_moved", "_law_motion", "_law_same", "_law_is_motion", "law"], [("STILL", .tup [.int (0), .int (0), .int (0)]), ("ORIGIN", .tup [.int (0), .int (0)]), ("TURNS", .tup [.tup [.int (1), .int (0), .int (0), .int (1)], .tup [.int (0), .int (-1), .int (1), .int (0)], .tup [.int (-1), .int (0), .int (0), .int (-1)], .tup [.int (0), .int (1), .int (-1), .int (0)], .tup [.int (-1), .int (0), .int (0), .int (1)], .tup [.int (0), .int (-1), .int (-1), .int (0)], .tup [.int (1), .int (0), .int (0), .int (-1)], .tup [.int (0), .int (1), .int (1), .int (0)]]), ("MIRRORED", .int (4))]⟩
theorem gc0 : G.csts[0]? = some (("STILL", .tup [.int (0), .int (0), .int (0)]) : Str × D) := rfl
theorem gc1 : G.csts[1]? = some (("ORIGIN", .tup [.int (0), .int (0)]) : Str × D) := rfl
theorem gc2 : G.csts[2]? = some (("TURNS", .tup [.tup [.int (1), .int (0), .int (0), .int (1)], .tup [.int (0), .int (-1), .int (1), .int (0)], .tup [.int (-1), .int (0), .int (0), .int (-1)], .tup [.int (0), .int (1), .int (-1), .int (0)], .tup [.int (-1), .int (0), .int (0), .int (1)], .tup [.int (0), .int (-1), .int (-1), .int (0)], .tup [.int (1), .int (0), .int (0), .int (-1)], .tup [.int (0), .int (1), .int (1), .int (0)]]) : Str × D) := rfl
theorem gc3 : G.csts[3]? = some (("MIRRORED", .int (4)) : Str × D) := rfl
/-! 0: turned, slots 0=turn 1=place 2=x 3=y 4=x_to_x 5=y_to_x 6=x_to_y 7=y_to_y -/
def b0 : Ss := (.cons (.asg (.tp [2, 3]) (.var 1)) (.cons (.asg (.tp [4, 5, 6, 7]) (.ix (.gc 2) (.var 0))) (.cons (.ret (.tup (.cons (.bin .add (.bin .mul (.var 4) (.var 2)) (.bin .mul (.var 5) (.var 3))) (.cons (.bin .add (.bin .mul (.var 6) (.var 2)) (.bin .mul (.var 7) (.var 3))) .nil)))) .nil)))
/-! 1: turn_behind, slots 0=first 1=second 2=quarters 3=mirrors -/
def b1 : Ss := (.cons (.asg (.nm 2) (.ite (.cmp .ge (.var 1) (.gc 3)) (.bin .sub (.var 1) (.var 0)) (.bin .add (.var 1) (.var 0)))) (.cons (.asg (.nm 3) (.cmp .ne (.cmp .ge (.var 0) (.gc 3)) (.cmp .ge (.var 1) (.gc 3)))) (.cons (.ret (.bin .add (.bin .mod (.var 2) (.int 4)) (.ite (.var 3) (.gc 3) (.int 0)))) .nil)))
/-! 2: turn_back, slots 0=turn -/
def b2 : Ss := (.cons (.ret (.ite (.cmp .ge (.var 0) (.gc 3)) (.var 0) (.bin .mod (.neg (.var 0)) (.int 4)))) .nil)
/-! 3: moved, slots 0=motion 1=place 2=turn 3=right 4=up 5=x 6=y -/
def b3 : Ss := (.cons (.asg (.tp [2, 3, 4]) (.var 0)) (.cons (.asg (.tp [5, 6]) (.call 0 (.cons (.var 2) (.cons (.var 1) .nil)))) (.cons (.ret (.tup (.cons (.bin .add (.var 5) (.var 3)) (.cons (.bin .add (.var 6) (.var 4)) .nil)))) .nil)))
/-! 4: leading, slots 0=turn 1=place 2=goal 3=x 4=y 5=goal_x 6=goal_y -/
def b4 : Ss := (.cons (.asg (.tp [3, 4]) (.call 0 (.cons (.var 0) (.cons (.var 1) .nil)))) (.cons (.asg (.tp [5, 6]) (.var 2)) (.cons (.ret (.tup (.cons (.var 0) (.cons (.bin .sub (.var 5) (.var 3)) (.cons (.bin .sub (.var 6) (.var 4)) .nil))))) .nil)))
/-! 5: behind, slots 0=first 1=second 2=turn -/
def b5 : Ss := (.cons (.asg (.nm 2) (.call 1 (.cons (.ix (.var 0) (.int 0)) (.cons (.ix (.var 1) (.int 0)) .nil)))) (.cons (.ret (.call 4 (.cons (.var 2) (.cons (.gc 1) (.cons (.call 3 (.cons (.var 1) (.cons (.call 3 (.cons (.var 0) (.cons (.gc 1) .nil))) .nil))) .nil))))) .nil))
/-! 6: back, slots 0=motion -/
def b6 : Ss := (.cons (.ret (.call 4 (.cons (.call 2 (.cons (.ix (.var 0) (.int 0)) .nil)) (.cons (.call 3 (.cons (.var 0) (.cons (.gc 1) .nil))) (.cons (.gc 1) .nil))))) .nil)
/-! 7: _law_draws, slots 0=_law_script 1=_law_at 2=_law_many 3=_law_cell 4=_law_seed 5=_law_row 6=_law_mark -/
def b7 : Ss := (.cons (.asg (.nm 3) (.bin .add (.bin .mul (.int 7) (.var 1)) (.int 1))) (.cons (.iff (.cmp .lt (.var 1) (.blt .len (.cons (.var 0) .nil))) (.cons (.asg (.nm 3) (.ix (.var 0) (.var 1))) .nil) (.cons (.iff (.cmp .gt (.blt .len (.cons (.var 0) .nil)) (.int 0)) (.cons (.asg (.nm 3) (.bin .add (.bin .add (.bin .mod (.ix (.var 0) (.bin .mod (.var 1) (.blt .len (.cons (.var 0) .nil)))) (.int 999983)) (.bin .mul (.bin .mul (.var 1) (.var 1)) (.int 97))) (.int 1))) .nil) .nil) .nil)) (.cons (.asg (.nm 4) (.bin .add (.bin .add (.bin .mod (.var 3) (.int 999983)) (.bin .mul (.int 31) (.var 1))) (.int 5))) (.cons (.asg (.nm 5) (.lst .nil)) (.cons (.iff (.cmp .ge (.var 3) (.bin .pow (.int 10) (.int 18))) (.cons (.whl (.and (.cmp .gt (.var 3) (.int 0)) (.cmp .lt (.blt .len (.cons (.var 5) .nil)) (.var 2))) (.cons (.ex (.app (.var 5) (.bin .mod (.var 3) (.int 1013)))) (.cons (.asg (.nm 3) (.bin .fdiv (.var 3) (.int 1013))) .nil))) .nil) .nil) (.cons (.whl (.cmp .lt (.blt .len (.cons (.var 5) .nil)) (.var 2)) (.cons (.asg (.nm 6) (.bin .add (.blt .len (.cons (.var 5) .nil)) (.int 1))) (.cons (.asg (.nm 4) (.bin .mod (.bin .add (.bin .add (.bin .mul (.var 4) (.int 48271)) (.bin .mul (.bin .mul (.var 6) (.var 6)) (.int 6133))) (.int 17)) (.int 2147483647))) (.cons (.ex (.app (.var 5) (.bin .mod (.bin .mod (.bin .mul (.bin .mod (.var 4) (.int 65521)) (.bin .add (.bin .mod (.bin .fdiv (.var 4) (.int 65521)) (.int 32749)) (.int 1))) (.int 1000003)) (.int 1013)))) .nil)))) (.cons (.ret (.var 5)) .nil)))))))
/-! 8: _law_far, slots 0=_law_one 1=_law_two -/
def b8 : Ss := (.cons (.iff (.cmp .lt (.bin .mod (.var 0) (.int 5)) (.int 3)) (.cons (.ret (.bin .sub (.bin .mod (.bin .fdiv (.var 0) (.int 5)) (.int 13)) (.int 6))) .nil) .nil) (.cons (.iff (.cmp .eq (.bin .mod (.var 0) (.int 5)) (.int 3)) (.cons (.ret (.bin .sub (.bin .add (.bin .mul (.var 0) (.int 1013)) (.var 1)) (.int 513000))) .nil) .nil) (.cons (.ret (.bin .add (.bin .mul (.bin .sub (.var 1) (.int 506)) (.bin .pow (.int 10) (.int 27))) (.var 0))) .nil)))
/-! 9: _law_turned, slots 0=_law_turn 1=_law_x 2=_law_y -/
def b9 : Ss := (.cons (.ret (.ix (.lst (.cons (.tup (.cons (.var 1) (.cons (.var 2) .nil))) (.cons (.tup (.cons (.neg (.var 2)) (.cons (.var 1) .nil))) (.cons (.tup (.cons (.neg (.var 1)) (.cons (.neg (.var 2)) .nil))) (.cons (.tup (.cons (.var 2) (.cons (.neg (.var 1)) .nil))) (.cons (.tup (.cons (.neg (.var 1)) (.cons (.var 2) .nil))) (.cons (.tup (.cons (.neg (.var 2)) (.cons (.neg (.var 1)) .nil))) (.cons (.tup (.cons (.var 1) (.cons (.neg (.var 2)) .nil))) (.cons (.tup (.cons (.var 2) (.cons (.var 1) .nil))) .nil))))))))) (.var 0))) .nil)
/-! 10: _law_moved, slots 0=_law_motion_here 1=_law_place 2=_law_x 3=_law_y -/
def b10 : Ss := (.cons (.asg (.tp [2, 3]) (.call 9 (.cons (.ix (.var 0) (.int 0)) (.cons (.ix (.var 1) (.int 0)) (.cons (.ix (.var 1) (.int 1)) .nil))))) (.cons (.ret (.tup (.cons (.bin .add (.var 2) (.ix (.var 0) (.int 1))) (.cons (.bin .add (.var 3) (.ix (.var 0) (.int 2))) .nil)))) .nil))
/-! 11: _law_motion, slots 0=_law_d 1=_law_at -/
def b11 : Ss := (.cons (.ret (.tup (.cons (.bin .mod (.ix (.var 0) (.var 1)) (.int 8)) (.cons (.call 8 (.cons (.ix (.var 0) (.bin .add (.var 1) (.int 1))) (.cons (.ix (.var 0) (.bin .add (.var 1) (.int 2))) .nil))) (.cons (.call 8 (.cons (.ix (.var 0) (.bin .add (.var 1) (.int 3))) (.cons (.ix (.var 0) (.bin .add (.var 1) (.int 4))) .nil))) .nil))))) .nil)
/-! 12: _law_same, slots 0=_law_found 1=_law_due 2=_law_k -/
def b12 : Ss := (.cons (.iff (.blt .isinst (.cons (.var 1) (.cons (.tup (.cons (.ty .tuple) (.cons (.ty .list) .nil))) .nil))) (.cons (.iff (.or (.cmp .ne (.blt .isinst (.cons (.var 1) (.cons (.ty .tuple) .nil))) (.blt .isinst (.cons (.var 0) (.cons (.ty .tuple) .nil)))) (.cmp .ne (.blt .isinst (.cons (.var 1) (.cons (.ty .list) .nil))) (.blt .isinst (.cons (.var 0) (.cons (.ty .list) .nil))))) (.cons (.ret (.bl false)) .nil) .nil) (.cons (.iff (.cmp .ne (.blt .len (.cons (.var 0) .nil)) (.blt .len (.cons (.var 1) .nil))) (.cons (.ret (.bl false)) .nil) .nil) (.cons (.forr (.nm 2) (.r1 (.blt .len (.cons (.var 1) .nil))) (.cons (.iff (.not (.call 12 (.cons (.ix (.var 0) (.var 2)) (.cons (.ix (.var 1) (.var 2)) .nil)))) (.cons (.ret (.bl false)) .nil) .nil) .nil)) (.cons (.ret (.bl true)) .nil)))) .nil) (.cons (.iff (.cmp .is (.var 1) .non) (.cons (.ret (.cmp .is (.var 0) .non)) .nil) .nil) (.cons (.iff (.or (.blt .isinst (.cons (.var 1) (.cons (.ty .bool) .nil))) (.blt .isinst (.cons (.var 0) (.cons (.ty .bool) .nil)))) (.cons (.ret (.and (.blt .isinst (.cons (.var 1) (.cons (.ty .bool) .nil))) (.and (.blt .isinst (.cons (.var 0) (.cons (.ty .bool) .nil))) (.cmp .eq (.var 0) (.var 1))))) .nil) .nil) (.cons (.iff (.blt .isinst (.cons (.var 1) (.cons (.ty .int) .nil))) (.cons (.ret (.and (.blt .isinst (.cons (.var 0) (.cons (.ty .int) .nil))) (.cmp .eq (.var 0) (.var 1)))) .nil) .nil) (.cons (.ret (.and (.blt .isinst (.cons (.var 0) (.cons (.ty .str) .nil))) (.cmp .eq (.var 0) (.var 1)))) .nil)))))
/-! 13: _law_is_motion, slots 0=_law_found 1=_law_part -/
def b13 : Ss := (.cons (.iff (.or (.not (.blt .isinst (.cons (.var 0) (.cons (.ty .tuple) .nil)))) (.cmp .ne (.blt .len (.cons (.var 0) .nil)) (.int 3))) (.cons (.ret (.bl false)) .nil) .nil) (.cons (.forr (.nm 1) (.sq (.var 0)) (.cons (.iff (.or (.not (.blt .isinst (.cons (.var 1) (.cons (.ty .int) .nil)))) (.blt .isinst (.cons (.var 1) (.cons (.ty .bool) .nil)))) (.cons (.ret (.bl false)) .nil) .nil) .nil)) (.cons (.ret (.and (.cmp .le (.int 0) (.ix (.var 0) (.int 0))) (.cmp .le (.ix (.var 0) (.int 0)) (.int 7)))) .nil)))
/-! 14: law, slots 0=_law_script 1=_law_row 2=_law_d 3=_law_start 4=_law_cut 5=_law_place 6=_law_all_of_them 7=_law_home 8=_law_parts 9=_law_k -/
def b14 : Ss := (.cons (.asc 1 (.comp (.nm 0) .r1 (.cons (.blt .len (.cons (.var 0) .nil)) .nil) .nil (.call 11 (.cons (.call 7 (.cons (.var 1) (.cons (.var 0) (.cons (.int 5) .nil)))) (.cons (.int 0) .nil))) ["_law_k", "_law_script"] [0])) (.cons (.asg (.nm 2) (.call 7 (.cons (.var 0) (.cons (.int 0) (.cons (.int 12) .nil))))) (.cons (.asg (.nm 3) (.tup (.cons (.call 8 (.cons (.ix (.var 2) (.int 8)) (.cons (.ix (.var 2) (.int 9)) .nil))) (.cons (.call 8 (.cons (.ix (.var 2) (.int 10)) (.cons (.ix (.var 2) (.int 11)) .nil))) .nil)))) (.cons (.asg (.nm 4) (.bin .mod (.ix (.var 2) (.int 7)) (.bin .add (.blt .len (.cons (.var 1) .nil)) (.int 1)))) (.cons (.asg (.nm 5) (.var 3)) (.cons (.asg (.nm 6) (.gc 0)) (.cons (.asg (.nm 7) (.gc 0)) (.cons (.asg (.nm 8) (.lst (.cons (.gc 0) (.cons (.gc 0) .nil)))) (.cons (.forr (.nm 9) (.r1 (.blt .len (.cons (.var 1) .nil))) (.cons (.asg (.nm 5) (.call 10 (.cons (.ix (.var 1) (.var 9)) (.cons (.var 5) .nil)))) (.cons (.asg (.nm 6) (.call 5 (.cons (.var 6) (.cons (.ix (.var 1) (.var 9)) .nil)))) (.cons (.asg (.nm 7) (.call 5 (.cons (.call 6 (.cons (.ix (.var 1) (.var 9)) .nil)) (.cons (.var 7) .nil)))) (.cons (.stx (.var 8) (.blt .int (.cons (.cmp .ge (.var 9) (.var 4)) .nil)) (.call 5 (.cons (.ix (.var 8) (.blt .int (.cons (.cmp .ge (.var 9) (.var 4)) .nil))) (.cons (.ix (.var 1) (.var 9)) .nil)))) .nil))))) (.cons (.iff (.or (.not (.call 13 (.cons (.var 6) .nil))) (.cmp .ne (.call 10 (.cons (.var 6) (.cons (.var 3) .nil))) (.var 5))) (.cons (.ret (.bl false)) .nil) .nil) (.cons (.iff (.or (.not (.call 12 (.cons (.call 5 (.cons (.ix (.var 8) (.int 0)) (.cons (.ix (.var 8) (.int 1)) .nil))) (.cons (.var 6) .nil)))) (.not (.call 12 (.cons (.var 7) (.cons (.call 6 (.cons (.var 6) .nil)) .nil))))) (.cons (.ret (.bl false)) .nil) .nil) (.cons (.ret (.and (.call 12 (.cons (.call 5 (.cons (.var 6) (.cons (.var 7) .nil))) (.cons (.tup (.cons (.int 0) (.cons (.int 0) (.cons (.int 0) .nil)))) .nil))) (.cmp .eq (.call 10 (.cons (.var 7) (.cons (.var 5) .nil))) (.var 3)))) .nil))))))))))))
def T : Nat → Option Fc
  | 0 => some ⟨2, 8, b0⟩
  | 1 => some ⟨2, 4, b1⟩
  | 2 => some ⟨1, 1, b2⟩
  | 3 => some ⟨2, 7, b3⟩
  | 4 => some ⟨3, 7, b4⟩
  | 5 => some ⟨2, 3, b5⟩
  | 6 => some ⟨1, 1, b6⟩
  | 7 => some ⟨3, 7, b7⟩
  | 8 => some ⟨2, 2, b8⟩
  | 9 => some ⟨3, 3, b9⟩
  | 10 => some ⟨2, 4, b10⟩
  | 11 => some ⟨2, 2, b11⟩
  | 12 => some ⟨2, 3, b12⟩
  | 13 => some ⟨1, 2, b13⟩
  | 14 => some ⟨1, 10, b14⟩
  | _ => none
theorem sc0 : FnScope ["turn", "place", "x", "y", "x_to_x", "y_to_x", "x_to_y", "y_to_y"] ["turn", "place"] (defScope (top 5)) := ⟨rfl, rfl, rfl, by decide +kernel, rfl, by decide +kernel, by decide +kernel⟩
theorem ck0 : chkSs ["turn", "place", "x", "y", "x_to_x", "y_to_x", "x_to_y", "y_to_y"] (defScope (top 5)) G b0 (defBody (top 5)) = true := by decide +kernel
theorem sc1 : FnScope ["first", "second", "quarters", "mirrors"] ["first", "second"] (defScope (top 6)) := ⟨rfl, rfl, rfl, by decide +kernel, rfl, by decide +kernel, by decide +kernel⟩
theorem ck1 : chkSs ["first", "second", "quarters", "mirrors"] (defScope (top 6)) G b1 (defBody (top 6)) = true := by decide +kernel
theorem sc2 : FnScope ["turn"] ["turn"] (defScope (top 7)) := ⟨rfl, rfl, rfl, by decide +kernel, rfl, by decide +kernel, by decide +kernel⟩
theorem ck2 : chkSs ["turn"] (defScope (top 7)) G b2 (defBody (top 7)) = true := by decide +kernel
theorem sc3 : FnScope ["motion", "place", "turn", "right", "up", "x", "y"] ["motion", "place"] (defScope (top 8)) := ⟨rfl, rfl, rfl, by decide +kernel, rfl, by decide +kernel, by decide +kernel⟩
theorem ck3 : chkSs ["motion", "place", "turn", "right", "up", "x", "y"] (defScope (top 8)) G b3 (defBody (top 8)) = true := by decide +kernel
theorem sc4 : FnScope ["turn", "place", "goal", "x", "y", "goal_x", "goal_y"] ["turn", "place", "goal"] (defScope (top 9)) := ⟨rfl, rfl, rfl, by decide +kernel, rfl, by decide +kernel, by decide +kernel⟩
theorem ck4 : chkSs ["turn", "place", "goal", "x", "y", "goal_x", "goal_y"] (defScope (top 9)) G b4 (defBody (top 9)) = true := by decide +kernel
theorem sc5 : FnScope ["first", "second", "turn"] ["first", "second"] (defScope (top 10)) := ⟨rfl, rfl, rfl, by decide +kernel, rfl, by decide +kernel, by decide +kernel⟩
theorem ck5 : chkSs ["first", "second", "turn"] (defScope (top 10)) G b5 (defBody (top 10)) = true := by decide +kernel
theorem sc6 : FnScope ["motion"] ["motion"] (defScope (top 11)) := ⟨rfl, rfl, rfl, by decide +kernel, rfl, by decide +kernel, by decide +kernel⟩
theorem ck6 : chkSs ["motion"] (defScope (top 11)) G b6 (defBody (top 11)) = true := by decide +kernel
theorem sc7 : FnScope ["_law_script", "_law_at", "_law_many", "_law_cell", "_law_seed", "_law_row", "_law_mark"] ["_law_script", "_law_at", "_law_many"] (defScope (top 13)) := ⟨rfl, rfl, rfl, by decide +kernel, rfl, by decide +kernel, by decide +kernel⟩
theorem ck7 : chkSs ["_law_script", "_law_at", "_law_many", "_law_cell", "_law_seed", "_law_row", "_law_mark"] (defScope (top 13)) G b7 (defBody (top 13)) = true := by decide +kernel
theorem sc8 : FnScope ["_law_one", "_law_two"] ["_law_one", "_law_two"] (defScope (top 14)) := ⟨rfl, rfl, rfl, by decide +kernel, rfl, by decide +kernel, by decide +kernel⟩
theorem ck8 : chkSs ["_law_one", "_law_two"] (defScope (top 14)) G b8 (defBody (top 14)) = true := by decide +kernel
theorem sc9 : FnScope ["_law_turn", "_law_x", "_law_y"] ["_law_turn", "_law_x", "_law_y"] (defScope (top 15)) := ⟨rfl, rfl, rfl, by decide +kernel, rfl, by decide +kernel, by decide +kernel⟩
theorem ck9 : chkSs ["_law_turn", "_law_x", "_law_y"] (defScope (top 15)) G b9 (defBody (top 15)) = true := by decide +kernel
theorem sc10 : FnScope ["_law_motion_here", "_law_place", "_law_x", "_law_y"] ["_law_motion_here", "_law_place"] (defScope (top 16)) := ⟨rfl, rfl, rfl, by decide +kernel, rfl, by decide +kernel, by decide +kernel⟩
theorem ck10 : chkSs ["_law_motion_here", "_law_place", "_law_x", "_law_y"] (defScope (top 16)) G b10 (defBody (top 16)) = true := by decide +kernel
theorem sc11 : FnScope ["_law_d", "_law_at"] ["_law_d", "_law_at"] (defScope (top 17)) := ⟨rfl, rfl, rfl, by decide +kernel, rfl, by decide +kernel, by decide +kernel⟩
theorem ck11 : chkSs ["_law_d", "_law_at"] (defScope (top 17)) G b11 (defBody (top 17)) = true := by decide +kernel
theorem sc12 : FnScope ["_law_found", "_law_due", "_law_k"] ["_law_found", "_law_due"] (defScope (top 18)) := ⟨rfl, rfl, rfl, by decide +kernel, rfl, by decide +kernel, by decide +kernel⟩
theorem ck12 : chkSs ["_law_found", "_law_due", "_law_k"] (defScope (top 18)) G b12 (defBody (top 18)) = true := by decide +kernel
theorem sc13 : FnScope ["_law_found", "_law_part"] ["_law_found"] (defScope (top 19)) := ⟨rfl, rfl, rfl, by decide +kernel, rfl, by decide +kernel, by decide +kernel⟩
theorem ck13 : chkSs ["_law_found", "_law_part"] (defScope (top 19)) G b13 (defBody (top 19)) = true := by decide +kernel
theorem sc14 : FnScope ["_law_script", "_law_row", "_law_d", "_law_start", "_law_cut", "_law_place", "_law_all_of_them", "_law_home", "_law_parts", "_law_k"] ["_law_script"] (defScope (top 20)) := ⟨rfl, rfl, rfl, by decide +kernel, rfl, by decide +kernel, by decide +kernel⟩
theorem ck14 : chkSs ["_law_script", "_law_row", "_law_d", "_law_start", "_law_cut", "_law_place", "_law_all_of_them", "_law_home", "_law_parts", "_law_k"] (defScope (top 20)) G b14 (defBody (top 20)) = true := by decide +kernel
set_option maxHeartbeats 0 in
theorem all_mk {K : PySem.W.Frag} {h : Heap} {mg : Str → Option Value} {fa : Addr} (X : K.In h) (Gn : h.Ns mainGlobals mg) (hfa : mg "law" = some (.ref fa))
    {f0 : Addr} {oc0 kV0 dc0 pm0 cd0 ct0 : Value} {od0 an0 : Option Addr} {sl0 : Array (Option Value)} {f1 : Addr} {oc1 kV1 dc1 pm1 cd1 ct1 : Value} {od1 an1 : Option Addr} {sl1 : Array (Option Value)} {f2 : Addr} {oc2 kV2 dc2 pm2 cd2 ct2 : Value} {od2 an2 : Option Addr} {sl2 : Array (Option Value)} {f3 : Addr} {oc3 kV3 dc3 pm3 cd3 ct3 : Value} {od3 an3 : Option Addr} {sl3 : Array (Option Value)} {f4 : Addr} {oc4 kV4 dc4 pm4 cd4 ct4 : Value} {od4 an4 : Option Addr} {sl4 : Array (Option Value)} {f5 : Addr} {oc5 kV5 dc5 pm5 cd5 ct5 : Value} {od5 an5 : Option Addr} {sl5 : Array (Option Value)} {f6 : Addr} {oc6 kV6 dc6 pm6 cd6 ct6 : Value} {od6 an6 : Option Addr} {sl6 : Array (Option Value)} {f7 : Addr} {oc7 kV7 dc7 pm7 cd7 ct7 : Value} {od7 an7 : Option Addr} {sl7 : Array (Option Value)} {f8 : Addr} {oc8 kV8 dc8 pm8 cd8 ct8 : Value} {od8 an8 : Option Addr} {sl8 : Array (Option Value)} {f9 : Addr} {oc9 kV9 dc9 pm9 cd9 ct9 : Value} {od9 an9 : Option Addr} {sl9 : Array (Option Value)} {f10 : Addr} {oc10 kV10 dc10 pm10 cd10 ct10 : Value} {od10 an10 : Option Addr} {sl10 : Array (Option Value)} {f11 : Addr} {oc11 kV11 dc11 pm11 cd11 ct11 : Value} {od11 an11 : Option Addr} {sl11 : Array (Option Value)} {f12 : Addr} {oc12 kV12 dc12 pm12 cd12 ct12 : Value} {od12 an12 : Option Addr} {sl12 : Array (Option Value)} {f13 : Addr} {oc13 kV13 dc13 pm13 cd13 ct13 : Value} {od13 an13 : Option Addr} {sl13 : Array (Option Value)} {f14 : Addr} {oc14 kV14 dc14 pm14 cd14 ct14 : Value} {od14 an14 : Option Addr} {sl14 : Array (Option Value)} {t0 : Addr} {td0 : Option Addr} {ts0 : Array (Option Value)} {tn0 : Nat} {u1 : Tok} {u2 : Tok} {u3 : Tok} {t4 : Addr} {td4 : Option Addr} {ts4 : Array (Option Value)} {tn4 : Nat} {u5 : Tok} {u6 : Tok} {t7 : Addr} {td7 : Option Addr} {ts7 : Array (Option Value)} {tn7 : Nat} {t8 : Addr} {td8 : Option Addr} {ts8 : Array (Option Value)} {tn8 : Nat} {u9 : Tok} {u10 : Tok} {u11 : Tok} {u12 : Tok} {t13 : Addr} {td13 : Option Addr} {ts13 : Array (Option Value)} {tn13 : Nat} {u14 : Tok} {u15 : Tok} {u16 : Tok} {u17 : Tok} {t18 : Addr} {td18 : Option Addr} {ts18 : Array (Option Value)} {tn18 : Nat} {u19 : Tok} {u20 : Tok} {u21 : Tok} {u22 : Tok} {t23 : Addr} {td23 : Option Addr} {ts23 : Array (Option Value)} {tn23 : Nat} {u24 : Tok} {u25 : Tok} {u26 : Tok} {u27 : Tok} {t28 : Addr} {td28 : Option Addr} {ts28 : Array (Option Value)} {tn28 : Nat} {u29 : Tok} {u30 : Tok} {u31 : Tok} {u32 : Tok} {t33 : Addr} {td33 : Option Addr} {ts33 : Array (Option Value)} {tn33 : Nat} {u34 : Tok} {u35 : Tok} {u36 : Tok} {u37 : Tok} {t38 : Addr} {td38 : Option Addr} {ts38 : Array (Option Value)} {tn38 : Nat} {u39 : Tok} {u40 : Tok} {u41 : Tok} {u42 : Tok} {t43 : Addr} {td43 : Option Addr} {ts43 : Array (Option Value)} {tn43 : Nat} {u44 : Tok} {u45 : Tok} {u46 : Tok} {u47 : Tok} {u48 : Tok}
    (fa0 : PySem.W.nsIn K mainGlobals "turned" = some (some (.ref f0)))
    (fl0 : K.lookup f0 = some ⟨oc0, od0, .func (PySem.W.fnOf "turned" "turned" (defArgs (top 5)) (defBody (top 5)) (defScope (top 5)) .none kV0 dc0 pm0 an0 cd0 ct0), sl0⟩)
    (fc0 : PySem.W.codeIn K cd0 "turned" = true)
    (fk0 : PySem.W.keepIn K (.ref f0) = true)
    (fa1 : PySem.W.nsIn K mainGlobals "turn_behind" = some (some (.ref f1)))
    (fl1 : K.lookup f1 = some ⟨oc1, od1, .func (PySem.W.fnOf "turn_behind" "turn_behind" (defArgs (top 6)) (defBody (top 6)) (defScope (top 6)) .none kV1 dc1 pm1 an1 cd1 ct1), sl1⟩)
    (fc1 : PySem.W.codeIn K cd1 "turn_behind" = true)
    (fk1 : PySem.W.keepIn K (.ref f1) = true)
    (fa2 : PySem.W.nsIn K mainGlobals "turn_back" = some (some (.ref f2)))
    (fl2 : K.lookup f2 = some ⟨oc2, od2, .func (PySem.W.fnOf "turn_back" "turn_back" (defArgs (top 7)) (defBody (top 7)) (defScope (top 7)) .none kV2 dc2 pm2 an2 cd2 ct2), sl2⟩)
    (fc2 : PySem.W.codeIn K cd2 "turn_back" = true)
    (fk2 : PySem.W.keepIn K (.ref f2) = true)
    (fa3 : PySem.W.nsIn K mainGlobals "moved" = some (some (.ref f3)))
    (fl3 : K.lookup f3 = some ⟨oc3, od3, .func (PySem.W.fnOf "moved" "moved" (defArgs (top 8)) (defBody (top 8)) (defScope (top 8)) .none kV3 dc3 pm3 an3 cd3 ct3), sl3⟩)
    (fc3 : PySem.W.codeIn K cd3 "moved" = true)
    (fk3 : PySem.W.keepIn K (.ref f3) = true)
    (fa4 : PySem.W.nsIn K mainGlobals "leading" = some (some (.ref f4)))
    (fl4 : K.lookup f4 = some ⟨oc4, od4, .func (PySem.W.fnOf "leading" "leading" (defArgs (top 9)) (defBody (top 9)) (defScope (top 9)) .none kV4 dc4 pm4 an4 cd4 ct4), sl4⟩)
    (fc4 : PySem.W.codeIn K cd4 "leading" = true)
    (fk4 : PySem.W.keepIn K (.ref f4) = true)
    (fa5 : PySem.W.nsIn K mainGlobals "behind" = some (some (.ref f5)))
    (fl5 : K.lookup f5 = some ⟨oc5, od5, .func (PySem.W.fnOf "behind" "behind" (defArgs (top 10)) (defBody (top 10)) (defScope (top 10)) .none kV5 dc5 pm5 an5 cd5 ct5), sl5⟩)
    (fc5 : PySem.W.codeIn K cd5 "behind" = true)
    (fk5 : PySem.W.keepIn K (.ref f5) = true)
    (fa6 : PySem.W.nsIn K mainGlobals "back" = some (some (.ref f6)))
    (fl6 : K.lookup f6 = some ⟨oc6, od6, .func (PySem.W.fnOf "back" "back" (defArgs (top 11)) (defBody (top 11)) (defScope (top 11)) .none kV6 dc6 pm6 an6 cd6 ct6), sl6⟩)
    (fc6 : PySem.W.codeIn K cd6 "back" = true)
    (fk6 : PySem.W.keepIn K (.ref f6) = true)
    (fa7 : PySem.W.nsIn K mainGlobals "_law_draws" = some (some (.ref f7)))
    (fl7 : K.lookup f7 = some ⟨oc7, od7, .func (PySem.W.fnOf "_law_draws" "_law_draws" (defArgs (top 13)) (defBody (top 13)) (defScope (top 13)) .none kV7 dc7 pm7 an7 cd7 ct7), sl7⟩)
    (fc7 : PySem.W.codeIn K cd7 "_law_draws" = true)
    (fk7 : PySem.W.keepIn K (.ref f7) = true)
    (fa8 : PySem.W.nsIn K mainGlobals "_law_far" = some (some (.ref f8)))
    (fl8 : K.lookup f8 = some ⟨oc8, od8, .func (PySem.W.fnOf "_law_far" "_law_far" (defArgs (top 14)) (defBody (top 14)) (defScope (top 14)) .none kV8 dc8 pm8 an8 cd8 ct8), sl8⟩)
    (fc8 : PySem.W.codeIn K cd8 "_law_far" = true)
    (fk8 : PySem.W.keepIn K (.ref f8) = true)
    (fa9 : PySem.W.nsIn K mainGlobals "_law_turned" = some (some (.ref f9)))
    (fl9 : K.lookup f9 = some ⟨oc9, od9, .func (PySem.W.fnOf "_law_turned" "_law_turned" (defArgs (top 15)) (defBody (top 15)) (defScope (top 15)) .none kV9 dc9 pm9 an9 cd9 ct9), sl9⟩)
    (fc9 : PySem.W.codeIn K cd9 "_law_turned" = true)
    (fk9 : PySem.W.keepIn K (.ref f9) = true)
    (fa10 : PySem.W.nsIn K mainGlobals "_law_moved" = some (some (.ref f10)))
    (fl10 : K.lookup f10 = some ⟨oc10, od10, .func (PySem.W.fnOf "_law_moved" "_law_moved" (defArgs (top 16)) (defBody (top 16)) (defScope (top 16)) .none kV10 dc10 pm10 an10 cd10 ct10), sl10⟩)
    (fc10 : PySem.W.codeIn K cd10 "_law_moved" = true)
    (fk10 : PySem.W.keepIn K (.ref f10) = true)
    (fa11 : PySem.W.nsIn K mainGlobals "_law_motion" = some (some (.ref f11)))
    (fl11 : K.lookup f11 = some ⟨oc11, od11, .func (PySem.W.fnOf "_law_motion" "_law_motion" (defArgs (top 17)) (defBody (top 17)) (defScope (top 17)) .none kV11 dc11 pm11 an11 cd11 ct11), sl11⟩)
    (fc11 : PySem.W.codeIn K cd11 "_law_motion" = true)
    (fk11 : PySem.W.keepIn K (.ref f11) = true)
    (fa12 : PySem.W.nsIn K mainGlobals "_law_same" = some (some (.ref f12)))
    (fl12 : K.lookup f12 = some ⟨oc12, od12, .func (PySem.W.fnOf "_law_same" "_law_same" (defArgs (top 18)) (defBody (top 18)) (defScope (top 18)) .none kV12 dc12 pm12 an12 cd12 ct12), sl12⟩)
    (fc12 : PySem.W.codeIn K cd12 "_law_same" = true)
    (fk12 : PySem.W.keepIn K (.ref f12) = true)
    (fa13 : PySem.W.nsIn K mainGlobals "_law_is_motion" = some (some (.ref f13)))
    (fl13 : K.lookup f13 = some ⟨oc13, od13, .func (PySem.W.fnOf "_law_is_motion" "_law_is_motion" (defArgs (top 19)) (defBody (top 19)) (defScope (top 19)) .none kV13 dc13 pm13 an13 cd13 ct13), sl13⟩)
    (fc13 : PySem.W.codeIn K cd13 "_law_is_motion" = true)
    (fk13 : PySem.W.keepIn K (.ref f13) = true)
    (fa14 : PySem.W.nsIn K mainGlobals "law" = some (some (.ref f14)))
    (fl14 : K.lookup f14 = some ⟨oc14, od14, .func (PySem.W.fnOf "law" "law" (defArgs (top 20)) (defBody (top 20)) (defScope (top 20)) .none kV14 dc14 pm14 an14 cd14 ct14), sl14⟩)
    (fc14 : PySem.W.codeIn K cd14 "law" = true)
    (fk14 : PySem.W.keepIn K (.ref f14) = true)
    (ga0 : PySem.W.nsIn K mainGlobals "STILL" = some (some (.ref t0)))
    (tt0 : K.lookup t0 = some ⟨.type "tuple", td0, .seq #[.int (0) u1, .int (0) u2, .int (0) u3] tn0, ts0⟩)
    (ga1 : PySem.W.nsIn K mainGlobals "ORIGIN" = some (some (.ref t4)))
    (tt4 : K.lookup t4 = some ⟨.type "tuple", td4, .seq #[.int (0) u5, .int (0) u6] tn4, ts4⟩)
    (ga2 : PySem.W.nsIn K mainGlobals "TURNS" = some (some (.ref t7)))
    (tt7 : K.lookup t7 = some ⟨.type "tuple", td7, .seq #[.ref t8, .ref t13, .ref t18, .ref t23, .ref t28, .ref t33, .ref t38, .ref t43] tn7, ts7⟩)
    (tt8 : K.lookup t8 = some ⟨.type "tuple", td8, .seq #[.int (1) u9, .int (0) u10, .int (0) u11, .int (1) u12] tn8, ts8⟩)
    (tt13 : K.lookup t13 = some ⟨.type "tuple", td13, .seq #[.int (0) u14, .int (-1) u15, .int (1) u16, .int (0) u17] tn13, ts13⟩)
    (tt18 : K.lookup t18 = some ⟨.type "tuple", td18, .seq #[.int (-1) u19, .int (0) u20, .int (0) u21, .int (-1) u22] tn18, ts18⟩)
    (tt23 : K.lookup t23 = some ⟨.type "tuple", td23, .seq #[.int (0) u24, .int (1) u25, .int (-1) u26, .int (0) u27] tn23, ts23⟩)
    (tt28 : K.lookup t28 = some ⟨.type "tuple", td28, .seq #[.int (-1) u29, .int (0) u30, .int (0) u31, .int (1) u32] tn28, ts28⟩)
    (tt33 : K.lookup t33 = some ⟨.type "tuple", td33, .seq #[.int (0) u34, .int (-1) u35, .int (-1) u36, .int (0) u37] tn33, ts33⟩)
    (tt38 : K.lookup t38 = some ⟨.type "tuple", td38, .seq #[.int (1) u39, .int (0) u40, .int (0) u41, .int (-1) u42] tn38, ts38⟩)
    (tt43 : K.lookup t43 = some ⟨.type "tuple", td43, .seq #[.int (0) u44, .int (1) u45, .int (1) u46, .int (0) u47] tn43, ts43⟩)
    (ga3 : PySem.W.nsIn K mainGlobals "MIRRORED" = some (some (.int (4) u48)))
    (z_len : PySem.W.nsIn K mainGlobals "len" = some none)
    (z_isinstance : PySem.W.nsIn K mainGlobals "isinstance" = some none)
    (z_int : PySem.W.nsIn K mainGlobals "int" = some none)
    (z_list : PySem.W.nsIn K mainGlobals "list" = some none)
    (z_bool : PySem.W.nsIn K mainGlobals "bool" = some none)
    (z_str : PySem.W.nsIn K mainGlobals "str" = some none)
    (z_tuple : PySem.W.nsIn K mainGlobals "tuple" = some none)
    (z_range : PySem.W.nsIn K mainGlobals "range" = some none)
    : PrOk K mg G T ∧ ∃ fd : FuncData, (∀ (s : Shared) (u : Value), BindsTo s fd ⟨[u], []⟩ [("_law_script", u)]) ∧ ∃ c st N qual, T 14 = some c ∧ Fun K "law" qual st fa fd ∧ FnScope N ["_law_script"] (defScope st) ∧ 1 = c.np ∧ N.length = c.ns ∧ chkSs N (defScope st) G c.body (defBody st) = true := by
  have e := hfa.symm.trans (PySem.W.mg_of X Gn fa14)
  cases e
  have F0 := fun_mk (st := top 5) fl0 fc0 fk0
  have B0 := F0.binds (ps := ["turn", "place"]) fun _ _ _ _ _ _ us hl => match us, hl with | [_, _], _ => rfl
  have F1 := fun_mk (st := top 6) fl1 fc1 fk1
  have B1 := F1.binds (ps := ["first", "second"]) fun _ _ _ _ _ _ us hl => match us, hl with | [_, _], _ => rfl
  have F2 := fun_mk (st := top 7) fl2 fc2 fk2
  have B2 := F2.binds (ps := ["turn"]) fun _ _ _ _ _ _ us hl => match us, hl with | [_], _ => rfl
  have F3 := fun_mk (st := top 8) fl3 fc3 fk3
  have B3 := F3.binds (ps := ["motion", "place"]) fun _ _ _ _ _ _ us hl => match us, hl with | [_, _], _ => rfl
  have F4 := fun_mk (st := top 9) fl4 fc4 fk4
  have B4 := F4.binds (ps := ["turn", "place", "goal"]) fun _ _ _ _ _ _ us hl => match us, hl with | [_, _, _], _ => rfl
  have F5 := fun_mk (st := top 10) fl5 fc5 fk5
  have B5 := F5.binds (ps := ["first", "second"]) fun _ _ _ _ _ _ us hl => match us, hl with | [_, _], _ => rfl
  have F6 := fun_mk (st := top 11) fl6 fc6 fk6
  have B6 := F6.binds (ps := ["motion"]) fun _ _ _ _ _ _ us hl => match us, hl with | [_], _ => rfl
  have F7 := fun_mk (st := top 13) fl7 fc7 fk7
  have B7 := F7.binds (ps := ["_law_script", "_law_at", "_law_many"]) fun _ _ _ _ _ _ us hl => match us, hl with | [_, _, _], _ => rfl
  have F8 := fun_mk (st := top 14) fl8 fc8 fk8
  have B8 := F8.binds (ps := ["_law_one", "_law_two"]) fun _ _ _ _ _ _ us hl => match us, hl with | [_, _], _ => rfl
  have F9 := fun_mk (st := top 15) fl9 fc9 fk9
  have B9 := F9.binds (ps := ["_law_turn", "_law_x", "_law_y"]) fun _ _ _ _ _ _ us hl => match us, hl with | [_, _, _], _ => rfl
  have F10 := fun_mk (st := top 16) fl10 fc10 fk10
  have B10 := F10.binds (ps := ["_law_motion_here", "_law_place"]) fun _ _ _ _ _ _ us hl => match us, hl with | [_, _], _ => rfl
  have F11 := fun_mk (st := top 17) fl11 fc11 fk11
  have B11 := F11.binds (ps := ["_law_d", "_law_at"]) fun _ _ _ _ _ _ us hl => match us, hl with | [_, _], _ => rfl
  have F12 := fun_mk (st := top 18) fl12 fc12 fk12
  have B12 := F12.binds (ps := ["_law_found", "_law_due"]) fun _ _ _ _ _ _ us hl => match us, hl with | [_, _], _ => rfl
  have F13 := fun_mk (st := top 19) fl13 fc13 fk13
  have B13 := F13.binds (ps := ["_law_found"]) fun _ _ _ _ _ _ us hl => match us, hl with | [_], _ => rfl
  have F14 := fun_mk (st := top 20) fl14 fc14 fk14
  have B14 := F14.binds (ps := ["_law_script"]) fun _ _ _ _ _ _ us hl => match us, hl with | [_], _ => rfl
  refine ⟨⟨fun f x hf => ?_, fun g x d hg => ?_, fun b => ?_, fun t => ?_, PySem.W.mg_none_of X Gn z_range⟩, ?_⟩
  · match f, hf with
    | 0, hf => cases hf; exact ⟨_, rfl, _, _, _, _, _, _, F0, sc0, rfl, rfl, B0, PySem.W.mg_of X Gn fa0, ck0⟩
    | 1, hf => cases hf; exact ⟨_, rfl, _, _, _, _, _, _, F1, sc1, rfl, rfl, B1, PySem.W.mg_of X Gn fa1, ck1⟩
    | 2, hf => cases hf; exact ⟨_, rfl, _, _, _, _, _, _, F2, sc2, rfl, rfl, B2, PySem.W.mg_of X Gn fa2, ck2⟩
    | 3, hf => cases hf; exact ⟨_, rfl, _, _, _, _, _, _, F3, sc3, rfl, rfl, B3, PySem.W.mg_of X Gn fa3, ck3⟩
    | 4, hf => cases hf; exact ⟨_, rfl, _, _, _, _, _, _, F4, sc4, rfl, rfl, B4, PySem.W.mg_of X Gn fa4, ck4⟩
    | 5, hf => cases hf; exact ⟨_, rfl, _, _, _, _, _, _, F5, sc5, rfl, rfl, B5, PySem.W.mg_of X Gn fa5, ck5⟩
    | 6, hf => cases hf; exact ⟨_, rfl, _, _, _, _, _, _, F6, sc6, rfl, rfl, B6, PySem.W.mg_of X Gn fa6, ck6⟩
    | 7, hf => cases hf; exact ⟨_, rfl, _, _, _, _, _, _, F7, sc7, rfl, rfl, B7, PySem.W.mg_of X Gn fa7, ck7⟩
    | 8, hf => cases hf; exact ⟨_, rfl, _, _, _, _, _, _, F8, sc8, rfl, rfl, B8, PySem.W.mg_of X Gn fa8, ck8⟩
    | 9, hf => cases hf; exact ⟨_, rfl, _, _, _, _, _, _, F9, sc9, rfl, rfl, B9, PySem.W.mg_of X Gn fa9, ck9⟩
    | 10, hf => cases hf; exact ⟨_, rfl, _, _, _, _, _, _, F10, sc10, rfl, rfl, B10, PySem.W.mg_of X Gn fa10, ck10⟩
    | 11, hf => cases hf; exact ⟨_, rfl, _, _, _, _, _, _, F11, sc11, rfl, rfl, B11, PySem.W.mg_of X Gn fa11, ck11⟩
    | 12, hf => cases hf; exact ⟨_, rfl, _, _, _, _, _, _, F12, sc12, rfl, rfl, B12, PySem.W.mg_of X Gn fa12, ck12⟩
    | 13, hf => cases hf; exact ⟨_, rfl, _, _, _, _, _, _, F13, sc13, rfl, rfl, B13, PySem.W.mg_of X Gn fa13, ck13⟩
    | 14, hf => cases hf; exact ⟨_, rfl, _, _, _, _, _, _, F14, sc14, rfl, rfl, B14, PySem.W.mg_of X Gn fa14, ck14⟩
    | _ + 15, hf => cases hf
  · match g, hg with
    | 0, hg => cases hg; exact ⟨V.ref t0, _, PySem.W.mg_of X Gn ga0, rfl, fun m H => cstT (vs := [V.int (0), V.int (0), V.int (0)]) tt0 (by show 3 ≤ sizeLine; decide) (.cons ⟨_, rfl⟩ (.cons ⟨_, rfl⟩ (.cons ⟨_, rfl⟩ .nil))) (.cons (RD.int _) (.cons (RD.int _) (.cons (RD.int _) .nil)))⟩
    | 1, hg => cases hg; exact ⟨V.ref t4, _, PySem.W.mg_of X Gn ga1, rfl, fun m H => cstT (vs := [V.int (0), V.int (0)]) tt4 (by show 2 ≤ sizeLine; decide) (.cons ⟨_, rfl⟩ (.cons ⟨_, rfl⟩ .nil)) (.cons (RD.int _) (.cons (RD.int _) .nil))⟩
    | 2, hg => cases hg; exact ⟨V.ref t7, _, PySem.W.mg_of X Gn ga2, rfl, fun m H => cstT (vs := [V.ref t8, V.ref t13, V.ref t18, V.ref t23, V.ref t28, V.ref t33, V.ref t38, V.ref t43]) tt7 (by show 8 ≤ sizeLine; decide) (.cons rfl (.cons rfl (.cons rfl (.cons rfl (.cons rfl (.cons rfl (.cons rfl (.cons rfl .nil)))))))) (.cons (cstT (vs := [V.int (1), V.int (0), V.int (0), V.int (1)]) tt8 (by show 4 ≤ sizeLine; decide) (.cons ⟨_, rfl⟩ (.cons ⟨_, rfl⟩ (.cons ⟨_, rfl⟩ (.cons ⟨_, rfl⟩ .nil)))) (.cons (RD.int _) (.cons (RD.int _) (.cons (RD.int _) (.cons (RD.int _) .nil))))) (.cons (cstT (vs := [V.int (0), V.int (-1), V.int (1), V.int (0)]) tt13 (by show 4 ≤ sizeLine; decide) (.cons ⟨_, rfl⟩ (.cons ⟨_, rfl⟩ (.cons ⟨_, rfl⟩ (.cons ⟨_, rfl⟩ .nil)))) (.cons (RD.int _) (.cons (RD.int _) (.cons (RD.int _) (.cons (RD.int _) .nil))))) (.cons (cstT (vs := [V.int (-1), V.int (0), V.int (0), V.int (-1)]) tt18 (by show 4 ≤ sizeLine; decide) (.cons ⟨_, rfl⟩ (.cons ⟨_, rfl⟩ (.cons ⟨_, rfl⟩ (.cons ⟨_, rfl⟩ .nil)))) (.cons (RD.int _) (.cons (RD.int _) (.cons (RD.int _) (.cons (RD.int _) .nil))))) (.cons (cstT (vs := [V.int (0), V.int (1), V.int (-1), V.int (0)]) tt23 (by show 4 ≤ sizeLine; decide) (.cons ⟨_, rfl⟩ (.cons ⟨_, rfl⟩ (.cons ⟨_, rfl⟩ (.cons ⟨_, rfl⟩ .nil)))) (.cons (RD.int _) (.cons (RD.int _) (.cons (RD.int _) (.cons (RD.int _) .nil))))) (.cons (cstT (vs := [V.int (-1), V.int (0), V.int (0), V.int (1)]) tt28 (by show 4 ≤ sizeLine; decide) (.cons ⟨_, rfl⟩ (.cons ⟨_, rfl⟩ (.cons ⟨_, rfl⟩ (.cons ⟨_, rfl⟩ .nil)))) (.cons (RD.int _) (.cons (RD.int _) (.cons (RD.int _) (.cons (RD.int _) .nil))))) (.cons (cstT (vs := [V.int (0), V.int (-1), V.int (-1), V.int (0)]) tt33 (by show 4 ≤ sizeLine; decide) (.cons ⟨_, rfl⟩ (.cons ⟨_, rfl⟩ (.cons ⟨_, rfl⟩ (.cons ⟨_, rfl⟩ .nil)))) (.cons (RD.int _) (.cons (RD.int _) (.cons (RD.int _) (.cons (RD.int _) .nil))))) (.cons (cstT (vs := [V.int (1), V.int (0), V.int (0), V.int (-1)]) tt38 (by show 4 ≤ sizeLine; decide) (.cons ⟨_, rfl⟩ (.cons ⟨_, rfl⟩ (.cons ⟨_, rfl⟩ (.cons ⟨_, rfl⟩ .nil)))) (.cons (RD.int _) (.cons (RD.int _) (.cons (RD.int _) (.cons (RD.int _) .nil))))) (.cons (cstT (vs := [V.int (0), V.int (1), V.int (1), V.int (0)]) tt43 (by show 4 ≤ sizeLine; decide) (.cons ⟨_, rfl⟩ (.cons ⟨_, rfl⟩ (.cons ⟨_, rfl⟩ (.cons ⟨_, rfl⟩ .nil)))) (.cons (RD.int _) (.cons (RD.int _) (.cons (RD.int _) (.cons (RD.int _) .nil))))) .nil))))))))⟩
    | 3, hg => cases hg; exact ⟨V.int (4), _, PySem.W.mg_of X Gn ga3, ⟨_, rfl⟩, fun m H => RD.int _⟩
    | _ + 4, hg => cases hg
  · cases b
    · exact PySem.W.mg_none_of X Gn z_len
    · exact PySem.W.mg_none_of X Gn z_isinstance
    · exact PySem.W.mg_none_of X Gn z_int
    · exact PySem.W.mg_none_of X Gn z_list
  · cases t
    · exact PySem.W.mg_none_of X Gn z_int
    · exact PySem.W.mg_none_of X Gn z_bool
    · exact PySem.W.mg_none_of X Gn z_str
    · exact PySem.W.mg_none_of X Gn z_tuple
    · exact PySem.W.mg_none_of X Gn z_list
  · exact ⟨_, fun s v => .of_eq rfl, _, _, _, _, rfl, F14, sc14, rfl, rfl, ck14⟩
end Pk05

namespace Pk05
open PySem L2 Ng
def W : Nat := 100000
theorem turned_ok (n : Nat) (t x y : Int) (h : Hh) (h0 : 0 ≤ t) (h1 : t < 8) : callD G T W (n + 1) 0 [.int t, .tup [.int x, .int y]] h = .ok (.tup [.int (tx t x y), .int (ty t x y)]) h := by
  have m0 : ∀ z : Int, binD .mul (.int 0) (.int z) h = .ok (.int (0 * z)) h := fun z => bMulL h (by omega) (by omega)
  have m1 : ∀ z : Int, binD .mul (.int 1) (.int z) h = .ok (.int (1 * z)) h := fun z => bMulL h (by omega) (by omega)
  have m2 : ∀ z : Int, binD .mul (.int (-1)) (.int z) h = .ok (.int ((-1) * z)) h := fun z => bMulL h (by omega) (by omega)
  rw [call_eq (c := ⟨2, 8, b0⟩) rfl rfl]
  rcases t8 h0 h1 with rfl | rfl | rfl | rfl | rfl | rfl | rfl | rfl <;> simp [b0, gc0, gc1, gc2, gc3, atI, ixN, m0, m1, m2, tx, ty]

theorem tbeh_ok (n : Nat) (a b : Int) (h : Hh) : callD G T W (n + 1) 1 [.int a, .int b] h = .ok (.int (tbh a b)) h := by
  have q4 : ∀ x : Int, binD .mod (.int x) (.int 4) h = .ok (.int (x % 4)) h := fun x => bMod h (by omega)
  rw [call_eq (c := ⟨2, 4, b1⟩) rfl rfl]
  by_cases ha : 4 ≤ a <;> by_cases hb : 4 ≤ b <;> simp [b1, gc0, gc1, gc2, gc3, tbh, q4, ha, hb]

theorem tback_ok (n : Nat) (t : Int) (h : Hh) (h0 : 0 ≤ t) (h1 : t < 8) : callD G T W (n + 1) 2 [.int t] h = .ok (.int (tb t)) h := by
  have q4 : ∀ x : Int, binD .mod (.int x) (.int 4) h = .ok (.int (x % 4)) h := fun x => bMod h (by omega)
  rw [call_eq (c := ⟨1, 1, b2⟩) rfl rfl]
  rcases t8 h0 h1 with rfl | rfl | rfl | rfl | rfl | rfl | rfl | rfl <;> simp [b2, gc0, gc1, gc2, gc3, tb, q4]

theorem moved_ok (n : Nat) (t p q x y : Int) (h : Hh) (h0 : 0 ≤ t) (h1 : t < 8) : callD G T W (n + 2) 3 [.tup [.int t, .int p, .int q], .tup [.int x, .int y]] h = .ok (.tup [.int (tx t x y + p), .int (ty t x y + q)]) h := by
  rw [call_eq (c := ⟨2, 7, b3⟩) rfl rfl]
  simp [b3, turned_ok n t x y h h0 h1]

theorem leading_ok (n : Nat) (t x y a b : Int) (h : Hh) (h0 : 0 ≤ t) (h1 : t < 8) : callD G T W (n + 2) 4 [.int t, .tup [.int x, .int y], .tup [.int a, .int b]] h = .ok (.tup [.int t, .int (a - tx t x y), .int (b - ty t x y)]) h := by
  rw [call_eq (c := ⟨3, 7, b4⟩) rfl rfl]
  simp [b4, turned_ok n t x y h h0 h1]

theorem behind_ok (n : Nat) (t p q u r s : Int) (h : Hh) (h0 : 0 ≤ t) (h1 : t < 8) (h2 : 0 ≤ u) (h3 : u < 8) : callD G T W (n + 3) 5 [.tup [.int t, .int p, .int q], .tup [.int u, .int r, .int s]] h
    = .ok (.tup [.int (tbh t u), .int (tx u (tx t 0 0 + p) (ty t 0 0 + q) + r - tx (tbh t u) 0 0), .int (ty u (tx t 0 0 + p) (ty t 0 0 + q) + s - ty (tbh t u) 0 0)]) h := by
  rw [call_eq (c := ⟨2, 3, b5⟩) rfl rfl]
  obtain ⟨b0, b1⟩ := tbh_in t u
  have e1 : callD G T W (n + 2) _ _ h = _ := tbeh_ok (n + 1) t u h
  have e2 := moved_ok n t p q 0 0 h h0 h1
  have e3 := moved_ok n u r s (tx t 0 0 + p) (ty t 0 0 + q) h h2 h3
  have e4 := leading_ok n (tbh t u) 0 0 (tx u (tx t 0 0 + p) (ty t 0 0 + q) + r) (ty u (tx t 0 0 + p) (ty t 0 0 + q) + s) h b0 b1
  simp [b5, gc0, gc1, gc2, gc3, atI, ixN, e1, e2, e3, e4]

theorem back_ok (n : Nat) (t p q : Int) (h : Hh) (h0 : 0 ≤ t) (h1 : t < 8) : callD G T W (n + 3) 6 [.tup [.int t, .int p, .int q]] h = .ok (.tup [.int (tb t), .int (0 - tx (tb t) (tx t 0 0 + p) (ty t 0 0 + q)), .int (0 - ty (tb t) (tx t 0 0 + p) (ty t 0 0 + q))]) h := by
  rw [call_eq (c := ⟨1, 1, b6⟩) rfl rfl]
  obtain ⟨b0, b1⟩ := tb_in h0 h1
  have e1 : callD G T W (n + 2) _ _ h = _ := tback_ok (n + 1) t h h0 h1
  have e2 := moved_ok n t p q 0 0 h h0 h1
  have e3 := leading_ok n (tb t) (tx t 0 0 + p) (ty t 0 0 + q) 0 0 h b0 b1
  simp [b6, gc0, gc1, gc2, gc3, atI, ixN, e1, e2, e3]

theorem draws (n : Nat) (ns : List Int) (at' : Int) (M : Nat) (hM : M ≤ 1000) (h : Hh) (h0 : 0 ≤ at') (h1 : at' < 100000) (hs : lstAt h 0 = some (ns.map D.int)) : ∃ row : List Int, row.length = M ∧ InR row ∧ callD G T W (n + 1) 7 [.ref 0, .int at', .int M] h = .ok (.ref h.length) (h ++ [.lst (row.map D.int)]) := by
  obtain ⟨row, r1, r2, e⟩ := draws_ok G (callD G T W n) W h 0 ns at' M hM h0 h1 hs (by decide)
  refine ⟨row, r1, r2, ?_⟩
  rw [call_eq (c := ⟨3, 7, b7⟩) rfl rfl]
  have e' : xss G (callD G T W n) W b7 _ h = _ := e
  show (xss G (callD G T W n) W b7 [some (.ref 0), some (.int at'), some (.int M), none, none, none, none] h).bind endD = _
  rw [e']
  rfl

theorem far_ok (n : Nat) (a b : Int) (h : Hh) (hb : 0 ≤ b) (hb2 : b < 1013) : ∃ v : Int, callD G T W (n + 1) 8 [.int a, .int b] h = .ok (.int v) h := by
  have q1 : ∀ x : Int, binD .mod (.int x) (.int 5) h = .ok (.int (x % 5)) h := fun x => bMod h (by omega)
  have q2 : ∀ x : Int, binD .mod (.int x) (.int 13) h = .ok (.int (x % 13)) h := fun x => bMod h (by omega)
  have q3 : ∀ x : Int, binD .fdiv (.int x) (.int 5) h = .ok (.int (x / 5)) h := fun x => bDiv h (by omega) (by omega)
  have q4 : ∀ x : Int, binD .mul (.int x) (.int 1013) h = .ok (.int (x * 1013)) h := fun x => bMulR h (by omega) (by omega)
  have q5 : ∀ x : Int, binD .mul (.int (b - 506)) (.int x) h = .ok (.int ((b - 506) * x)) h := fun x => bMulL h (by omega) (by omega)
  rw [call_eq (c := ⟨2, 2, b8⟩) rfl rfl]
  by_cases h1 : a % 5 < 3
  · exact ⟨a / 5 % 13 - 6, by simp [b8, q1, q2, q3, h1]⟩
  · by_cases h2 : a % 5 = 3
    · exact ⟨a * 1013 + b - 513000, by simp [b8, q1, q2, q3, q4, h1, h2]⟩
    · exact ⟨(b - 506) * 1000000000000000000000000000 + a, by simp [b8, q1, q2, q3, q4, q5, h1, h2]⟩

theorem lturned_ok (n : Nat) (t x y : Int) (h : Hh) (h0 : 0 ≤ t) (h1 : t < 8) : ∃ g, callD G T W (n + 1) 9 [.int t, .int x, .int y] h = .ok (.tup [.int (tx t x y), .int (ty t x y)]) (h ++ g) := by
  rw [call_eq (c := ⟨3, 3, b9⟩) rfl rfl]
  refine ⟨[.lst [.tup [.int x, .int y], .tup [.int (-y), .int x], .tup [.int (-x), .int (-y)], .tup [.int y, .int (-x)], .tup [.int (-x), .int y], .tup [.int (-y), .int (-x)], .tup [.int x, .int (-y)], .tup [.int y, .int x]]], ?_⟩
  rcases t8 h0 h1 with rfl | rfl | rfl | rfl | rfl | rfl | rfl | rfl <;> simp [b9, atI, ixN, tx, ty]

theorem lmoved_ok (n : Nat) (t p q x y : Int) (h : Hh) (h0 : 0 ≤ t) (h1 : t < 8) : ∃ g, callD G T W (n + 2) 10 [.tup [.int t, .int p, .int q], .tup [.int x, .int y]] h = .ok (.tup [.int (tx t x y + p), .int (ty t x y + q)]) (h ++ g) := by
  obtain ⟨g, e⟩ := lturned_ok n t x y h h0 h1
  refine ⟨g, ?_⟩
  rw [call_eq (c := ⟨2, 4, b10⟩) rfl rfl]
  simp [b10, atI, ixN, e]

theorem lmotion_ok (n k : Nat) (l : List Int) (at' : Nat) (a0 a1 a2 a3 a4 : Int) (h : Hh) (hl : lstAt h k = some (l.map D.int)) (e0 : l[at']? = some a0) (e1 : l[at' + 1]? = some a1) (e2 : l[at' + 2]? = some a2) (e3 : l[at' + 3]? = some a3) (e4 : l[at' + 4]? = some a4) (hr : InR l) :
    ∃ t p q : Int, 0 ≤ t ∧ t < 8 ∧ callD G T W (n + 2) 11 [.ref k, .int at'] h = .ok (.tup [.int t, .int p, .int q]) h := by
  have mem : ∀ (j : Nat) v, l[j]? = some v → 0 ≤ v ∧ v < 1013 := fun j v e => hr v (List.mem_of_getElem? e)
  obtain ⟨p, ep⟩ := far_ok n a1 a2 h (mem _ _ e2).1 (mem _ _ e2).2
  obtain ⟨q, eq⟩ := far_ok n a3 a4 h (mem _ _ e4).1 (mem _ _ e4).2
  have g : ∀ (j : Nat) v, l[j]? = some v → atI (l.map D.int) (j : Int) = some (.int v) := fun j v e => atI_nat (by rw [List.getElem?_map, e]; rfl)
  have g0 := g _ _ e0
  have g1 := g _ _ e1
  have g2 := g _ _ e2
  have g3 := g _ _ e3
  have g4 := g _ _ e4
  simp only [Int.natCast_add, Int.cast_ofNat_Int] at g1 g2 g3 g4
  have q8 : ∀ x : Int, binD .mod (.int x) (.int 8) h = .ok (.int (x % 8)) h := fun x => bMod h (by omega)
  refine ⟨a0 % 8, p, q, by omega, by omega, ?_⟩
  rw [call_eq (c := ⟨2, 2, b11⟩) rfl rfl]
  simp [b11, hl, g0, g1, g2, g3, g4, ep, eq, q8]

abbrev sameL : Ss := (.cons (.iff (.not (.call 12 (.cons (.ix (.var 0) (.var 2)) (.cons (.ix (.var 1) (.var 2)) .nil)))) (.cons (.ret (.bl false)) .nil) .nil) .nil)
theorem same_refl : ∀ (k : Nat) (d : D), pd k d = true → ∀ (n : Nat) (h : Hh), callD G T W (k + n + 1) 12 [d, d] h = .ok (.bl true) h := by
  intro k
  induction k with
  | zero =>
    intro d hd n h
    rw [call_eq (c := ⟨2, 3, b12⟩) rfl rfl]
    cases d <;> first | (simp [pd] at hd; done) | simp [b12]
  | succ k ih =>
    intro d hd n h
    rw [call_eq (c := ⟨2, 3, b12⟩) rfl rfl]
    cases d <;> first | (simp [pd] at hd; done) | (simp [b12]; done) | skip
    rename_i l
    simp only [pd, Bool.and_eq_true, decide_eq_true_eq] at hd
    obtain ⟨h1, h2⟩ := hd
    obtain ⟨r', el, _⟩ := forS_id (t := .nm 2) (body := xss G (callD G T W (k + 1 + n)) W sameL) (fun r => ∃ d2, r = [some (.tup l), some (.tup l), d2]) h (rngD 0 l.length)
      (by
        rintro d hd r ⟨d2, rfl⟩
        obtain ⟨j, hj, rfl⟩ := rngD_mem hd
        have ej : l[j]? = some l[j] := List.getElem?_eq_getElem hj
        have ea : atI l (j : Int) = some l[j] := atI_nat ej
        have es : callD G T W (k + 1 + n) 12 [l[j], l[j]] h = .ok (.bl true) h := by
          have := ih l[j] (by rw [List.all_eq_true] at h2; exact h2 _ (List.getElem_mem hj)) n h
          rwa [show k + n + 1 = k + 1 + n by omega] at this
        exact ⟨_, _, rfl, by simp [sameL, ea, es]; rfl, _, rfl⟩)
      [some (.tup l), some (.tup l), none] ⟨none, rfl⟩
    have ok : okR (l.length : Int) := by unfold okR; omega
    have ef : xs G (callD G T W (k + 1 + n)) W (.forr (.nm 2) (.r1 (.blt .len (.cons (.var 1) .nil))) sameL) [some (.tup l), some (.tup l), none] h = .ok (.nx r') h := by
      rw [xsFor1, show ev G (callD G T W (k + 1 + n)) (.blt .len (.cons (.var 1) .nil)) [some (.tup l), some (.tup l), none] h = .ok (.int l.length) h from by simp, bindOk]
      show (if okR _ then _ else _) = _
      rw [if_pos ok, el]
    show (xss G (callD G T W (k + 1 + n)) W b12 [some (.tup l), some (.tup l), none] h).bind endD = _
    rw [b12, xssRt (d := .bl true) (h' := h) (by
      rw [xsIff, show ev G (callD G T W (k + 1 + n)) (.blt .isinst (.cons (.var 1) (.cons (.tup (.cons (.ty .tuple) (.cons (.ty .list) .nil))) .nil))) [some (.tup l), some (.tup l), none] h = .ok (.bl true) h from by simp, bindOk]
      show xss G _ W _ _ h = _
      rw [xssNx (r' := [some (.tup l), some (.tup l), none]) (h' := h) (by simp), xssNx (r' := [some (.tup l), some (.tup l), none]) (h' := h) (by simp), xssNx ef]
      simp)]
    rfl

theorem ismot_ok (n : Nat) (t p q : Int) (h : Hh) (h0 : 0 ≤ t) (h1 : t < 8) : callD G T W (n + 1) 13 [.tup [.int t, .int p, .int q]] h = .ok (.bl true) h := by
  rw [call_eq (c := ⟨1, 2, b13⟩) rfl rfl]
  have h2 : t ≤ 7 := by omega
  simp [b13, atI, ixN, h0, h2]


theorem behind' (n : Nat) {a b : M3} (h : Hh) (ha : ok8 a) (hb : ok8 b) : callD G T W (n + 3) 5 [mo a, mo b] h = .ok (mo (bh a b)) h := by
  obtain ⟨t, p, q⟩ := a
  obtain ⟨u, r, s⟩ := b
  have e := behind_ok n t p q u r s h ha.1 ha.2 hb.1 hb.2
  have z1 := t00 t
  have z2 := t00 (tbh t u)
  rw [z1.1, z1.2, z2.1, z2.2] at e
  simpa [mo, bh] using e
theorem back' (n : Nat) {a : M3} (h : Hh) (ha : ok8 a) : callD G T W (n + 3) 6 [mo a] h = .ok (mo (bk a)) h := by
  obtain ⟨t, p, q⟩ := a
  have e := back_ok n t p q h ha.1 ha.2
  have z1 := t00 t
  rw [z1.1, z1.2] at e
  simpa [mo, bk] using e
theorem lmoved' (n : Nat) {a : M3} (x : Int × Int) (h : Hh) (ha : ok8 a) : ∃ g, callD G T W (n + 2) 10 [mo a, pl x] h = .ok (pl (act a x)) (h ++ g) := lmoved_ok n a.1 a.2.1 a.2.2 x.1 x.2 h ha.1 ha.2
abbrev rowC : E := (.comp (.nm 0) .r1 (.cons (.blt .len (.cons (.var 0) .nil)) .nil) .nil (.call 11 (.cons (.call 7 (.cons (.var 1) (.cons (.var 0) (.cons (.int 5) .nil)))) (.cons (.int 0) .nil))) ["_law_k", "_law_script"] [0])
abbrev loopB : Ss := (.cons (.asg (.nm 5) (.call 10 (.cons (.ix (.var 1) (.var 9)) (.cons (.var 5) .nil)))) (.cons (.asg (.nm 6) (.call 5 (.cons (.var 6) (.cons (.ix (.var 1) (.var 9)) .nil)))) (.cons (.asg (.nm 7) (.call 5 (.cons (.call 6 (.cons (.ix (.var 1) (.var 9)) .nil)) (.cons (.var 7) .nil)))) (.cons (.stx (.var 8) (.blt .int (.cons (.cmp .ge (.var 9) (.var 4)) .nil)) (.call 5 (.cons (.ix (.var 8) (.blt .int (.cons (.cmp .ge (.var 9) (.var 4)) .nil))) (.cons (.ix (.var 1) (.var 9)) .nil)))) .nil))))

structure Cs (cl : Cl) : Prop where
  draws : ∀ (ns : List Int) (at' : Int) (M : Nat) (hM : M ≤ 1000) (h : Hh), 0 ≤ at' → at' < 100000 → lstAt h 0 = some (ns.map D.int) → ∃ row : List Int, row.length = M ∧ InR row ∧ cl 7 [.ref 0, .int at', .int M] h = .ok (.ref h.length) (h ++ [.lst (row.map D.int)])
  far : ∀ (a b : Int) (h : Hh), 0 ≤ b → b < 1013 → ∃ v : Int, cl 8 [.int a, .int b] h = .ok (.int v) h
  lmotion : ∀ (k : Nat) (l : List Int) (a0 a1 a2 a3 a4 : Int) (h : Hh), lstAt h k = some (l.map D.int) → l[0]? = some a0 → l[1]? = some a1 → l[2]? = some a2 → l[3]? = some a3 → l[4]? = some a4 → InR l → ∃ m : M3, ok8 m ∧ cl 11 [.ref k, .int 0] h = .ok (mo m) h
  lmoved : ∀ (a : M3) (x : Int × Int) (h : Hh), ok8 a → ∃ g, cl 10 [mo a, pl x] h = .ok (pl (act a x)) (h ++ g)
  behind : ∀ (a b : M3) (h : Hh), ok8 a → ok8 b → cl 5 [mo a, mo b] h = .ok (mo (bh a b)) h
  back : ∀ (a : M3) (h : Hh), ok8 a → cl 6 [mo a] h = .ok (mo (bk a)) h
  same : ∀ (m : M3) (h : Hh), cl 12 [mo m, mo m] h = .ok (.bl true) h
  ismot : ∀ (m : M3) (h : Hh), ok8 m → cl 13 [mo m] h = .ok (.bl true) h
theorem csAll : Cs (callD G T W 99) where
  draws := fun ns at' M hM h h0 h1 hs => draws 98 ns at' M hM h h0 h1 hs
  far := fun a b h h0 h1 => far_ok 98 a b h h0 h1
  lmotion := fun k l a0 a1 a2 a3 a4 h hl e0 e1 e2 e3 e4 hr => by
    obtain ⟨t, p, q, h0, h1, e⟩ := lmotion_ok 97 k l 0 a0 a1 a2 a3 a4 h hl e0 e1 e2 e3 e4 hr
    exact ⟨(t, p, q), ⟨h0, h1⟩, e⟩
  lmoved := fun a x h ha => lmoved' 97 x h ha
  behind := fun a b h ha hb => behind' 96 h ha hb
  back := fun a h ha => back' 96 h ha
  same := fun m h => same_refl 1 (mo m) (by simp [mo, pd]) 97 h
  ismot := fun m h hm => ismot_ok 98 m.1 m.2.1 m.2.2 h hm.1 hm.2
theorem stxL (n : Nat) (i : Int) (z : D) (h : Hh) : stxD (.ref n) (.int i) z h = (match h[n]? with | some (.lst l) => (match ixN l.length i with | some j => .ok () (h.set n (.lst (l.set j z))) | none => .bad) | _ => .bad) := rfl
theorem row_ok {cl : Cl} (C : Cs cl) (ns : List Int) (hn : ns.length ≤ 63) (rest : Ev) : ∃ zs g, ev G (cl) rowC (some (.ref 0) :: rest) [.ro (ns.map D.int)] = .ok (.ref 1) ([.ro (ns.map D.int), .lst zs] ++ g) ∧ zs.length = ns.length ∧ ∀ z ∈ zs, ∃ m, ok8 m ∧ z = mo m := by
  obtain ⟨zs, g, e, hz, pz⟩ := compS_all (t := .nm 0) (cs := evt G (cl) .nil) (f := ev G (cl) (.call 11 (.cons (.call 7 (.cons (.var 1) (.cons (.var 0) (.cons (.int 5) .nil)))) (.cons (.int 0) .nil)))) (h0 := [.ro (ns.map D.int)])
    (fun r => ∃ d, r = [d, some (.ref 0)]) (fun z => ∃ m, ok8 m ∧ z = mo m) (rngD 0 ns.length) (by
      rintro d hd r ys g ⟨d0, rfl⟩
      obtain ⟨k, hk, rfl⟩ := rngD_mem hd
      obtain ⟨row, hl, hr, e⟩ := C.draws ns k 5 (by decide) ([.ro (ns.map D.int)] ++ .lst ys :: g) (by omega) (by omega) rfl
      have e' : cl 7 [D.ref 0, D.int k, D.int 5] ([.ro (ns.map D.int)] ++ .lst ys :: g) = _ := e
      match row, hl with
      | [a0, a1, a2, a3, a4], _ =>
        obtain ⟨m, hm, em⟩ := C.lmotion ([.ro (ns.map D.int)] ++ .lst ys :: g : Hh).length [a0, a1, a2, a3, a4] a0 a1 a2 a3 a4 (([.ro (ns.map D.int)] ++ .lst ys :: g) ++ [.lst ([a0, a1, a2, a3, a4].map D.int)]) (lstAt_last _ _) rfl rfl rfl rfl rfl hr
        have em' : cl 11 [D.ref ([.ro (ns.map D.int)] ++ .lst ys :: g : Hh).length, D.int 0] _ = _ := em
        refine ⟨[some (.int k), some (.ref 0)], mo m, [.lst ([a0, a1, a2, a3, a4].map D.int)], rfl, by simp, ?_, ⟨m, hm, rfl⟩, ⟨_, rfl⟩⟩
        rw [evCall]
        simp only [evsCons, evsNil, evCall, evVar, evInt, List.getElem?_cons_succ, ge0, bindOk, e', em']
        simp)
    [none, some (.ref 0)] [] [] ⟨_, rfl⟩ (by rw [rngD_len]; simp; omega)
  refine ⟨zs, g, ?_, by rw [hz, rngD_len], pz⟩
  refine evComp_r1 (h1 := [.ro (ns.map D.int)]) (j := ns.length) (by simp [lstAt, lstOf]) (okR_nat (by omega)) e
theorem turn_ok {cl : Cl} (C : Cs cl) (k : Nat) (st : Int × Int) (cut : Int) (a p0 p1 m : M3) (H1 g : Hh) (zs : List D) (d2 d9 : Option D) (ha : ok8 a) (h0 : ok8 p0) (h1 : ok8 p1) (hm : ok8 m) (hz : ∀ g' : Hh, lstAt (H1 ++ g') 1 = some zs) (hk : zs[k]? = some (mo m)) :
    ∃ g', xss G (cl) W loopB [some (.ref 0), some (.ref 1), d2, some (pl st), some (.int cut), some (pl (act a st)), some (mo a), some (mo (bk a)), some (.ref H1.length), some (.int k)] (H1 ++ .lst [mo p0, mo p1] :: g)
      = .ok (.nx [some (.ref 0), some (.ref 1), d2, some (pl st), some (.int cut), some (pl (act (bh a m) st)), some (mo (bh a m)), some (mo (bk (bh a m))), some (.ref H1.length), some (.int k)]) (H1 ++ .lst (if cut ≤ (k : Int) then [mo p0, mo (bh p1 m)] else [mo (bh p0 m), mo p1]) :: g') := by
  obtain ⟨g1, e1⟩ := C.lmoved m (act a st) (H1 ++ .lst [mo p0, mo p1] :: g) hm
  rw [show (H1 ++ .lst [mo p0, mo p1] :: g) ++ g1 = H1 ++ .lst [mo p0, mo p1] :: (g ++ g1) by simp] at e1
  have e1' : cl 10 [mo m, pl (act a st)] _ = _ := e1
  generalize hG : (H1 ++ .lst [mo p0, mo p1] :: (g ++ g1) : Hh) = HH at e1'
  have e2 : cl 5 [mo a, mo m] HH = _ := C.behind _ _ HH ha hm
  have e3 : cl 6 [mo m] HH = _ := C.back _ HH hm
  have e4 : cl 5 [mo (bk m), mo (bk a)] HH = _ := C.behind _ _ HH (bk8 hm) (bk8 ha)
  have e5 : cl 5 [mo p0, mo m] HH = _ := C.behind _ _ HH h0 hm
  have e6 : cl 5 [mo p1, mo m] HH = _ := C.behind _ _ HH h1 hm
  rw [bk_bh ha hm] at e4
  rw [← act_bh ha hm] at e1'
  have hz1 := hz (.lst [mo p0, mo p1] :: g)
  have hz2 : lstAt HH 1 = some zs := by rw [← hG]; exact hz _
  have hp : lstAt HH H1.length = some [mo p0, mo p1] := by rw [← hG]; exact lstAt_mid _ _ _
  have hp2 : HH[H1.length]? = some (.lst [mo p0, mo p1]) := by rw [← hG]; exact get_mid _ _ _
  have ai : atI zs (k : Int) = some (mo m) := atI_nat hk
  have b0 : ∀ b : Bool, bltD .int [.bl b] HH = .ok (.int (if b then 1 else 0)) HH := fun b => rfl
  refine ⟨g ++ g1, ?_⟩
  rw [loopB, xssNx (r' := [some (.ref 0), some (.ref 1), d2, some (pl st), some (.int cut), some (pl (act (bh a m) st)), some (mo a), some (mo (bk a)), some (.ref H1.length), some (.int k)]) (h' := HH) (by simp [hz1, ai, e1']),
    xssNx (r' := [some (.ref 0), some (.ref 1), d2, some (pl st), some (.int cut), some (pl (act (bh a m) st)), some (mo (bh a m)), some (mo (bk a)), some (.ref H1.length), some (.int k)]) (h' := HH) (by simp [hz2, ai, e2]),
    xssNx (r' := [some (.ref 0), some (.ref 1), d2, some (pl st), some (.int cut), some (pl (act (bh a m) st)), some (mo (bh a m)), some (mo (bk (bh a m))), some (.ref H1.length), some (.int k)]) (h' := HH) (by simp [hz2, ai, e3, e4])]
  by_cases hc : cut ≤ (k : Int)
  · rw [if_pos hc, xssNx (r' := [some (.ref 0), some (.ref 1), d2, some (pl st), some (.int cut), some (pl (act (bh a m) st)), some (mo (bh a m)), some (mo (bk (bh a m))), some (.ref H1.length), some (.int k)]) (h' := H1 ++ .lst [mo p0, mo (bh p1 m)] :: (g ++ g1)) (by
      have ix1 : atI [mo p0, mo p1] 1 = some (mo p1) := rfl
      have jx1 : ixN 2 1 = some 1 := rfl
      simp [hc, hp, ix1, hz2, ai, e6, stxL, hp2, jx1]
      rw [← hG, set_mid])]
    simp
  · rw [if_neg hc, xssNx (r' := [some (.ref 0), some (.ref 1), d2, some (pl st), some (.int cut), some (pl (act (bh a m) st)), some (mo (bh a m)), some (mo (bk (bh a m))), some (.ref H1.length), some (.int k)]) (h' := H1 ++ .lst [mo (bh p0 m), mo p1] :: (g ++ g1)) (by
      have ix1 : atI [mo p0, mo p1] 0 = some (mo p0) := rfl
      have jx1 : ixN 2 0 = some 0 := rfl
      simp [hc, hp, ix1, hz2, ai, e5, stxL, hp2, jx1]
      rw [← hG, set_mid])]
    simp
theorem run' {cl : Cl} (C : Cs cl) (ns : List Int) (hn : ns.length ≤ 63) : ∃ h', (xss G cl W b14 [some (.ref 0), none, none, none, none, none, none, none, none, none] [O.ro (List.map D.int ns)]).bind endD = .ok (.bl true) h' := by
  obtain ⟨zs, g0, er, hz, pz⟩ := row_ok C ns hn [none, none, none, none, none, none, none, none, none]
  obtain ⟨row, hl, hr, e⟩ := C.draws ns 0 12 (by decide) ([.ro (ns.map D.int), .lst zs] ++ g0) (by omega) (by omega) rfl
  have e' : cl 7 [D.ref 0, D.int 0, D.int 12] ([.ro (ns.map D.int), .lst zs] ++ g0) = _ := e
  match row, hl with
  | [a0, a1, a2, a3, a4, a5, a6, a7, a8, a9, a10, a11], _ =>
    have i9 := hr a9 (by simp)
    have i11 := hr a11 (by simp)
    generalize hdx : ([.ro (ns.map D.int), .lst zs] ++ g0 : Hh).length = dx at e'
    generalize hH1 : (([.ro (ns.map D.int), .lst zs] ++ g0) ++ [.lst ([a0, a1, a2, a3, a4, a5, a6, a7, a8, a9, a10, a11].map D.int)] : Hh) = H1 at e'
    have hd : lstAt H1 dx = some ([a0, a1, a2, a3, a4, a5, a6, a7, a8, a9, a10, a11].map D.int) := by rw [← hH1, ← hdx]; exact lstAt_last _ _
    have hz1 : lstAt H1 1 = some zs := by rw [← hH1]; rfl
    obtain ⟨x, ex⟩ := C.far a8 a9 H1 i9.1 i9.2
    obtain ⟨y, ey⟩ := C.far a10 a11 H1 i11.1 i11.2
    have ex' : cl 8 _ H1 = _ := ex
    have ey' : cl 8 _ H1 = _ := ey
    have qm : binD .mod (.int a7) (.int ((zs.length : Int) + 1)) H1 = .ok (.int (a7 % ((zs.length : Int) + 1))) H1 := bMod _ (by omega)
    generalize a7 % ((zs.length : Int) + 1) = cut at qm
    obtain ⟨r', h', el, a, p0, p1, g, d9, ha, h0, h1, hb, hc, rfl, rfl⟩ := forS_inv (t := .nm 9) (body := xss G (cl) W loopB)
      (fun k r h => ∃ (a p0 p1 : M3) (g : Hh) (d9 : Option D), ok8 a ∧ ok8 p0 ∧ ok8 p1 ∧ bh p0 p1 = a ∧ ((k : Int) ≤ cut → p1 = (0, 0, 0)) ∧ r = [some (.ref 0), some (.ref 1), some (.ref dx), some (pl (x, y)), some (.int cut), some (pl (act a (x, y))), some (mo a), some (mo (bk a)), some (.ref H1.length), d9] ∧ h = H1 ++ .lst [mo p0, mo p1] :: g)
      (rngD 0 zs.length) 0 (by
        rintro k d hk r h ⟨a, p0, p1, g, d9, ha, h0, h1, hb, hc, rfl, rfl⟩
        have hlt : k < zs.length := by
          have := (List.getElem?_eq_some_iff.mp hk).1
          rwa [rngD_len] at this
        rw [rngD_get _ _ hlt] at hk
        cases hk
        have ez : zs[k]? = some zs[k] := List.getElem?_eq_getElem hlt
        obtain ⟨m, hm, em⟩ := pz _ (List.getElem_mem hlt)
        rw [em] at ez
        obtain ⟨g', et⟩ := turn_ok C k (x, y) cut a p0 p1 m H1 g zs (some (.ref dx)) d9 ha h0 h1 hm (fun g' => lstAt_app _ g' hz1) ez
        refine ⟨_, _, _, rfl, et, bh a m, (if cut ≤ (k : Int) then p0 else bh p0 m), (if cut ≤ (k : Int) then bh p1 m else p1), g', some (.int k), bh8 _ _, ?_, ?_, ?_, ?_, rfl, ?_⟩
        · split
          · exact h0
          · exact bh8 _ _
        · split
          · exact bh8 _ _
          · exact h1
        · split
          · rw [← bh_assoc h0 h1 hm, hb]
          · rename_i hcc
            have z := hc (by omega)
            rw [z, bh_r0 (bh8 _ _)]
            rw [z, bh_r0 h0] at hb
            rw [hb]
        · intro hcc
          have z : ¬ cut ≤ (k : Int) := by omega
          rw [if_neg z]
          exact hc (by omega)
        · split <;> rfl)
      [some (.ref 0), some (.ref 1), some (.ref dx), some (pl (x, y)), some (.int cut), some (pl (x, y)), some (mo (0, 0, 0)), some (mo (0, 0, 0)), some (.ref H1.length), none] (H1 ++ [.lst [mo (0, 0, 0), mo (0, 0, 0)]])
      ⟨(0, 0, 0), (0, 0, 0), (0, 0, 0), [], none, ⟨by decide, by decide⟩, ⟨by decide, by decide⟩, ⟨by decide, by decide⟩, by decide, fun _ => rfl, by rw [act_0, bk_0], rfl⟩
    generalize hHF : (H1 ++ .lst [mo p0, mo p1] :: g : Hh) = HF at *
    have hp : lstAt HF H1.length = some [mo p0, mo p1] := by rw [← hHF]; exact lstAt_mid _ _ _
    have eim : cl 13 [mo a] HF = _ := C.ismot a HF ha
    obtain ⟨g1, e1⟩ := C.lmoved a (x, y) HF ha
    have e1' : cl 10 [mo a, pl (x, y)] HF = _ := e1
    generalize hHG : HF ++ g1 = HG at e1'
    have hp' : lstAt HG H1.length = some [mo p0, mo p1] := by rw [← hHG]; exact lstAt_app _ _ hp
    have e2 : cl 5 [mo p0, mo p1] HG = _ := C.behind _ _ HG h0 h1
    rw [hb] at e2
    have e3 : cl 6 [mo a] HG = _ := C.back _ HG ha
    have e4 : cl 5 [mo a, mo (bk a)] HG = _ := C.behind _ _ HG ha (bk8 ha)
    rw [bh_inv ha] at e4
    obtain ⟨g2, e5⟩ := C.lmoved (bk a) (act a (x, y)) HG (bk8 ha)
    rw [act_bk ha] at e5
    have e5' : cl 10 [mo (bk a), pl (act a (x, y))] HG = _ := e5
    have sm : ∀ (m : M3) (h : Hh), cl 12 [mo m, mo m] h = .ok (.bl true) h := C.same
    have pp : ∀ (z : Int × Int) (h : Hh), cmpD .ne (pl z) (pl z) h = .ok (.bl false) h := fun z h => by simp [pl]
    have pq : ∀ (z : Int × Int) (h : Hh), cmpD .eq (pl z) (pl z) h = .ok (.bl true) h := fun z h => by simp [pl]
    refine ⟨HG ++ g2, ?_⟩
    have s4 : xs G (cl) W (.asg (.nm 3) (.tup (.cons (.call 8 (.cons (.ix (.var 2) (.int 8)) (.cons (.ix (.var 2) (.int 9)) .nil))) (.cons (.call 8 (.cons (.ix (.var 2) (.int 10)) (.cons (.ix (.var 2) (.int 11)) .nil))) .nil)))) [some (.ref 0), some (.ref 1), some (.ref dx), none, none, none, none, none, none, none] H1 = .ok (.nx [some (.ref 0), some (.ref 1), some (.ref dx), some (pl (x, y)), none, none, none, none, none, none]) H1 := by
      simp [hd, atI, ixN, ex', ey', pl]
    rw [b14, xssNx (r' := [some (.ref 0), some (.ref 1), none, none, none, none, none, none, none, none]) (h' := [.ro (ns.map D.int), .lst zs] ++ g0) (by rw [xsAsc, er]; rfl),
      xssNx (r' := [some (.ref 0), some (.ref 1), some (.ref dx), none, none, none, none, none, none, none]) (h' := H1) (by simp only [xsAsg, evCall, evsCons, evsNil, evVar, evInt, ge0, bindOk, e']; rfl),
      xssNx s4,
      xssNx (r' := [some (.ref 0), some (.ref 1), some (.ref dx), some (pl (x, y)), some (.int cut), none, none, none, none, none]) (h' := H1) (by simp [hd, hz1, atI, ixN, qm]),
      xssNx (r' := [some (.ref 0), some (.ref 1), some (.ref dx), some (pl (x, y)), some (.int cut), some (pl (x, y)), none, none, none, none]) (h' := H1) (by simp),
      xssNx (r' := [some (.ref 0), some (.ref 1), some (.ref dx), some (pl (x, y)), some (.int cut), some (pl (x, y)), some (mo (0, 0, 0)), none, none, none]) (h' := H1) (by simp [gc0]; rfl),
      xssNx (r' := [some (.ref 0), some (.ref 1), some (.ref dx), some (pl (x, y)), some (.int cut), some (pl (x, y)), some (mo (0, 0, 0)), some (mo (0, 0, 0)), none, none]) (h' := H1) (by simp [gc0]; rfl),
      xssNx (r' := [some (.ref 0), some (.ref 1), some (.ref dx), some (pl (x, y)), some (.int cut), some (pl (x, y)), some (mo (0, 0, 0)), some (mo (0, 0, 0)), some (.ref H1.length), none]) (h' := H1 ++ [.lst [mo (0, 0, 0), mo (0, 0, 0)]]) (by simp [gc0]; rfl),
      xssNx (r' := [some (.ref 0), some (.ref 1), some (.ref dx), some (pl (x, y)), some (.int cut), some (pl (act a (x, y))), some (mo a), some (mo (bk a)), some (.ref H1.length), d9]) (h' := HF) (by
        have hz2 : lstAt (H1 ++ [.lst [mo (0, 0, 0), mo (0, 0, 0)]]) 1 = some zs := lstAt_app _ _ hz1
        refine xsFor_r1 (j := zs.length) (h1 := H1 ++ [.lst [mo (0, 0, 0), mo (0, 0, 0)]]) (by simp [hz2]) (okR_nat (by omega)) ?_
        exact el),
      xssNx (r' := [some (.ref 0), some (.ref 1), some (.ref dx), some (pl (x, y)), some (.int cut), some (pl (act a (x, y))), some (mo a), some (mo (bk a)), some (.ref H1.length), d9]) (h' := HG) (by simp [eim, e1', pp]),
      xssNx (r' := [some (.ref 0), some (.ref 1), some (.ref dx), some (pl (x, y)), some (.int cut), some (pl (act a (x, y))), some (mo a), some (mo (bk a)), some (.ref H1.length), d9]) (h' := HG) (by simp [hp', atI, ixN, e2, sm, e3])]
    have z3 : (.tup [.int 0, .int 0, .int 0] : D) = mo (0, 0, 0) := rfl
    simp [e4, sm, e5', pq, z3]
theorem run (ns : List Int) (hn : ns.length ≤ 63) : ∃ h', callD G T W (99 + 1) 14 [.ref 0] [.ro (ns.map D.int)] = .ok (.bl true) h' := by
  rw [call_eq (c := ⟨1, 10, b14⟩) rfl rfl]
  exact run' csAll ns hn
end Pk05

end
open PySem PySem.W PyProof.Rows
set_option maxRecDepth 100000 in
set_option maxHeartbeats 0 in
theorem PySem.Challenge.cw_nightglass_k05_whole_rows_of_motions_holds : PySem.Challenge.rw_nightglass_k05_whole_rows_of_motions.Holds := by
  w_on; o_law; k_head; (case hw => w_witness2)
  k_fill
  refine Ng.law_of (G := Pk05.G) (T := Pk05.T) (W := Pk05.W) (l := PySem.Challenge.rw_nightglass_k05_whole_rows_of_motions) (n := 63) (k := 99) (lw := 14) (x := "_law_script") Pk05.run rfl (by decide) rfl ⟨rfl, by decide, by decide⟩ (fun w h Y => PySem.W.kIn_of Y) ?F
  case F =>
    intro w mg fa h KX Gn hmg
    refine' Pk05.all_mk KX Gn hmg ?fa0 ?fl0 ?fc0 ?fk0 ?fa1 ?fl1 ?fc1 ?fk1 ?fa2 ?fl2 ?fc2 ?fk2 ?fa3 ?fl3 ?fc3 ?fk3 ?fa4 ?fl4 ?fc4 ?fk4 ?fa5 ?fl5 ?fc5 ?fk5 ?fa6 ?fl6 ?fc6 ?fk6 ?fa7 ?fl7 ?fc7 ?fk7 ?fa8 ?fl8 ?fc8 ?fk8 ?fa9 ?fl9 ?fc9 ?fk9 ?fa10 ?fl10 ?fc10 ?fk10 ?fa11 ?fl11 ?fc11 ?fk11 ?fa12 ?fl12 ?fc12 ?fk12 ?fa13 ?fl13 ?fc13 ?fk13 ?fa14 ?fl14 ?fc14 ?fk14 ?ga0 ?tt0 ?ga1 ?tt4 ?ga2 ?tt7 ?tt8 ?tt13 ?tt18 ?tt23 ?tt28 ?tt33 ?tt38 ?tt43 ?ga3 ?z_len ?z_isinstance ?z_int ?z_list ?z_bool ?z_str ?z_tuple ?z_range
    (case fa0 => k_is)
    (case fl0 => k_is)
    (case fc0 => k_is)
    (case fk0 => k_is)
    (case fa1 => k_is)
    (case fl1 => k_is)
    (case fc1 => k_is)
    (case fk1 => k_is)
    (case fa2 => k_is)
    (case fl2 => k_is)
    (case fc2 => k_is)
    (case fk2 => k_is)
    (case fa3 => k_is)
    (case fl3 => k_is)
    (case fc3 => k_is)
    (case fk3 => k_is)
    (case fa4 => k_is)
    (case fl4 => k_is)
    (case fc4 => k_is)
    (case fk4 => k_is)
    (case fa5 => k_is)
    (case fl5 => k_is)
    (case fc5 => k_is)
    (case fk5 => k_is)
    (case fa6 => k_is)
    (case fl6 => k_is)
    (case fc6 => k_is)
    (case fk6 => k_is)
    (case fa7 => k_is)
    (case fl7 => k_is)
    (case fc7 => k_is)
    (case fk7 => k_is)
    (case fa8 => k_is)
    (case fl8 => k_is)
    (case fc8 => k_is)
    (case fk8 => k_is)
    (case fa9 => k_is)
    (case fl9 => k_is)
    (case fc9 => k_is)
    (case fk9 => k_is)
    (case fa10 => k_is)
    (case fl10 => k_is)
    (case fc10 => k_is)
    (case fk10 => k_is)
    (case fa11 => k_is)
    (case fl11 => k_is)
    (case fc11 => k_is)
    (case fk11 => k_is)
    (case fa12 => k_is)
    (case fl12 => k_is)
    (case fc12 => k_is)
    (case fk12 => k_is)
    (case fa13 => k_is)
    (case fl13 => k_is)
    (case fc13 => k_is)
    (case fk13 => k_is)
    (case fa14 => k_is)
    (case fl14 => k_is)
    (case fc14 => k_is)
    (case fk14 => k_is)
    (case ga0 => k_is)
    (case tt0 => k_is)
    (case ga1 => k_is)
    (case tt4 => k_is)
    (case ga2 => k_is)
    (case tt7 => k_is)
    (case tt8 => k_is)
    (case tt13 => k_is)
    (case tt18 => k_is)
    (case tt23 => k_is)
    (case tt28 => k_is)
    (case tt33 => k_is)
    (case tt38 => k_is)
    (case tt43 => k_is)
    (case ga3 => k_is)
    (case z_len => k_is)
    (case z_isinstance => k_is)
    (case z_int => k_is)
    (case z_list => k_is)
    (case z_bool => k_is)
    (case z_str => k_is)
    (case z_tuple => k_is)
    (case z_range => k_is)
